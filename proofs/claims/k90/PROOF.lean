import PyProof.Rows.All
import Wide.All
import OpenK.AllK
import Wide.FinOn
import HandS.ForMost
import HandS.ForExc
import HandS.ExcInit
import HandS.ExcValue
import HandS.ExcIs
import HandS.IsInst
import HandS.Wide
import HandS.Defaults
import HandS.MakeKw
import KE.KExcIs
import HandS.Star
import HandS.Gcd
import HandS.CallLocal
import HandS.CallSlots
import HandS.WordsExc
import HandS.Walk
import KE.GoesMore
import HandS.ClsMeth
import KE.KUnpackStar
import HandS.Property
import HandS.SlotsOwn
import HandS.OwnEq
import HandS.Conv
import HandS.RaiseMore
import HandS.Text
import HandS.StrMore
import PyProof.StrLawsChain
import HandS.OwnIter
import HandS.ListItems
import KE.KDictZip
import HandS.More
import PyProof.Rows.StrFirst
import PyProof.Rows.StrLawsPart
import KE.IntTextLaws
import Flt.Len
import PyProof.StrOps2
import PyProof.NeKinds
import PyProof.StrLawsIn
import PyProof.P3Eq
import HandS.FStr
import HandS.Dict
import HandS.MakeKwOnly
import PySem.Challenge.RW_pawlhall_k90_fractions_as_texts
set_option Elab.async false
set_option linter.all false
open PySem PySem.W PyProof.Rows in
set_option maxRecDepth 100000 in
set_option maxHeartbeats 0 in
open_top Paw.topHead for PySem.Challenge.rw_pawlhall_k90_fractions_as_texts

set_option maxRecDepth 100000
set_option maxHeartbeats 2000000
namespace Paw
open PySem PySem.Spec PyProof.Rows L2

/-! ### defs that want to know that no repr is under way around them -/
/-- the table of modules is where it was booted, and nobody tracks it -/
def Sys (h : Heap) (H : Hp) : Prop := H sysModules = none ∧ ∃ (o : Obj) (es : Array DictEntry) (ep : Nat), h.get? sysModules = some o ∧ o.data = .dict es ep
structure FnG (P : Program) (w : World) (K : PySem.W.Frag) (mg : Str → Option Value) (base : Heap) (CX : CXT) (k : Nat) (f : Addr) (fd : FuncData) (ps : List Str) (sp : Sp) : Prop where
  arity : ∀ vs H Q E, sp vs H Q E → vs.length = ps.length
  goes : ∀ (A : Around), A.guards = some [] → ∀ (outer : List Env) (s : Shared) (H : Hp) (args : Args) (us : List Value) (vs : List V) (Q : VK) (E : XK),
    Sys s.heap H → Room k A → Env0 P w K mg base A outer s H → BindsTo s fd args (ps.zip us) → Vals vs us → sp vs H Q E →
      codeAny (model P w) A (.call (.ref f) args) (CR CX outer P w H s Q E) s

section
variable {P : Program} {w : World} {K : PySem.W.Frag} {mg : Str → Option Value} {base : Heap} {CX : CXT} {k j : Nat} {f : Addr} {fd : FuncData} {ps : List Str} {sp : Sp}
theorem FnG.of (F : FnOk P w K mg base CX k f fd ps sp) : FnG P w K mg base CX k f fd ps sp := ⟨F.len, fun A _ o s H args us vs Q E _ => F.run A o s H args us vs Q E⟩
theorem FnG.up (F : FnG P w K mg base CX j f fd ps sp) (h : j ≤ k) : FnG P w K mg base CX k f fd ps sp :=
  ⟨F.arity, fun A g o s H args us vs Q E hS hr => F.goes A g o s H args us vs Q E hS (hr.mono h)⟩
end

theorem fnG_of {CX : CXT} {P : Program} {w : World} {K : PySem.W.Frag} {mg : Str → Option Value} {base : Heap} {k : Nat} {f : Addr} {name qual : Str} {params : Arguments} {body : List Stmt} {scope : Scope}
    {dV kV doc pm cdv ct oc : Value} {an od : Option Addr} {osl : Array (Option Value)} {N ps : List Str} {sp : Sp}
    (here : K.lookup f = some ⟨oc, od, .func (PySem.W.fnOf name qual params body scope dV kV doc pm an cdv ct), osl⟩) (code : PySem.W.codeIn K cdv qual = true) (S : FnScope N ps scope)
    (arity : ∀ vs H Q E, sp vs H Q E → vs.length = ps.length)
    (inner : ∀ (A : Around), A.guards = some [] → ∀ (outer : List Env) (s : Shared) (H : Hp) (vs : List V) (Q : VK) (E : XK), Sys s.heap H → Room k (A.deeper (envOfC qual scope s.heap.objs.size f cdv)) → sp vs H Q E →
      ∃ t, PSs (cxOf CX P w K mg base N qual scope f cdv A outer s H E) body t ∧ t { nx := fun _ H' => Q .non H', rt := Q } (start N vs) H) :
    FnG P w K mg base CX (k + 1) f (PySem.W.fnOf name qual params body scope dV kV doc pm an cdv ct) ps sp := by
  constructor
  · exact arity
  intro A hG outer s H args us vs Q E hS room e0 bound rel want
  have KIn : K.In s.heap := e0.mod.kin.keeps fun b o e => (e0.bs b o e).1
  have free : s.heap.NoLimit := e0.mod.nolimit.keeps fun b o e => (e0.bs b o e).1
  have places : ∀ y ∈ ps.zip us, scope.names.lookup y.1 = some .local ∨ (scope.names.lookup y.1 = some .cell ∧ ((cellsFrom (s.heap.objs.size + 1) scope.names []).lookup y.1).isSome = true) := by
    rintro ⟨n, v⟩ hy
    have hn := (List.of_mem_zip hy).1
    rcases S.par n hn with q | q
    · exact Or.inl q
    · exact Or.inr ⟨q, PySem.W.cellsFrom_some _ _ _ (Or.inl q)⟩
  apply codeAny_call_function room.depth (KIn _ _ here) rfl S.co S.gen rfl (PySem.W.codeRec_of KIn code) (bound _ _ _ _ _)
  apply wpAny_newFunctionEnv_cells S.kind places
  intro env he s1 x
  cases he
  refine ⟨free.keeps x.toInCall.keep, codeAny_func ?_⟩
  have ⟨t, ht, hq⟩ := inner A hG outer s H vs Q E hS (room.deeper _) want
  have I := inv_start (CX := CX) (E := E) S room.hd e0 (arity _ _ _ _ want) rel x
  apply wpAny_mono (ht.run [] s1 (start N vs) H _ I hq)
  · intro fl s' hs
    cases fl with
    | ret u =>
      have ⟨v, σ', H', J, rv, q⟩ := hs
      exact ⟨v, H', J.os, J.bare, J.base, J.hok, rv, q⟩
    | next =>
      have ⟨σ', H', J, q⟩ := hs
      exact ⟨V.non, H', J.os, J.bare, J.base, J.hok, rfl, q⟩
    | brk => exact hs.elim fun _ ⟨_, _, q⟩ => q.elim
    | cont => exact hs.elim fun _ ⟨_, _, q⟩ => q.elim
  · exact fun e s' hs => hs
section
variable {P : Program} {w : World} {K : PySem.W.Frag} {mg : Str → Option Value} {base : Heap}
/-- a def of the text that may look at repr -/
theorem funG {CX : CXT} {x qual : Str} {st : Stmt} {f : Addr} {fd : FuncData} {N ps : List Str} {k : Nat} {sp : Sp} (F : Fun K x qual st f fd) (S : FnScope N ps (defScope st)) (arity : ∀ vs H Q E, sp vs H Q E → vs.length = ps.length)
    (body : ∀ (cdv : Value) (A : Around), A.guards = some [] → ∀ (outer : List Env) (s : Shared) (H : Hp) (vs : List V) (Q : VK) (E : XK), Sys s.heap H → Room k (A.deeper (envOfC qual (defScope st) s.heap.objs.size f cdv)) → sp vs H Q E →
      ∃ t, PSs (cxOf CX P w K mg base N qual (defScope st) f cdv A outer s H E) (defBody st) t ∧ t { nx := fun _ H' => Q .non H', rt := Q } (start N vs) H) : FnG P w K mg base CX (k + 1) f fd ps sp := by
  have ⟨oc, od, kV, doc, pm, an, cdv, ct, osl, e, here, code⟩ := F.ex
  cases e
  exact fnG_of here code S arity (body cdv)
/-- .. out of which nothing is raised -/
theorem funG0 {x qual : Str} {st : Stmt} {f : Addr} {fd : FuncData} {N ps : List Str} {k : Nat} {sp : Sp} (F : Fun K x qual st f fd) (S : FnScope N ps (defScope st)) (arity : ∀ vs H Q E, sp vs H Q E → vs.length = ps.length)
    (body : ∀ (cdv : Value) (A : Around), A.guards = some [] → ∀ (outer : List Env) (s : Shared) (H : Hp) (vs : List V) (Q : VK) (E : XK), Sys s.heap H → Room k (A.deeper (envOfC qual (defScope st) s.heap.objs.size f cdv)) → sp vs H Q E →
      ∃ t, PSs (cxOf CX0 P w K mg base N qual (defScope st) f cdv A outer s H E).nox (defBody st) t ∧ t { nx := fun _ H' => Q .non H', rt := Q } (start N vs) H) : FnG P w K mg base CX0 (k + 1) f fd ps sp := by
  refine funG F S arity fun cdv A hG outer s H vs Q E hS room want => ?_
  obtain ⟨t, h, q⟩ := body cdv A hG outer s H vs Q E hS room want
  exact ⟨t, h.nox, q⟩
end
section
variable {X : Cx} {pins : List (Addr × Obj)} {σ : L2.St} {H : Hp} {s : Shared}
theorem sys_inv (I : Inv X pins σ H s) (S : Sys X.s_0.heap X.H_0) (hx : X.ex = []) : Sys s.heap H := by
  obtain ⟨h1, o, es, ep, h2, h3⟩ := S
  have nx : sysModules ∉ X.ex := by rw [hx]; exact List.not_mem_nil
  obtain ⟨sl, h4⟩ := I.base.any h2 h1 nx
  exact ⟨I.base.free _ o h2 h1 nx, _, es, ep, h4, h3⟩
/-- what a def that looks at repr must find around it -/
structure Gd (X : Cx) : Prop where
  g : X.A.guards = some []
  s : Sys X.s_0.heap X.H_0
  x : X.ex = []
variable {CX : CXT} {k : Nat} {f : Addr} {fd : FuncData} {ps : List Str} {sp : Sp} {dvs : List V} {ds : List Value} {E : XK} {x : Str} {p pos : Pos} {e : Expr} {es : List Expr} {t : TA}
theorem callee_goes {Q : VK} {us : List Value} {vs : List V} (F : FnG X.prog X.w X.K X.mg X.base CX k f fd ps sp) (g : Gd X) (hr : Room k X.A) (hb : Binds X.K fd ps ds) (hd : Vals dvs ds) (hx : Passes CX X E)
    (I : Inv X pins σ H s) (r : Vals vs us) (h : sp (vs ++ dvs) H Q E) : wpAny (model X.prog X.w) X.A (call (.ref f) us) (EP X pins σ Q) X.xe s := by
  have rel : Vals (vs ++ dvs) (us ++ ds) := r.append hd
  have many : (us ++ ds).length = ps.length := rel.length.symm.trans (F.arity _ _ _ _ h)
  apply wpAny_call
  apply codeAny_mono (F.goes X.A g.g X.stack s H ⟨us, []⟩ (us ++ ds) (vs ++ dvs) Q E (sys_inv I g.s g.x) hr I.env0 (hb s us I.kIn many) rel h)
  intro r s' q
  match r, q with
  | .error e, q => exact hx pins σ H s e s' I q
  | .ok (.ret u), q => exact I.after q
/-- f(e, ..), f a def that looks at repr -/
theorem pe_callG (F : FnG X.prog X.w X.K X.mg X.base CX k f fd ps sp) (g : Gd X) (hr : Room k X.A) (hg : Gl X x) (hm : X.mg x = some (.ref f)) (hk : PySem.W.keepIn X.K (.ref f) = true) (hb : Binds X.K fd ps ds) (hd : Vals dvs ds) (hx : Passes CX X E)
    (ha : PA X (e :: es) t) (hdb : (x == ("__debug__" : Str)) = false := by decide) (he : starEach (e :: es) X.env = (false, eval e X.env) :: starEach es X.env := by rfl) (hpl : (backTo pos (starEach es X.env)).any (·.1) = false := by rfl) :
    PE X (.Call (.Name x p) (e :: es) [] pos) (tCall sp dvs E t) := by
  constructor
  intro pins s σ H Q I h
  apply wpAny_Call_Name_kw
  apply ld_glob I hg hm _ hdb
  apply PySem.W.callWith_K (h₀ := X.base) I.ok.mod.kin hk _ he hpl
  apply thn (ha.run pos pins s σ H _ I h)
  rintro us s1 ⟨vs, H1, I1, r, q⟩
  exact ⟨I1.kIn, callee_goes F g hr hb hd hx I1 r q⟩
/-- f(), f a def that looks at repr -/
theorem pe_callG0 (F : FnG X.prog X.w X.K X.mg X.base CX k f fd ps sp) (g : Gd X) (hr : Room k X.A) (hg : Gl X x) (hm : X.mg x = some (.ref f)) (hk : PySem.W.keepIn X.K (.ref f) = true) (hb : Binds X.K fd ps ds) (hd : Vals dvs ds) (hx : Passes CX X E)
    (hdb : (x == ("__debug__" : Str)) = false := by decide) : PE X (.Call (.Name x p) [] [] pos) (tCall sp dvs E tNil) := by
  constructor
  intro pins s σ H Q I h
  apply wpAny_Call_Name_kw
  apply ld_glob I hg hm _ hdb
  exact PySem.W.callWith_K0 I.kIn hk (callee_goes (us := []) F g hr hb hd hx I .nil h)
end
end Paw

set_option maxRecDepth 100000
set_option maxHeartbeats 2000000
namespace Paw
open PySem PySem.Spec PyProof.Rows L2

/-! ### data on the heap, dicts too, and its repr -/
def dKey : Key → PyData
  | .inl i => .int i
  | .inr x => .str x
mutual
inductive RD (K : PySem.W.Frag) (H : Hp) : V → PyData → Prop
  | non : RD K H .non .none
  | bl (b : Bool) : RD K H (.bl b) (.bool b)
  | int (i : Int) : RD K H (.int i) (.int i)
  | str (x : Str) : RD K H (.str x) (.str x)
  | lst {a : Addr} {xs : List V} {ds : List PyData} (h : SqL K H a xs) (hs : RDs K H xs ds) : RD K H (.ref a) (.list ds)
  | tup {a : Addr} {xs : List V} {ds : List PyData} (h : SqT K H a xs) (hs : RDs K H xs ds) : RD K H (.ref a) (.tuple ds)
  | dic {a : Addr} {kvs : List (Key × V)} {ds : List (PyData × PyData)} (h : H a = some (.dK kvs)) (hs : RDk K H kvs ds) : RD K H (.ref a) (.dict ds)
inductive RDs (K : PySem.W.Frag) (H : Hp) : List V → List PyData → Prop
  | nil : RDs K H [] []
  | cons {v : V} {vs : List V} {d : PyData} {ds : List PyData} (h : RD K H v d) (hs : RDs K H vs ds) : RDs K H (v :: vs) (d :: ds)
inductive RDk (K : PySem.W.Frag) (H : Hp) : List (Key × V) → List (PyData × PyData) → Prop
  | nil : RDk K H [] []
  | cons {k : Key} {v : V} {vs : List (Key × V)} {d : PyData} {ds : List (PyData × PyData)} (h : RD K H v d) (hs : RDk K H vs ds) : RDk K H ((k, v) :: vs) ((dKey k, d) :: ds)
end
section
variable {X : Cx} {pins : List (Addr × Obj)} {σ : L2.St} {H : Hp} {s : Shared}
theorem key_reads {h : Heap} {P : Program} {w : World} {k : Key} {v : Value} (e : (mixKind P w).is k v = true) : Reads h v (dKey k) [] := by
  rcases keyIs_shape (show keyIs k v = true from e) with ⟨i, t, rfl, rfl⟩ | ⟨x, t, rfl, rfl⟩
  · exact Reads.int i t
  · exact Reads.str x t
theorem app_no {as bs : List Addr} {a : Addr} (h1 : a ∉ as) (h2 : a ∉ bs) : a ∉ as ++ bs := fun z => (List.mem_append.mp z).elim h1 h2
theorem cons_no {bs : List Addr} {a b : Addr} (h1 : a ≠ b) (h2 : a ∉ bs) : a ∉ b :: bs := fun z => (List.mem_cons.mp z).elim h1 h2
mutual
theorem RD.reads (I : Inv X pins σ H s) (S : Sys s.heap H) : ∀ (d : PyData) (v : V) (u : Value), RD X.K H v d → RelV v u → ∃ as, Reads s.heap u d as ∧ sysModules ∉ as
  | .none, _, _, h, r => by
    cases h
    cases r
    exact ⟨[], Reads.none, List.not_mem_nil⟩
  | .bool b, _, _, h, r => by
    cases h
    cases r
    exact ⟨[], Reads.bool b, List.not_mem_nil⟩
  | .int i, _, _, h, r => by
    cases h
    obtain ⟨t, rfl⟩ := r
    exact ⟨[], Reads.int i t, List.not_mem_nil⟩
  | .str x, _, _, h, r => by
    cases h
    obtain ⟨t, rfl⟩ := r
    exact ⟨[], Reads.str x t, List.not_mem_nil⟩
  | .list ds, _, _, h, r => by
    cases h with
    | @lst a xs _ hs ha =>
      cases r
      obtain ⟨its, rv, ⟨o, n, ho, hc, _, hd⟩, _⟩ := I.list hs
      obtain ⟨as, hr, hn⟩ := RDs.reads I S ds _ its ha rv
      refine ⟨_, Reads.list ho hc hd hr, cons_no (fun z => ?_) hn⟩
      obtain ⟨_, o', es, ep, e1, e2⟩ := S
      rw [z, ho] at e1
      have e3 := Option.some.inj e1
      rw [← e3, hd] at e2
      cases e2
  | .tuple ds, _, _, h, r => by
    cases h with
    | tup hs ha =>
      cases r
      obtain ⟨its, rv, ⟨o, ho, hc, n, hd⟩, _⟩ := I.tuple hs
      obtain ⟨as, hr, hn⟩ := RDs.reads I S ds _ its ha rv
      exact ⟨_, Reads.tuple ho hc hd hr, hn⟩
  | .dict ds, _, _, h, r => by
    cases h with
    | @dic a kvs _ hs ha =>
      cases r
      obtain ⟨_, hz, vs, rel, o, es, ep, ho, hx, hd, _, hp, _⟩ := dk_of I.hok hs
      obtain ⟨bs, h1, h2, hn⟩ := RDk.reads I S ds kvs vs es.toList ha rel hp
      exact ⟨_, Reads.dict ho hx.1 hd h1 h2, app_no (cons_no (fun z => by rw [z] at hz; exact absurd hz (by simp)) List.not_mem_nil) hn⟩
theorem RDs.reads (I : Inv X pins σ H s) (S : Sys s.heap H) : ∀ (ds : List PyData) (vs : List V) (us : List Value), RDs X.K H vs ds → Vals vs us → ∃ as, ReadsAll s.heap us ds as ∧ sysModules ∉ as
  | [], _, _, h, r => by
    cases h
    cases r
    exact ⟨[], ReadsAll.nil, List.not_mem_nil⟩
  | d :: ds, _, _, h, r => by
    cases h with
    | cons h1 h2 =>
      cases r with
      | cons r1 r2 =>
        obtain ⟨as, q1, n1⟩ := RD.reads I S d _ _ h1 r1
        obtain ⟨bs, q2, n2⟩ := RDs.reads I S ds _ _ h2 r2
        exact ⟨_, ReadsAll.cons q1 q2, app_no n1 n2⟩
theorem RDk.reads (I : Inv X pins σ H s) (S : Sys s.heap H) : ∀ (ds : List (PyData × PyData)) (kvs : List (Key × V)) (vs : List (Key × Value)) (es : List DictEntry), RDk X.K H kvs ds → KV kvs vs → Pairs (mixKind X.prog X.w) es vs →
    ∃ bs, ReadsAll s.heap (es.map (·.key)) (ds.map (·.1)) [] ∧ ReadsAll s.heap (es.map (·.val)) (ds.map (·.2)) bs ∧ sysModules ∉ bs
  | [], _, _, _, h, r, p => by
    cases h
    cases r
    cases p
    exact ⟨[], ReadsAll.nil, ReadsAll.nil, List.not_mem_nil⟩
  | (kd, d) :: ds, _, _, _, h, r, p => by
    cases h with
    | cons h1 h2 =>
      cases r with
      | @cons _ q _ _ r1 r2 =>
        cases p with
        | @cons e _ es _ p1 p2 p3 =>
          obtain ⟨k1, r1⟩ := r1
          obtain ⟨as, q1, n1⟩ := RD.reads I S d _ e.val h1 (by rw [p2]; exact r1)
          obtain ⟨bs, q2, q3, n2⟩ := RDk.reads I S ds _ _ es h2 r2 p3
          have kr : Reads s.heap e.key (dKey q.1) [] := key_reads p1
          refine ⟨as ++ bs, ?_, ReadsAll.cons q1 q3, app_no n1 n2⟩
          have z := ReadsAll.cons kr q2
          rw [← k1] at z
          exact z
end
end
def rReprD (K : PySem.W.Frag) : List V → Hp → VK → Prop := fun xs H Q => ∃ (x : V) (d : PyData), xs = [x] ∧ RD K H x d ∧ d.showable = true ∧ d.shown.length ≤ sizeLine ∧ d.depth ≤ 50 ∧ Q (.str d.shown) H
theorem call_reprD {X : Cx} {k : Nat} (g : Gd X) (hr : Room k X.A) : CallR X (.builtin "repr") (rReprD X.K) := by
  intro pins s σ H xs us Q I r h
  obtain ⟨x, d, rfl, hd, sh, sz, dp, q⟩ := h
  obtain ⟨u, rfl, ru⟩ := vals1 r
  have S := sys_inv I g.s g.x
  obtain ⟨as, rd, hn⟩ := RD.reads I S d x u hd ru
  have hu : X.A.units + (d.depth + 1) < cLine := by have := hr.units; omega
  cases rd with
  | none => exact P.repr_of_none ⟨.str _, H, I.tok _, ⟨_, rfl⟩, q⟩
  | bool b => exact P.repr_of_bool ⟨.str _, H, I.tok _, ⟨_, rfl⟩, q⟩
  | int i t => exact P.repr_of_int (by simpa [PyData.showable] using sh) ⟨.str _, H, I.tok _, ⟨_, rfl⟩, q⟩
  | str y t => exact P.repr_of_str ⟨.str _, H, I.tok _, ⟨_, rfl⟩, q⟩ sz
  | list e1 e2 e3 e4 => exact repr_of_reads' (Reads.list e1 e2 e3 e4) sh (fun _ => hn) g.g hu (fun _ _ e => e) (fun h' u tk hk => ⟨.str _, H, I.kept (t' := tk) hk, ⟨u, rfl⟩, q⟩) sz
  | tuple e1 e2 e3 e4 => exact repr_of_reads' (Reads.tuple e1 e2 e3 e4) sh (fun _ => hn) g.g hu (fun _ _ e => e) (fun h' u tk hk => ⟨.str _, H, I.kept (t' := tk) hk, ⟨u, rfl⟩, q⟩) sz
  | dict e1 e2 e3 e4 e5 => exact repr_of_reads' (Reads.dict e1 e2 e3 e4 e5) sh (fun _ => hn) g.g hu (fun _ _ e => e) (fun h' u tk hk => ⟨.str _, H, I.kept (t' := tk) hk, ⟨u, rfl⟩, q⟩) sz
end Paw

set_option maxRecDepth 100000
set_option maxHeartbeats 2000000
namespace Paw
open PySem PySem.Spec PyProof.Rows L2

/-! ### a law's end, from the promise of a def that may look at repr -/
def GoesWell (s1 : Shared) (r : Result) (s' : Shared) : Prop := r = .ok (.ret (.bool true)) ∧ OldK s1.heap s'.heap ∧ s'.os = s1.os ∧ AllBare s'.gens
/-- the call of the law from an abstract heap in which at most the script stands -/
theorem law_coreG {P : Program} {w : World} {K : PySem.W.Frag} {mg mb : Str → Option Value} {CX : CXT} {k : Nat} {fa a : Addr} {fd : FuncData} {x : Str} {sp : Sp} {s1 : Shared} {oa : Obj} {H : Hp}
    (KIn : K.In s1.heap) (nsG : s1.heap.Ns mainGlobals mg) (nsB : s1.heap.Ns builtinsNs mb) (boot : ∀ x : Str, x ≠ "__name__" → mb x = bootBuiltins x) (lim : s1.heap.NoLimit) (mods : ∃ mm, s1.heap.Ns sysModules mm) (gens : s1.gens = #[])
    (ha : s1.heap.get? a = some oa) (hna : ∀ es ep, oa.data ≠ .dict es ep) (room : Room k callerA)
    (F : ∀ base : Heap, K.In base → base.Ns mainGlobals mg → FnG P w K mg base CX k fa fd [x] sp) (bind : ∀ (s : Shared) (u : Value), BindsTo s fd ⟨[u], []⟩ [(x, u)])
    (only : Only H) (alone : ∀ b, H b ≠ none → b = a) (apart : H a ≠ none → K.lookup a = none) (ok : HOk P w H s1.heap)
    (want : sp [.ref a] H (fun v _ => v = .bl true) fun _ _ _ => False) (calm : ∀ e s', CX [] H s1 (fun _ _ _ => False) e s' → False) :
    codeAny (model P w) callerA (.call (.ref fa) ⟨[.ref a], []⟩) (GoesWell s1) s1 := by
  have free_of : ∀ {b : Addr} {o : Obj} {es : Array DictEntry} {ep : Nat}, s1.heap.get? b = some o → o.data = .dict es ep → H b = none := by
    intro b o es ep e d
    cases q : H b with
    | none => rfl
    | some u =>
      have eb := alone b (by rw [q]; exact Option.some_ne_none u)
      rw [eb, ha] at e
      cases e
      exact absurd d (hna es ep)
  have hid : ∀ {b : Addr} {m : Str → Option Value}, s1.heap.Ns b m → (hidT s1.heap H).Ns b m := by
    rintro b m ⟨o, es, ep, e, d, rest⟩
    exact ⟨o, es, ep, hidT_get e (free_of e d), d, rest⟩
  have KBase : K.In (hidT s1.heap H) := by
    intro b o e
    refine hidT_get (KIn b o e) ?_
    cases q : H b with
    | none => rfl
    | some u =>
      have nn : H b ≠ none := by rw [q]; exact Option.some_ne_none u
      have eb := alone b nn
      rw [eb] at nn e
      rw [apart nn] at e
      cases e
  have M : Mod K mg (hidT s1.heap H) := by
    refine ⟨KBase, hid nsG, ⟨mb, hid nsB, boot⟩, ?_⟩
    obtain ⟨mc, q1, q2⟩ := lim
    exact ⟨mc, hid q1, q2⟩
  have e0 : Env0 P w K mg (hidT s1.heap H) callerA [] s1 H := by
    refine ⟨rfl, M, fun b o e => of_hidT e, Nat.le_of_eq (hidT_size _ _), trivial, fun b hb => ?_, ok, .of_eq gens⟩
    exact absurd (show b ∈ ([] : List Addr) from hb) List.not_mem_nil
  have S : Sys s1.heap H := by
    obtain ⟨mm, o, es, ep, e, d, _⟩ := mods
    exact ⟨free_of e d, o, es, ep, e, d⟩
  apply codeAny_mono ((F _ KBase (hid nsG)).goes callerA rfl [] s1 H ⟨[.ref a], []⟩ [.ref a] [.ref a] _ _ S room e0 (bind s1 (.ref a)) (.cons rfl .nil) want)
  intro r s' h
  match r, h with
  | .error e, h => exact (calm e s' h).elim
  | .ok (.ret u), ⟨v, H', os, bare, un, ok', rel, q⟩ =>
    cases (show v = .bl true from q)
    cases (show u = Value.bool true from rel)
    refine ⟨rfl, OldK.of_keep fun b o e => ?_, os, bare⟩
    cases q2 : H b with
    | none => exact un.keep b o e q2 List.not_mem_nil List.not_mem_nil
    | some u =>
      rcases only b with z | ⟨ob, xs, z⟩
      · rw [q2] at z
        cases z
      · have z1 := (ok b _ z).1
        have z2 := (ok' b _ (un.frzs b ob _ z)).1
        rw [e] at z1
        cases z1
        exact z2
theorem law_callG {P : Program} {w : World} {K : PySem.W.Frag} {mg mb : Str → Option Value} {CX : CXT} {k : Nat} {fa a : Addr} {fd : FuncData} {x : Str} {sp : Sp} {s1 : Shared} {vs : List Value} {ns : List Int}
    (KIn : K.In s1.heap) (nsG : s1.heap.Ns mainGlobals mg) (nsB : s1.heap.Ns builtinsNs mb) (boot : ∀ x : Str, x ≠ "__name__" → mb x = bootBuiltins x) (lim : s1.heap.NoLimit) (mods : ∃ mm, s1.heap.Ns sysModules mm) (gens : s1.gens = #[])
    (ha : s1.heap.get? a = some { cls := .type "list", data := .seq vs.toArray }) (isInts : IntsAre vs ns) (short : ns.length ≤ sizeLine) (room : Room k callerA)
    (F : ∀ base : Heap, K.In base → base.Ns mainGlobals mg → FnG P w K mg base CX k fa fd [x] sp) (bind : ∀ (s : Shared) (u : Value), BindsTo s fd ⟨[u], []⟩ [(x, u)])
    (want : ∀ H : Hp, Only H → SqL K H a (ns.map V.int) → sp [.ref a] H (fun v _ => v = .bl true) fun _ _ _ => False) (calm : ∀ H e s', CX [] H s1 (fun _ _ _ => False) e s' → False) :
    codeAny (model P w) callerA (.call (.ref fa) ⟨[.ref a], []⟩) (GoesWell s1) s1 := by
  have rel := vals_ints isInts
  have hna : ∀ es ep, (Data.seq vs.toArray 0 : Data) ≠ .dict es ep := fun es ep q => by cases q
  cases here : K.lookup a with
  | some o =>
    have e := KIn a o here
    rw [ha] at e
    cases e
    have sq : SqL K (fun _ => none) a (ns.map V.int) := by
      refine Or.inr ⟨_, vs.toArray, _, here, rfl, rfl, rfl, ?_, ?_⟩
      · rw [List.size_toArray, isInts.length]
        exact short
      · rw [List.toList_toArray]
        exact rel
    exact law_coreG KIn nsG nsB boot lim mods gens ha hna room F bind (fun _ => Or.inl rfl) (fun b z => absurd rfl z) (fun z => absurd rfl z) (fun b u z => by cases z) (want _ (fun _ => Or.inl rfl) sq) (calm _)
  | none =>
    let o : HO := .frz { cls := .type "list", data := .seq vs.toArray } (.lst (ns.map V.int))
    have at_a : (upd (fun _ => none) a o) a = some o := upd_same
    have off : ∀ {b : Addr}, b ≠ a → (upd (fun _ => none) a o) b = none := fun {b} h => upd_ne h
    have only : Only (upd (fun _ => none) a o) := by
      intro b
      by_cases h : b = a
      · rw [h]
        exact Or.inr ⟨_, _, at_a⟩
      · exact Or.inl (off h)
    refine law_coreG KIn nsG nsB boot lim mods gens ha hna room F bind only (fun b z => ?_) (fun _ => here) (fun b u z => ?_) (want _ only (Or.inl (Or.inr ⟨_, at_a⟩))) (calm _)
    · by_cases h : b = a
      · exact h
      · exact absurd (off h) z
    · by_cases h : b = a
      · rw [h] at z ⊢
        rw [at_a] at z
        cases z
        refine ⟨ha, ?_, vs, _, rel, ha⟩
        rw [List.length_map]
        exact short
      · rw [off h] at z
        cases z
theorem walkG {l : PySem.W.OpenLaw} {n k : Nat} {q : Program} {loose : List Str} {XP : (Str → Option Value) → Heap → Prop} {YP : World → Heap → Prop} {d : DefRec} {K : Params → PySem.W.Frag} {CX : World → CXT} {sp : PySem.W.Frag → Sp} {x : Str}
    (hn : l.most = some n) (hn2 : n ≤ sizeLine) (hdf : d.params.defaults = []) (hr : Room k callerA) (him : importsNone q = true)
    (hY : ∀ (w : World) (h : Heap), YP w h → (K w.params).In h)
    (F : ∀ (w : World) (mg : Str → Option Value) (fa : Addr) (h : Heap), (K w.params).In h → h.Ns mainGlobals mg → mg d.name = some (.ref fa) →
      ∃ fd : FuncData, (∀ (s : Shared) (u : Value), BindsTo s fd ⟨[u], []⟩ [(x, u)]) ∧
        ∀ base : Heap, (K w.params).In base → base.Ns mainGlobals mg → FnG l.prog w (K w.params) mg base (CX w) k fa fd [x] (sp (K w.params)))
    (want : ∀ (K : PySem.W.Frag) (H : Hp) (a : Addr) (ns : List Int), ns.length ≤ n → Only H → SqL K H a (ns.map V.int) → sp K [.ref a] H (fun v _ => v = .bl true) fun _ _ _ => False)
    (calm : ∀ (w : World) (H : Hp) (s : Shared) (e : Value) (s' : Shared), CX w [] H s (fun _ _ _ => False) e s' → False) :
    PySem.W.WalkO q loose XP YP l.row.toRowW d [] (fun f vs => PySem.call f vs) := by
  apply Att.attach_call hn hdf
  intro w s0 s1 mg mb fa o pm cd doc a vs ns G Y ho hd hcd hmg hobj hints hlen hg
  obtain ⟨fd, hb, hF⟩ := F w mg fa _ (hY w _ Y) G.T.g hmg
  exact law_callG (hY w _ Y) G.T.g G.T.b G.T.builtins G.T.nolimit (let ⟨mm, z, _⟩ := (G.T.seer him).mods; ⟨mm, z⟩) hg hobj hints (Nat.le_trans hlen hn2) hr hF hb (fun H hO hS => want _ H a ns hlen hO hS) fun H e s' => calm w H s1 e s'
end Paw

set_option maxRecDepth 100000
set_option maxHeartbeats 4000000
/-! ### an own exception class called with keywords -/
namespace PySem
namespace PawX
open PySem.W PySem.Calls PyProof.Rows PySem.HandSPX
section
variable {M : Model} {prog : Program} {w : World} {A : Around} {E : Value → Shared → Prop} {R : Result → Shared → Prop} {hp : Heap} {gs : Array GenState} {dr : Drawn} {tk : Nat} {os : OsState}
variable {nm q : Str} {C N : Addr} {bs bm bmB : List Value} {hdct : Bool} {sn : List Str} {sub : List Value} {ab : Bool} {col : Option Bool} {dd : Option Addr} {k0 k1 k2 k3 k5 : Option Value} {B newId initId : String}
variable {pos : List Value} {kw : List (Str × Value)}
theorem kw_check (F : ExcBaseFacts B newId initId bmB) (hT : ∀ X : String, bm.contains (.type X) = bmB.contains (.type X)) {Q : Unit → Shared → Prop}
    (hC : hp.get? C = some (excClassObj nm q C N bs bm hdct sn sub ab col dd k0 k1 k2 k3 k5 newId)) (then_ : Q () ⟨hp, gs, dr, tk, os⟩) :
    wpAny M A (checkBuiltinCall newId ⟨.ref C :: pos, kw⟩) Q E ⟨hp, gs, dr, tk, os⟩ := by
  have cont : (Value.ref C :: bm).contains (.type B) = true := by
    rw [List.contains_cons, hT, F.hasB, Bool.or_true]
  have star := F.noStar
  simp only [checkBuiltinCall, F.newKind, F.newSplit, F.newRow]
  repeat (first
    | refine wpAny_loadPart_at hC ?_
    | (refine wpAny_isSubtype_exc hC ?_; rw [cont])
    | refine wpAny_staticBase_exc hC ?_
    | refine wpAny_madeBy_exc hC ?_
    | simp only [bne_self_eq_false, Bool.false_eq_true, if_false]
    | wp_step)
  exact then_
theorem kw_new (F : ExcBaseFacts B newId initId bmB) (hT : ∀ X : String, bm.contains (.type X) = bmB.contains (.type X))
    (hC : hp.get? C = some (excClassObj nm q C N bs bm hdct sn sub ab col dd k0 k1 k2 k3 k5 newId))
    (then_ : R (.ok (.ret (.ref (hp.objs.size + 1)))) ⟨(hp.push (W.kdv_tup pos)).push (excO C hp.objs.size), gs, dr, tk, os⟩) (short : pos.length ≤ sizeLine) :
    codeAny (model prog w) A (.builtin newId ⟨.ref C :: pos, kw⟩) R ⟨hp, gs, dr, tk, os⟩ := by
  have fin := F.ends
  have cB : (Value.ref C :: bm).contains (.type B) = true := by
    rw [List.contains_cons, hT, F.hasB, Bool.or_true]
  have cA : (Value.ref C :: bm).contains (.type "AttributeError") = false := by
    rw [List.contains_cons, hT, F.noAttr]
    rfl
  have cN : (Value.ref C :: bm).contains (.type "NameError") = false := by
    rw [List.contains_cons, hT, F.noName]
    rfl
  refine codeAny_builtinAt F.entry ?_
  unfold Builtin.«BaseException.__new__»
  refine wpAt_bind ?_
  show wpAt _ _ _ (stack >>= _) _ _ _
  refine wpAt_bind (wpAt_stack fun p below => wpAt_of_wpAny ?_)
  wp_walk
  refine wpAt_of_wpAny ?_
  rw [F.owner]
  repeat (first
    | with_reducible refine wpAny_madeHere_exc F.canon hC ?_
    | with_reducible refine wpAny_loadPart_at hC ?_
    | (with_reducible refine wpAny_isSubtype_exc hC ?_; first | rw [cB] | rw [cA] | rw [cN])
    | wp_step)
  show R _ _
  rw [Heap.size_push]
  exact then_
theorem kw_type_call (F : ExcBaseFacts B newId initId bmB) (hT : ∀ X : String, bm.contains (.type X) = bmB.contains (.type X)) {fI : Addr} {Q : Fin → Shared → Prop}
    (hC : hp.get? C = some (excClassObj nm q C N bs bm hdct sn sub ab col dd k0 k1 k2 k3 k5 newId))
    (found : W.Looks (model prog w) hp (typeLookup (.ref C) "__init__") (some (.ref fI))) (bound : ∀ self, W.Looks (model prog w) hp (bindSpecial (.ref fI) self) (.ref fI, [self])) (short : pos.length ≤ sizeLine)
    (runs : codeAny (model prog w) A (.call (.ref fI) ⟨.ref (hp.objs.size + 1) :: pos, kw⟩)
      (fun r s' => match r with | .ok (.ret v) => v = .none ∧ Q (.done (.ret (.ref (hp.objs.size + 1)))) s' | .ok _ => False | .error e => E e s')
      ⟨(hp.push (W.kdv_tup pos)).push (excO C hp.objs.size), gs, dr, tk, os⟩) :
    wpAny (model prog w) A (Builtin.«type.__call__» ⟨.ref C :: pos, kw⟩) Q E ⟨hp, gs, dr, tk, os⟩ := by
  repeat (first
    | with_reducible refine wpAny_loadPart_at hC ?_
    | with_reducible refine wpAny_madeBy_exc hC ?_
    | wp_step)
  refine codeAny_call_builtin_code (Code.quiet_builtin _ F.quiet) (kw_check F hT hC ?_)
  refine kw_new F hT hC ?_ short
  show wpAny _ _ _ _ _ _
  have old : ∀ b o, hp.get? b = some o → ((hp.push (W.kdv_tup pos)).push (excO C hp.objs.size)).get? b = some o :=
    fun b o e => Heap.get?_push_of_some _ (Heap.get?_push_of_some _ e)
  have hC2 := old _ _ hC
  have made : ((hp.push (W.kdv_tup pos)).push (excO C hp.objs.size)).get? (hp.objs.size + 1) = some (excO C hp.objs.size) := by heap_get
  have cC : (Value.ref C :: bm).contains (.ref C) = true := by simp
  have look2 := found.keeps old
  have bind2 := (bound (.ref (hp.objs.size + 1))).keeps old
  unfold isInstance
  repeat (first
    | with_reducible refine wpAny_loadPart_at made ?_
    | (with_reducible refine wpAny_isSubtype_exc hC2 ?_; rw [cC])
    | wp_step)
  show wpAny _ _ (typeLookup (.ref C) _) _ _ _
  refine look2.at ?_
  refine wpAny_holding (wpAny_bind (bind2.at ?_))
  refine wpAny_bind (wpAny_call (codeAny_mono runs fun r s' z => ?_))
  rcases r with e | (v | _ | _ | _) <;> first | exact z | exact z.elim | skip
  obtain ⟨rfl, z⟩ := z
  first
    | exact wpAny_pure (wpAny_pure z)
    | (wp_walk; exact z)
theorem kw_call (F : ExcBaseFacts B newId initId bmB) (hT : ∀ X : String, bm.contains (.type X) = bmB.contains (.type X)) {fI : Addr}
    (hC : hp.get? C = some (excClassObj nm q C N bs bm hdct sn sub ab col dd k0 k1 k2 k3 k5 newId))
    (found : W.Looks (model prog w) hp (typeLookup (.ref C) "__init__") (some (.ref fI))) (bound : ∀ self, W.Looks (model prog w) hp (bindSpecial (.ref fI) self) (.ref fI, [self])) (short : pos.length ≤ sizeLine)
    (runs : codeAny (model prog w) (A.under (.builtin "type.__call__" ⟨.ref C :: pos, kw⟩)) (.call (.ref fI) ⟨.ref (hp.objs.size + 1) :: pos, kw⟩) (W.InitBack (hp.objs.size + 1) R)
      ⟨(hp.push (W.kdv_tup pos)).push (excO C hp.objs.size), gs, dr, tk, os⟩) :
    codeAny (model prog w) A (.call (.ref C) ⟨pos, kw⟩) R ⟨hp, gs, dr, tk, os⟩ := by
  have f1 := tc_lookup
  have f2 := tc_bind (.ref C)
  have ty : (⟨hp, gs, dr, tk, os⟩ : Shared).TypeIs (.ref C) "type" := ⟨_, hC, rfl⟩
  refine codeAny_of_tree ?_
  show wpAny _ _ (callAny (.ref C) _) _ _ _
  repeat (any_goals (first | assumption | with_reducible refine wpAny_loadPart_at hC ?_ | wp_step))
  refine ⟨rfl, ?_⟩
  refine codeAny_call_builtin_at (Code.quiet_builtin _ (by decide +kernel)) entry_typeCall (wpAny_check_type_call_sub hC (kw_type_call F hT hC found bound short ?_))
  refine codeAny_mono runs fun r s' z => ?_
  rcases r with e | (v | _ | _ | _) <;> exact z
end
end PawX
end PySem

set_option maxRecDepth 100000
set_option maxHeartbeats 2000000
namespace Paw
open PySem PySem.Spec PyProof.Rows L2

/-! ### exceptions of the program's own classes as values -/
/-- what the written part says of such a class -/
structure ExV (K : PySem.W.Frag) (C : Addr) : Prop where
  oex : OexC K C
  ga : PySem.W.findIn K (.ref C) "__getattribute__" = some (some (.builtin "BaseException.__getattribute__"))
  gg : PySem.W.findIn K (.ref C) "__getattr__" = some none
  hd : PySem.W.hasDictIn K C = true
  ca : PySem.W.findIn K (.ref C) "__class__" = some (some (.builtin "object.__class__"))
  cg : PySem.W.specialIn K (.builtin "object.__class__") "__get__" = some (some (.builtin "getset_descriptor.__get__"))
  ct : PySem.W.takesIn K (.builtin "object.__class__") = some true
  ob : PySem.W.mroIn K C (.type "object") = some true
/-- an error stands at a: of the class at C, with the fields fs -/
def Err (H : Hp) (a C : Addr) (fs : List (Str × V)) : Prop := ∃ d, H a = some (exo a C (some d)) ∧ H d = some (exd d fs)
/-- an error stands at a, with fields or without -/
def ErrAny (H : Hp) (a C : Addr) : Prop := ∃ d, H a = some (exo a C d) ∧ ∀ dx, d = some dx → ∃ fs, H dx = some (exd dx fs)
theorem Err.any {H : Hp} {a C : Addr} {fs : List (Str × V)} (h : Err H a C fs) : ErrAny H a C := by
  obtain ⟨d, h1, h2⟩ := h
  exact ⟨some d, h1, fun dx e => ⟨fs, by cases e; exact h2⟩⟩
theorem Err.mono {H H' : Hp} {a C : Addr} {fs : List (Str × V)} (h : Err H a C fs) (s : Same H H') : Err H' a C fs := by
  obtain ⟨d, h1, h2⟩ := h
  exact ⟨d, s _ _ h1, s _ _ h2⟩
theorem ErrAny.mono {H H' : Hp} {a C : Addr} (h : ErrAny H a C) (s : Same H H') : ErrAny H' a C := by
  obtain ⟨d, h1, h2⟩ := h
  exact ⟨d, s _ _ h1, fun dx e => (h2 dx e).elim fun fs q => ⟨fs, s _ _ q⟩⟩
/-- C(e, .., k = v, ..) as a value: n values behind one another, m by name -/
def tErr (C : Addr) (n m : Nat) (sp : Sp) (gV : List V → List V → List V) (t tk : TA) : TE := fun σ H Q => t σ H fun vs H1 => tk σ H1 fun zs H2 => vs.length = n ∧ n ≤ 1000 ∧ zs.length = m ∧
  ∀ a, H2 a = none → sp (gV (.ref a :: vs) zs) (upd H2 a (exo a C none)) (fun v H3 => v = .non ∧ Q (.ref a) H3) fun _ _ _ => False
section
variable {X : Cx} {CX : CXT} {k n : Nat} {f C : Addr} {fd : FuncData} {ps ks : List Str} {sp : Sp} {x : Str} {p pos : Pos} {e : Expr} {es : List Expr} {kws : List Keyword} {t tk : TA} {te : TE} {g : List Value → List Value → List Value} {gV : List V → List V → List V}
theorem err_runs {pins : List (Addr × Obj)} {σ : L2.St} {H : Hp} {s : Shared} {Q : VK} {us ws : List Value} {vs zs : List V} (T : OexC X.K C) (iC : PySem.W.findIn X.K (.ref C) "__init__" = some (some (.ref f))) (tI : PySem.W.typeIn X.K (.ref f) = some (.type "function"))
    (F : FnOk X.prog X.w X.K X.mg X.base CX k f fd ps sp) (hr : Room (k + 1) X.A) (hb : KBn X.K fd ps (n + 1) ks g gV) (hx : Passes CX X fun _ _ _ => False) (I : Inv X pins σ H s) (r : Vals vs us) (rz : Vals zs ws) (l1 : vs.length = n) (l0 : n ≤ 1000) (l2 : zs.length = ks.length)
    (h : ∀ a, H a = none → sp (gV (.ref a :: vs) zs) (upd H a (exo a C none)) (fun v H3 => v = .non ∧ Q (.ref a) H3) fun _ _ _ => False) :
    wpAny (model X.prog X.w) X.A (call (.ref C) us (ks.zip ws)) (EP X pins σ Q) X.xe s := by
  obtain ⟨nm, q, N, bs, bm, sn, sub, ab, col, dd, k0, k1, k2, k3, k5, hC, hbm⟩ := T.cls
  obtain ⟨hp, gs, dr, tk, os⟩ := s
  have new : hp.objs.size ≤ hp.objs.size + 1 := Nat.le_succ _
  have hq := h (hp.objs.size + 1) (I.hok.fresh new)
  have old : ∀ b o, hp.get? b = some o → ((hp.push (PySem.W.kdv_tup us)).push (PySem.HandSPX.excO C hp.objs.size)).get? b = some o := fun b o z => Heap.get?_push_of_some _ (Heap.get?_push_of_some _ z)
  have made : ((hp.push (PySem.W.kdv_tup us)).push (PySem.HandSPX.excO C hp.objs.size)).get? (hp.objs.size + 1) = some (PySem.HandSPX.excO C hp.objs.size) := by heap_get
  have J : Inv X pins σ (upd H (hp.objs.size + 1) (exo (hp.objs.size + 1) C none)) ⟨(hp.push (PySem.W.kdv_tup us)).push (PySem.HandSPX.excO C hp.objs.size), gs, dr, tk, os⟩ :=
    I.laid (t' := tk) old new (exo_ok made)
  have r1 : Vals (V.ref (hp.objs.size + 1) :: vs) (Value.ref (hp.objs.size + 1) :: us) := .cons rfl r
  have n1 : (Value.ref (hp.objs.size + 1) :: us).length = n + 1 := by
    rw [List.length_cons, ← r.length, l1]
  have short : us.length ≤ sizeLine := by
    rw [← r.length, l1, sizeLine_eq]
    omega
  apply wpAny_call
  apply PySem.PawX.kw_call PySem.F.excBase_ValueError (fun Y => PySem.HandSPX.refsVE_contains Y bm hbm) (I.kIn _ _ hC) (PySem.W.looks_findIn I.kIn iC) (fun self => PySem.W.bind_fn I.kIn self tI) short
  apply codeAny_mono (F.run _ X.stack _ _ ⟨Value.ref (hp.objs.size + 1) :: us, ks.zip ws⟩ (g (Value.ref (hp.objs.size + 1) :: us) ws) _ _ _ (hr.make C us (ks.zip ws)) (J.env0.make C us (ks.zip ws)) (hb.to _ (Value.ref (hp.objs.size + 1) :: us) ws J.kIn n1 (rz.length.symm.trans l2)) (hb.rel r1 rz) hq)
  intro r s' q
  match r, q with
  | .error er, q => exact hx pins σ _ _ er s' J q
  | .ok (.ret u), q =>
    obtain ⟨v, H', I3, rv, ev, q3⟩ := J.after q
    subst ev
    exact ⟨rv, .ref (hp.objs.size + 1), H', I3, rfl, q3⟩
theorem pe_err (T : OexC X.K C) (iC : PySem.W.findIn X.K (.ref C) "__init__" = some (some (.ref f))) (tI : PySem.W.typeIn X.K (.ref f) = some (.type "function")) (F : FnOk X.prog X.w X.K X.mg X.base CX k f fd ps sp) (hr : Room (k + 1) X.A) (hg : Gl X x) (hm : X.mg x = some (.ref C))
    (hb : KBn X.K fd ps (n + 1) [] g gV) (hx : Passes CX X fun _ _ _ => False) (ha : PA X (e :: es) t) (hdb : (x == ("__debug__" : Str)) = false := by decide) (he : starEach (e :: es) X.env = (false, eval e X.env) :: starEach es X.env := by rfl)
    (hpl : (backTo pos (starEach es X.env)).any (·.1) = false := by rfl) : PE X (.Call (.Name x p) (e :: es) [] pos) (tErr C n 0 sp gV t tNil) := by
  constructor
  intro pins s σ H Q I h
  apply wpAny_Call_Name_kw
  apply ld_glob I hg hm _ hdb
  apply PySem.W.callWith_K (h₀ := X.base) I.ok.mod.kin T.kC _ he hpl
  apply thn (ha.run pos pins s σ H _ I h)
  rintro us s1 ⟨vs, H1, I1, r, l1, l0, _, q⟩
  have z := err_runs (ks := []) (ws := []) (zs := []) T iC tI F hr hb hx I1 r .nil l1 l0 rfl q
  exact ⟨I1.kIn, z⟩
theorem pe_errK0 (T : OexC X.K C) (iC : PySem.W.findIn X.K (.ref C) "__init__" = some (some (.ref f))) (tI : PySem.W.typeIn X.K (.ref f) = some (.type "function")) (F : FnOk X.prog X.w X.K X.mg X.base CX k f fd ps sp) (hr : Room (k + 1) X.A) (hg : Gl X x) (hm : X.mg x = some (.ref C))
    (hb : KBn X.K fd ps 1 ks g gV) (hx : Passes CX X fun _ _ _ => False) (hkw : PK X kws tk) (hall : (backToKw pos (keywordEach kws X.env)).all (·.1.isSome) = true := by rfl) (hks : (backToKw pos (keywordEach kws X.env)).filterMap (·.1) = ks := by rfl)
    (hdb : (x == ("__debug__" : Str)) = false := by decide) (hpl : ((backTo pos (starEach [] X.env)).any (·.1) || (backToKw pos (keywordEach kws X.env)).any (·.1.isNone)) = false := by rfl) :
    PE X (.Call (.Name x p) [] kws pos) (tErr C 0 ks.length sp gV tNil tk) := by
  constructor
  intro pins s σ H Q I h
  apply wpAny_Call_Name_kw
  apply ld_glob I hg hm _ hdb
  apply PySem.W.callWith_KW0 (h₀ := X.base) I.ok.mod.kin T.kC hall _ hpl
  apply thn (hkw.run pos pins s σ H _ I h)
  rintro ws s2 ⟨zs, H2, I2, rz, l1, l0, l2, q⟩
  refine ⟨I2.kIn, ?_⟩
  rw [hks]
  exact err_runs (us := []) (vs := []) T iC tI F hr hb hx I2 .nil rz l1 l0 l2 q
theorem pe_errK (T : OexC X.K C) (iC : PySem.W.findIn X.K (.ref C) "__init__" = some (some (.ref f))) (tI : PySem.W.typeIn X.K (.ref f) = some (.type "function")) (F : FnOk X.prog X.w X.K X.mg X.base CX k f fd ps sp) (hr : Room (k + 1) X.A) (hg : Gl X x) (hm : X.mg x = some (.ref C))
    (hb : KBn X.K fd ps (n + 1) ks g gV) (hx : Passes CX X fun _ _ _ => False) (ha : PA X (e :: es) t) (hkw : PK X kws tk) (hall : (backToKw pos (keywordEach kws X.env)).all (·.1.isSome) = true := by rfl) (hks : (backToKw pos (keywordEach kws X.env)).filterMap (·.1) = ks := by rfl)
    (hdb : (x == ("__debug__" : Str)) = false := by decide) (he : starEach (e :: es) X.env = (false, eval e X.env) :: starEach es X.env := by rfl) (hpl : ((backTo pos (starEach (e :: es) X.env)).any (·.1) || (backToKw pos (keywordEach kws X.env)).any (·.1.isNone)) = false := by rfl) :
    PE X (.Call (.Name x p) (e :: es) kws pos) (tErr C n ks.length sp gV t tk) := by
  constructor
  intro pins s σ H Q I h
  apply wpAny_Call_Name_kw
  apply ld_glob I hg hm _ hdb
  apply PySem.W.callWith_KW (h₀ := X.base) I.ok.mod.kin T.kC hall _ hpl he
  apply thn (ha.run pos pins s σ H _ I h)
  rintro us s1 ⟨vs, H1, I1, r, q⟩
  apply thn (hkw.run pos pins s1 σ H1 _ I1 q)
  rintro ws s2 ⟨zs, H2, I2, rz, l1, l0, l2, q2⟩
  refine ⟨I2.kIn, ?_⟩
  rw [hks]
  exact err_runs T iC tI F hr hb hx I2 r rz l1 l0 l2 q2
/-- C(), C an own class of errors without __init__ -/
theorem pe_err0 {bmB : List Value} {B newId initId : String} (F : ExcBaseFacts B newId initId bmB) (q : PySem.W.excIn X.K C bmB newId = true) (gC : X.mg x = some (.ref C)) (kC : PySem.W.keepIn X.K (.ref C) = true) (hg : Gl X x)
    (hdb : (x == ("__debug__" : Str)) = false := by decide) : PE X (.Call (.Name x p) [] [] pos) (fun σ H Q => ∀ a, H a = none → Q (.ref a) (upd H a (exo a C none))) := by
  constructor
  intro pins s σ H Q I h
  apply wpAny_Call_Name_kw
  apply ld_glob I hg gC _ hdb
  apply PySem.W.callWith_K0 I.kIn kC
  obtain ⟨bm, N, nm, qn, bs, hdct, sn, sub, ab, col, dd, k0, k1, k2, k3, k5, mN, hC, hN, hni, T⟩ := exc_obj I.kIn q
  refine wpAny_call_exc_subT F T hC hN hni (fun h' a hm => ?_) (by show 0 ≤ sizeLine; omega)
  have new : H a = none := I.hok.gone hm.new
  obtain ⟨t, ht, _, _⟩ := hm.there
  exact ⟨.ref a, upd H a (exo a C none), I.laidN hm.keeps hm.new new (exo_ok ht), rfl, h a new⟩
/-- e.f, e an error with the field f -/
def tErrFld (K : PySem.W.Frag) (nm : Str) (te : TE) : TE := fun σ H Q => te σ H fun x H1 => ∃ (a C : Addr) (fs : List (Str × V)) (v : V), x = .ref a ∧ ExV K C ∧ PySem.W.findIn K (.ref C) nm = some none ∧ Err H1 a C fs ∧ fs.lookup nm = some v ∧ Q v H1
theorem pe_errFld {nm : Str} (he : PE X e te) (hb : attributeBase e nm X.env (eval e X.env) = eval e X.env := by rfl) : PE X (.Attribute e nm pos) (tErrFld X.K nm te) := by
  constructor
  intro pins s σ H Q I h
  apply attr_of hb
  apply thn (he.run pins s σ H _ I h)
  rintro u s1 ⟨x, H1, I1, rx, a, C, fs, v, rfl, T, no, ⟨d, ea, ed⟩, l, q⟩
  cases (show u = Value.ref a from rx)
  obtain ⟨t1, ho⟩ := exo_at I1.hok ea
  obtain ⟨mA, hn, rel⟩ := exd_at I1.hok ed
  obtain ⟨od, hod, hl⟩ := lookIn_ns hn
  obtain ⟨u, hu, ru⟩ := RelO.some_of (v := v) (o := mA nm) (by rw [← l]; exact rel nm)
  have J : PySem.W.InstAt s1.heap a _ C (some od) := ⟨ho, rfl, rfl, hod⟩
  exact HandSPX.exc_get I1.kIn J T.ga T.gg T.oex.exC (PySem.W.findObj_own T.hd no rfl (by rw [hl, hu])) (handed_of ru) ⟨v, H1, I1.tok _, ru, q⟩
/-- isinstance(e, c), e an error -/
def rErrIs (K : PySem.W.Frag) : List V → Hp → VK → Prop := fun xs H Q => ∃ (a C : Addr) (c : V) (cv : Value) (b : Bool), xs = [.ref a, c] ∧ ClsV c cv ∧ ExV K C ∧ ErrAny H a C ∧ PySem.W.kitOne K (.ref C) cv = some b ∧ Q (.bl b) H
theorem call_errIs : CallR X (.builtin "isinstance") (rErrIs X.K) := by
  intro pins s σ H xs us Q I r h
  obtain ⟨a, C, c, cv, b, rfl, hc, T, ⟨d, ea, ed⟩, ek, q⟩ := h
  obtain ⟨u1, u2, rfl, r1, r2⟩ := vals2 r
  cases (show u1 = Value.ref a from r1)
  have e2 := hc.eq r2
  subst e2
  obtain ⟨t1, ho⟩ := exo_at I.hok ea
  have hcl : (PySem.W.clsIn X.K C).isSome = true := by
    obtain ⟨cd, hcd, _⟩ := PySem.W.any_some T.hd
    rw [hcd]
    rfl
  have fin : ∀ tk, EP X pins σ Q (.bool b) { s with toks := tk } := fun tk => ⟨.bl b, H, I.tok tk, rfl, q⟩
  cases d with
  | none =>
    have J : PySem.W.InstAt s.heap a _ C none := ⟨ho, rfl, rfl, trivial⟩
    exact PySem.W.kia_one (PySem.W.kitx_exc hcl T.ga T.gg T.oex.exC T.ca T.cg T.ct T.ob) I.kIn J ek (fun z => nomatch z) fin
  | some dx =>
    obtain ⟨fs, ed⟩ := ed dx rfl
    obtain ⟨mA, hn, rel⟩ := exd_at I.hok ed
    obtain ⟨od, hod, hl⟩ := lookIn_ns hn
    have J : PySem.W.InstAt s.heap a _ C (some od) := ⟨ho, rfl, rfl, hod⟩
    exact PySem.W.kia_one (PySem.W.kitx_exc hcl T.ga T.gg T.oex.exC T.ca T.cg T.ct T.ob) I.kIn J ek (fun z => nomatch z) fin
end
end Paw

set_option maxRecDepth 100000
set_option maxHeartbeats 2000000
namespace Paw
open PySem PySem.Spec PyProof.Rows L2

/-! ### how long a repr is -/
mutual
def siz : PyData → Nat
  | .none => 4
  | .bool _ => 5
  | .int i => i.natAbs.log2 + 2
  | .str x => 10 * x.length + 2
  | .list xs => 2 + sizs xs
  | .tuple xs => 4 + sizs xs
  | .dict kvs => 2 + sizk kvs
def sizs : List PyData → Nat
  | [] => 0
  | x :: xs => siz x + 2 + sizs xs
def sizk : List (PyData × PyData) → Nat
  | [] => 0
  | (k, v) :: r => siz k + siz v + 4 + sizk r
end
mutual
/-- every text in it has signs below 2^32 -/
def plainD : PyData → Bool
  | .none | .bool _ | .int _ => true
  | .str x => x.cps.toList.all fun c => decide (c < 16 ^ 8)
  | .list xs => plainDs xs
  | .tuple xs => plainDs xs
  | .dict kvs => plainDk kvs
def plainDs : List PyData → Bool
  | [] => true
  | x :: xs => plainD x && plainDs xs
def plainDk : List (PyData × PyData) → Bool
  | [] => true
  | (k, v) :: r => plainD k && plainD v && plainDk r
end
theorem text_from_le : ∀ (ts : List Str) (k : Nat) (acc : Str), (textFrom k acc ts).length ≤ acc.length + piled ts
  | [], k, acc => by
    rw [piled_nil]
    exact Nat.le_refl _
  | t :: ts, k, acc => by
    rw [piled_cons]
    have c2 : ((", " : Str)).length = 2 := by decide +kernel
    have e : textFrom k acc (t :: ts) = textFrom (k + 1) (acc ++ Str.ofString (if k > 0 then ", " else "") ++ t) ts := rfl
    have l : (Str.ofString (if k > 0 then ", " else "")).length ≤ 2 := by
      split <;> decide +kernel
    have ih := text_from_le ts (k + 1) (acc ++ Str.ofString (if k > 0 then ", " else "") ++ t)
    rw [strLen_append, strLen_append] at ih
    rw [e]
    omega
theorem join_le (ts : List Str) : (Str.join ", " ts).length ≤ piled ts := by
  by_cases h : ts = []
  · subst h
    decide +kernel
  · have := join_length_add ts h
    omega
theorem one_sign : (("[" : Str)).length = 1 ∧ (("]" : Str)).length = 1 ∧ (("(" : Str)).length = 1 ∧ (("{" : Str)).length = 1 ∧ (("}" : Str)).length = 1 ∧ ((": " : Str)).length = 2 := by decide +kernel
theorem list_text_le (ts : List Str) : (listText ts).length ≤ piled ts + 2 := by
  unfold listText
  have h := text_from_le ts 0 "["
  rw [strLen_append]
  have e := one_sign
  omega
theorem tuple_text_le (ts : List Str) : (tupleText ts).length ≤ piled ts + 3 := by
  have e3 : (((if ts.length == 1 then ",)" else ")" : String) : Str)).length ≤ 2 := by split <;> decide +kernel
  have h := join_le ts
  unfold tupleText
  rw [strLen_append, strLen_append]
  have e := one_sign
  omega
theorem dict_text_le (ts : List Str) : (dictText ts).length ≤ piled ts + 2 := by
  have h := join_le ts
  unfold dictText
  rw [strLen_append, strLen_append]
  have e := one_sign
  omega
mutual
theorem shown_le : ∀ d : PyData, plainD d = true → d.shown.length ≤ siz d
  | .none, _ => by
    show (("None" : Str)).length ≤ 4
    decide +kernel
  | .bool b, _ => by
    cases b <;> decide +kernel
  | .int i, _ => by
    have h := int_text_length_le (a := i) (k := i.natAbs.log2 + 1) (Nat.succ_pos _) (Nat.lt_succ_self _)
    show (Str.ofString (toString i)).length ≤ i.natAbs.log2 + 2
    rw [PySem.ofString_length]
    exact h
  | .str x, h => by
    show (reprText x).length ≤ 10 * x.length + 2
    refine StrLaws.reprText_len x fun c hc => ?_
    have z : (x.cps.toList.all fun c => decide (c < 16 ^ 8)) = true := h
    exact of_decide_eq_true (List.all_eq_true.mp z c hc)
  | .list xs, h => by
    have ih := shown_les xs h
    have e := list_text_le (PyData.shownAll xs)
    show (listText (PyData.shownAll xs)).length ≤ 2 + sizs xs
    omega
  | .tuple xs, h => by
    have ih := shown_les xs h
    have e := tuple_text_le (PyData.shownAll xs)
    show (tupleText (PyData.shownAll xs)).length ≤ 4 + sizs xs
    omega
  | .dict kvs, h => by
    have ih := shown_lek kvs h
    have e := dict_text_le (PyData.shownKv kvs)
    show (dictText (PyData.shownKv kvs)).length ≤ 2 + sizk kvs
    omega
theorem shown_les : ∀ ds : List PyData, plainDs ds = true → piled (PyData.shownAll ds) ≤ sizs ds
  | [], _ => by
    show piled [] ≤ 0
    rw [piled_nil]
    omega
  | d :: ds, h => by
    have z : (plainD d && plainDs ds) = true := h
    rw [Bool.and_eq_true] at z
    have h1 := shown_le d z.1
    have h2 := shown_les ds z.2
    show piled (d.shown :: PyData.shownAll ds) ≤ siz d + 2 + sizs ds
    rw [piled_cons]
    omega
theorem shown_lek : ∀ ds : List (PyData × PyData), plainDk ds = true → piled (PyData.shownKv ds) ≤ sizk ds
  | [], _ => by
    show piled [] ≤ 0
    rw [piled_nil]
    omega
  | (k, d) :: ds, h => by
    have z : (plainD k && plainD d && plainDk ds) = true := h
    rw [Bool.and_eq_true, Bool.and_eq_true] at z
    have h0 := shown_le k z.1.1
    have h1 := shown_le d z.1.2
    have h2 := shown_lek ds z.2
    show piled ((k.shown ++ ": " ++ d.shown) :: PyData.shownKv ds) ≤ siz k + siz d + 4 + sizk ds
    rw [piled_cons, strLen_append, strLen_append]
    have e := one_sign
    omega
end
/-- all that repr asks of data -/
structure Fit (d : PyData) : Prop where
  plain : plainD d = true
  show_ : d.showable = true
  small : siz d ≤ 1000000
  depth : d.depth ≤ 40
theorem Fit.size {d : PyData} (h : Fit d) : d.shown.length ≤ sizeLine := by
  have := shown_le d h.plain
  have := h.small
  rw [sizeLine_eq]
  omega
/-! ### built-ins by their names -/
theorem bt_int : bootBuiltins "int" = some (.type "int") := by decide +kernel
theorem bt_list : bootBuiltins "list" = some (.type "list") := by decide +kernel
theorem bt_range : bootBuiltins "range" = some (.type "range") := by decide +kernel
theorem bt_enumerate : bootBuiltins "enumerate" = some (.type "enumerate") := by decide +kernel
theorem bt_str : bootBuiltins "str" = some (.type "str") := by decide +kernel
theorem bt_dict : bootBuiltins "dict" = some (.type "dict") := by decide +kernel
theorem bt_tuple : bootBuiltins "tuple" = some (.type "tuple") := by decide +kernel
theorem bt_zip : bootBuiltins "zip" = some (.type "zip") := by decide +kernel
theorem bt_bool : bootBuiltins "bool" = some (.type "bool") := by decide +kernel
theorem bt_len : bootBuiltins "len" = some (.builtin "len") := by decide +kernel
theorem bt_abs : bootBuiltins "abs" = some (.builtin "abs") := by decide +kernel
theorem bt_repr : bootBuiltins "repr" = some (.builtin "repr") := by decide +kernel
theorem bt_isinstance : bootBuiltins "isinstance" = some (.builtin "isinstance") := by decide +kernel
theorem bt_sorted : bootBuiltins "sorted" = some (.builtin "sorted") := by decide +kernel
theorem bt_max : bootBuiltins "max" = some (.builtin "max") := by decide +kernel
theorem bt_min : bootBuiltins "min" = some (.builtin "min") := by decide +kernel
theorem bt_ord : bootBuiltins "ord" = some (.builtin "ord") := by decide +kernel
theorem bt_sum : bootBuiltins "sum" = some (.builtin "sum") := by decide +kernel
theorem bt_all : bootBuiltins "all" = some (.builtin "all") := by decide +kernel
theorem bt_any : bootBuiltins "any" = some (.builtin "any") := by decide +kernel
end Paw

set_option maxRecDepth 100000
set_option maxHeartbeats 4000000
namespace Paw
open PySem PySem.Spec PyProof.Rows L2

/-! ### a caught error that is kept -/
/-- at a: an error that has been raised and caught, of the class cls, its own dict at d -/
def exr (a : Addr) (cls : Value) (d : Option Addr) : HO := .ext fun h => ∃ (oe : Obj) (vs : Array Value), h.get? a = some oe ∧ Zc cls d oe ∧ oe.data = .fields vs
theorem exr_ok {P : Program} {w : World} {H : Hp} {h : Heap} {a : Addr} {cls : Value} {d : Option Addr} {oe : Obj} {vs : Array Value} (e : h.get? a = some oe) (z : Zc cls d oe) (q : oe.data = .fields vs) : ObjOk P w H h a (exr a cls d) :=
  ⟨⟨oe, vs, e, z, q⟩, ⟨oe, e⟩, fun _ _ ⟨o, v, k, r⟩ m => ⟨o, v, m o k, r⟩⟩
theorem exr_at {P : Program} {w : World} {H : Hp} {h : Heap} {a : Addr} {cls : Value} {d : Option Addr} (ok : HOk P w H h) (e : H a = some (exr a cls d)) : ∃ (oe : Obj) (vs : Array Value), h.get? a = some oe ∧ Zc cls d oe ∧ oe.data = .fields vs := by
  have x : ObjOk P w H h a (.ext fun h => ∃ (oe : Obj) (vs : Array Value), h.get? a = some oe ∧ Zc cls d oe ∧ oe.data = .fields vs) := ok a _ e
  exact x.1
section
variable {X : Cx} {pins : List (Addr × Obj)} {σ : L2.St} {H : Hp} {s : Shared}
/-- an object that is not tracked yet, and that was not there at the entry, is tracked from here on -/
theorem inv_track {a : Addr} {O : HO} (I : Inv X pins σ H s) (n0 : X.s_0.heap.get? a = none) (nH : H a = none) (nL : a ≠ X.env.locals) (nC : ∀ x c, X.env.cells.lookup x = some c → c ≠ a) (nP : ∀ p ∈ X.pn ++ pins, p.1 ≠ a)
    (ok : ObjOk X.prog X.w (upd H a O) s.heap a O) : Inv X pins σ (upd H a O) s := by
  have off : ∀ {b : Addr} {o : HO}, H b = some o → upd H a O b = some o := fun {b o} e => (upd_ne (ne_of_none e nH)).trans e
  have old : ∀ {b : Addr} {o : Obj}, X.s_0.heap.get? b = some o → b ≠ a := fun {b o} e z => by
    rw [z, n0] at e
    cases e
  constructor
  · exact I.ok
  · exact I.os
  · exact I.bare
  · constructor
    · exact I.base.keep
    · exact I.base.slot
    · intro b o e n x
      rw [upd_ne (old e)]
      exact I.base.free b o e n x
    · exact I.base.there
    · exact fun b xs e => off (I.base.tups b xs e)
    · exact fun b o u e => off (I.base.frzs b o u e)
    · intro b ps e
      obtain ⟨m, q⟩ := I.base.tbls b ps e
      exact ⟨m, off q⟩
  · exact I.loc
  · exact I.cell
  · rw [upd_ne nL.symm]
    exact I.free
  · intro x c e
    rw [upd_ne (nC x c e)]
    exact I.freeC x c e
  · intro p hp
    obtain ⟨q1, q2, q3⟩ := I.pin p hp
    refine ⟨q1, ?_, q3⟩
    rw [upd_ne (nP p hp)]
    exact q2
  · intro b o e
    by_cases hb : b = a
    · subst hb
      rw [upd_same] at e
      cases e
      exact ok
    · rw [upd_ne hb] at e
      exact (I.hok b o e).stay (fun c u _ q => q) (fun c q => off q) fun c xs q => off q
  · exact I.len
/-- into a suite, nothing pinned -/
theorem inv_into (I : Inv X pins σ H s) (a : Addr) : Inv (X.suite a (X.pn ++ pins)) [] σ H s := by
  refine ⟨I.ok.suite _ _, I.os, I.bare, I.base, I.loc, I.cell, I.free, I.freeC, fun p hp => I.pin p ?_, I.hok, I.len⟩
  have e : p ∈ (X.pn ++ pins) ++ [] := hp
  rw [List.append_nil] at e
  exact e
theorem inv_out {a : Addr} (I : Inv (X.suite a (X.pn ++ pins)) [] σ H s) (ok : X.Ok) : Inv X pins σ H s :=
  ⟨ok, I.os, I.bare, I.base, I.loc, I.cell, I.free, I.freeC, fun p hp => I.pin p (List.mem_append_left _ hp), I.hok, I.len⟩
end
/-- what «except x as n» wishes: slot i is n's; the error is tracked at a -/
def wKeep (K : PySem.W.Frag) (c : Value) (i : Nat) (ts : Addr → TS) (Wout : WX) (D : Ends) : WX := fun cls d σ H =>
  ∃ b, PySem.W.exmOne K cls c = some b ∧
    (b = true → ∀ a, H a = none → ts a { nx := fun σ' H' => D.nx (σ'.set i none) H', rt := D.rt, bk := fun σ' H' => D.bk (σ'.set i none) H', ct := fun σ' H' => D.ct (σ'.set i none) H' } (σ.set i (some (.ref a))) (upd H a (exr a cls d))) ∧
    (b = false → Wout cls d σ H)
section
variable {X : Cx} {x n : Str} {c : Value} {i : Nat} {body suite : List Stmt} {b0 : Stmt} {np pos pos' : Pos} {tb : WX → TS} {ts : Addr → TS} {Wout : WX}
theorem ps_try_keep (hs : X.stack = X.env :: X.outer) (hf : X.env.frame = some X.env.locals) (hex : X.ex = []) (hN : X.N.Nodup) (hi : X.N[i]? = some n) (hln : X.env.kindOf n = some .local) (hc : Names X x c) (tk : Takes X Wout)
    (inner : ∀ (W : WX) (pn : List (Addr × Obj)) (xe : Value → Shared → Prop), Takes (X.tr pn xe) W → PassesOwn (model X.prog X.w) X.A X.env xe → PSs (X.tr pn xe) body (tb W))
    (hsu : ∀ (a : Addr) (pn : List (Addr × Obj)), PSs (X.suite a pn) (b0 :: suite) (ts a)) :
    PS X (.Try body [.ExceptHandler (some (.Name x np)) (some n) (b0 :: suite) pos'] [] [] pos) (fun D σ H => tb (wKeep X.K c i ts Wout D) D σ H) := by
  constructor
  intro pins s σ H D I h
  have ok := I.ok
  have frames : X.A.frames = some (X.env :: X.outer) := by
    rw [ok.frames, hs]
  have away : ∀ b, b ∉ X.ex := by
    intro b z
    rw [hex] at z
    cases z
  apply wpAny_Try_except
  let air : Value → Shared → Prop := fun e s₁ => wpAny (model X.prog X.w) X.A (noteFrame e X.env) (fun _ s₂ => wpAny (model X.prog X.w) X.A (setFlight e none)
    (fun _ s₃ => wpAny (model X.prog X.w) X.A (handleBy e X.env [.ExceptHandler (some (.Name x np)) (some n) (b0 :: suite) pos']) (SP X pins D) X.xe s₃) X.xe s₂) X.xe s₁
  have caught : Takes (X.tr (X.pn ++ pins) air) (wKeep X.K c i ts Wout D) := by
    rintro u s' ⟨a, B, sI, pins', σ', H', cls, d, rfl, J0, nb, up, sky, na, os, ag, b, hb1, yes, no⟩
    have J : Inv X pins σ' H' sI := J0.ofTry ok
    have sky2 : Sky B (X.env :: X.outer) a (Zc cls d) X.env.locals s'.heap := hs ▸ sky
    show wpAny (model X.prog X.w) X.A (noteFrame (.ref a) X.env) _ _ _
    apply Sky.land Zc.steady frames hf sky2
    intro h3 fl3 up3
    have J3 : Inv X pins σ' H' { s' with heap := h3 } := J.landed nb fl3.1 (up.trans up3) os ag
    obtain ⟨oe3, vs3, he3, hz3, hd3⟩ := fl3.there
    have offFrames : a ∉ frs (X.env :: X.outer) := by
      intro hm
      obtain ⟨_, o', e', hnf⟩ := fl3.2.2.1.mem hm
      rw [he3] at e'
      cases e'
      exact hnf _ hd3
    have nL : a ≠ X.env.locals := fun z => offFrames (List.mem_filterMap.mpr ⟨X.env, List.mem_cons_self, by rw [hf, z]⟩)
    have nI : sI.heap.get? a = none := by
      cases q : sI.heap.get? a with
      | none => rfl
      | some o =>
        have z := nb a o q (by rw [hs]; exact offFrames)
        rw [fl3.2.1] at z
        cases z
    have n0 : X.s_0.heap.get? a = none := by
      cases q : X.s_0.heap.get? a with
      | none => rfl
      | some o =>
        obtain ⟨o', z⟩ := J.base.there a o q (away a)
        rw [nI] at z
        cases z
    have nC : ∀ y k, X.env.cells.lookup y = some k → k ≠ a := by
      intro y k e z
      obtain ⟨v, o, ho, _⟩ := J.cell y k e
      rw [z, nI] at ho
      cases ho
    have nP : ∀ p ∈ X.pn ++ pins, p.1 ≠ a := by
      intro p hp z
      have q := (J.pin p hp).1
      rw [z, nI] at q
      cases q
    have J3t := inv_into (inv_track (O := exr a cls d) J3 n0 na nL nC nP (exr_ok he3 hz3 hd3)) a
    apply wpAny_handleBy_cons _ (by intro q; cases q)
    apply codeAny_handlers_test
    have typ : PySem.W.Looks (model X.prog X.w) h3 (typeOf (.ref a)) cls := by
      intro A Q E s k q
      exact wpAny_typeOf_ref (k _ _ he3) (by rw [hz3.1]; exact q)
    have fits := PySem.W.exm_one (M := model X.prog X.w) J3.kIn typ hb1
    have clause : ∀ {Q : Value → Shared → Prop} {E : Value → Shared → Prop}, Q c { s' with heap := h3 } → wpAny (model X.prog X.w) (X.A.mark (some (.ref a))) (eval (.Name x np) X.env) Q E { s' with heap := h3 } := by
      intro Q E q
      obtain ⟨hg, hdbg, hm | ⟨hm, hv, hnn⟩⟩ := hc
      · exact ld_glob (X := X.suite a (X.pn ++ pins)) J3t hg hm q hdbg
      · exact ld_blt (X := X.suite a (X.pn ++ pins)) J3t hg hm hv q hnn hdbg
    refine clause (fits.here ?_)
    cases b with
    | false =>
      show wpAny _ X.A (handleBy (.ref a) X.env []) _ _ _
      apply wpAny_handleBy_nil
      obtain ⟨_, _, _, oe, vs, T, oT, ts2, he, hz, hd, h1, _⟩ := id fl3
      unfold PySem.passOn
      apply wpAny_bind
      apply wpAny_field he hd h1
      rw [if_neg (show ¬ ((Value.ref T == Value.none) = true) from by simp)]
      have last : wpAny (model X.prog X.w) X.A (setFlight (.ref a) X.env.frame) (fun _ s4 => wpAny (model X.prog X.w) X.A (throw (.ref a) : Sem Flow) (SP X pins D) X.xe s4) X.xe { s' with heap := h3 } := by
        rw [hf]
        apply HandSPX.setFlight_upZ fl3
        intro h4 hh4 up4
        apply wpAny_throw
        apply tk
        refine ⟨a, B, sI, pins, σ', H', cls, d, rfl, J, nb, (up.trans up3).trans up4, .inr (.inr ?_), na, os, ag, no rfl⟩
        rw [hs]
        exact hh4
      first
        | exact wpAny_bind (wpAny_pure (wpAny_bind last))
        | exact wpAny_bind last
    | true =>
      apply codeAny_handlers_suite_as
      apply HandSPX.lands_againZ fl3
      intro h4 fl4 up4
      have J4 : Inv X pins σ' H' { s' with heap := h4 } := J.landed nb fl4.1 ((up.trans up3).trans up4) os ag
      obtain ⟨oe4, vs4, he4, hz4, hd4⟩ := fl4.there
      have J4t := inv_into (inv_track (O := exr a cls d) J4 n0 na nL nC nP (exr_ok he4 hz4 hd4)) a
      apply store_ok (X := X.suite a (X.pn ++ pins)) (v := .ref a) J4t hN hi (.inl hln) rfl _ (.inr hln)
      intro s5 S5
      have done : ∀ {σ6 : L2.St} {H6 : Hp} {s6 : Shared} {Q : Shared → Prop}, Inv (X.suite a (X.pn ++ pins)) [] σ6 H6 s6 → (∀ s7, Inv X pins (σ6.set i none) H6 s7 → Q s7) →
          wpAny (model X.prog X.w) X.A (do bindName X.env n .none; unbindBehindTheSuite X.env n pos') (fun _ s7 => Q s7) X.xe s6 := fun {σ6 H6 s6 Q} S6 hq => gone_ok (inv_out S6 ok) hN hi hln hq
      apply wpAny_mono ((hsu a (X.pn ++ pins)).run [] s5 _ _ _ S5 (yes rfl a na))
      · intro f s6 hsp
        match f, hsp with
        | .next, ⟨σ6, H6, S6, q6⟩ => exact done S6 fun s7 J7 => ⟨_, _, J7, q6⟩
        | .brk, ⟨σ6, H6, S6, q6⟩ => exact done S6 fun s7 J7 => ⟨_, _, J7, q6⟩
        | .cont, ⟨σ6, H6, S6, q6⟩ => exact done S6 fun s7 J7 => ⟨_, _, J7, q6⟩
        | .ret u, ⟨v6, σ6, H6, S6, r6, q6⟩ => exact done S6 fun s7 J7 => ⟨_, _, _, J7, r6, q6⟩
      · exact fun _ _ z => False.elim z
  apply wpAny_mono ((inner (wKeep X.K c i ts Wout D) (X.pn ++ pins) air caught PassesOwn.looking).run [] s σ H D (I.toTry _) h)
  · intro f s1 hsp
    match f, hsp with
    | .next, ⟨σ', H', J', q⟩ => exact wpAny_execs_nil ⟨σ', H', J'.ofTry ok, q⟩
    | .brk, ⟨σ', H', J', q⟩ => exact ⟨σ', H', J'.ofTry ok, q⟩
    | .cont, ⟨σ', H', J', q⟩ => exact ⟨σ', H', J'.ofTry ok, q⟩
    | .ret u, ⟨v, σ', H', J', r, q⟩ => exact ⟨v, σ', H', J'.ofTry ok, r, q⟩
  · exact fun e s1 he => he
end
end Paw

set_option maxRecDepth 100000
set_option maxHeartbeats 4000000
namespace Paw
open PySem PySem.Spec PyProof.Rows L2

/-! ### // by any whole number but 0 -/
def CDivZ (_ j : Int) : Prop := j ≠ 0 ∧ j.natAbs.log2 < 9000
theorem op_fdivZ {X : Cx} : OpR X (binaryOp .FloorDiv) (rI CDivZ fun i j => .int (i.fdiv j)) := opI fun i j _ _ _ _ _ hc q => floordiv_int hc.1 q (.inl (PyProof.noPylong_of_log2 hc.2))
theorem div_any {i j : Int} {b : Nat} (h : j ≠ 0) (hb : j.natAbs < 2 ^ b) (h0 : 0 < b) (h9 : b ≤ 9000) : CDivZ i j := ⟨h, Nat.lt_of_lt_of_le (PySem.Flt.log2_lt_of h0 hb) h9⟩
/-! ### the type of data -/
def kindOf : PyData → String
  | .none => "NoneType"
  | .bool _ => "bool"
  | .int _ => "int"
  | .str _ => "str"
  | .list _ => "list"
  | .tuple _ => "tuple"
  | .dict _ => "dict"
theorem RD.ty {K : PySem.W.Frag} {H : Hp} {x : V} {d : PyData} (h : RD K H x d) : TyX K H x (.type (kindOf d)) := by
  cases h with
  | non => exact .base .non
  | bl b => exact .base (.bl b)
  | int i => exact .base (.int i)
  | str x => exact .base (.str x)
  | lst h hs =>
    rcases h with (h | ⟨o, h⟩) | ⟨o, its, n, hk, hc, _⟩
    · exact .base (.lst h)
    · exact .base (.frz h)
    · exact .kList hk hc
  | tup h hs =>
    rcases h with (h | ⟨o, h⟩) | ⟨o, its, n, hk, hc, _⟩
    · exact .base (.tup h)
    · exact .fTuple h
    · exact .kTuple hk hc
  | dic h hs => exact .base (.dK h)
def isI : PyData → Bool
  | .int _ => true
  | _ => false
def isB : PyData → Bool
  | .bool _ => true
  | _ => false
def isT : PyData → Bool
  | .tuple _ => true
  | _ => false
def isL : PyData → Bool
  | .list _ => true
  | _ => false
theorem kit_int {K : PySem.W.Frag} (d : PyData) : PySem.W.kitOne K (.type (kindOf d)) (.type "int") = some (isI d || isB d) := by
  cases d
  · exact kit_ty (a := "NoneType") (r := false) (by decide +kernel)
  · exact kit_ty (a := "bool") (r := true) (by decide +kernel)
  · exact kit_ty (a := "int") (r := true) (by decide +kernel)
  · exact kit_ty (a := "str") (r := false) (by decide +kernel)
  · exact kit_ty (a := "list") (r := false) (by decide +kernel)
  · exact kit_ty (a := "tuple") (r := false) (by decide +kernel)
  · exact kit_ty (a := "dict") (r := false) (by decide +kernel)
theorem kit_bool {K : PySem.W.Frag} (d : PyData) : PySem.W.kitOne K (.type (kindOf d)) (.type "bool") = some (isB d) := by
  cases d
  · exact kit_ty (a := "NoneType") (r := false) (by decide +kernel)
  · exact kit_ty (a := "bool") (r := true) (by decide +kernel)
  · exact kit_ty (a := "int") (r := false) (by decide +kernel)
  · exact kit_ty (a := "str") (r := false) (by decide +kernel)
  · exact kit_ty (a := "list") (r := false) (by decide +kernel)
  · exact kit_ty (a := "tuple") (r := false) (by decide +kernel)
  · exact kit_ty (a := "dict") (r := false) (by decide +kernel)
theorem kit_tuple {K : PySem.W.Frag} (d : PyData) : PySem.W.kitOne K (.type (kindOf d)) (.type "tuple") = some (isT d) := by
  cases d
  · exact kit_ty (a := "NoneType") (r := false) (by decide +kernel)
  · exact kit_ty (a := "bool") (r := false) (by decide +kernel)
  · exact kit_ty (a := "int") (r := false) (by decide +kernel)
  · exact kit_ty (a := "str") (r := false) (by decide +kernel)
  · exact kit_ty (a := "list") (r := false) (by decide +kernel)
  · exact kit_ty (a := "tuple") (r := true) (by decide +kernel)
  · exact kit_ty (a := "dict") (r := false) (by decide +kernel)
theorem kit_list {K : PySem.W.Frag} (d : PyData) : PySem.W.kitOne K (.type (kindOf d)) (.type "list") = some (isL d) := by
  cases d
  · exact kit_ty (a := "NoneType") (r := false) (by decide +kernel)
  · exact kit_ty (a := "bool") (r := false) (by decide +kernel)
  · exact kit_ty (a := "int") (r := false) (by decide +kernel)
  · exact kit_ty (a := "str") (r := false) (by decide +kernel)
  · exact kit_ty (a := "list") (r := true) (by decide +kernel)
  · exact kit_ty (a := "tuple") (r := false) (by decide +kernel)
  · exact kit_ty (a := "dict") (r := false) (by decide +kernel)
/-! ### a caught error's field -/
def tExcFld (K : PySem.W.Frag) (nm : Str) (te : TE) : TE := fun σ H Q => te σ H fun x H1 => ∃ (a C d : Addr) (fs : List (Str × V)) (v : V), x = .ref a ∧ ExV K C ∧ PySem.W.findIn K (.ref C) nm = some none ∧ H1 a = some (exr a (.ref C) (some d)) ∧ H1 d = some (.xd fs) ∧ fs.lookup nm = some v ∧ Q v H1
section
variable {X : Cx} {e : Expr} {te : TE} {pos : Pos}
theorem pe_excFld {nm : Str} (he : PE X e te) (hb : attributeBase e nm X.env (eval e X.env) = eval e X.env := by rfl) : PE X (.Attribute e nm pos) (tExcFld X.K nm te) := by
  constructor
  intro pins s σ H Q I h
  apply attr_of hb
  apply thn (he.run pins s σ H _ I h)
  rintro u s1 ⟨x, H1, I1, rx, a, C, d, fs, v, rfl, T, no, ea, ed, l, q⟩
  cases (show u = Value.ref a from rx)
  obtain ⟨oe, vs, ho, hz, hd⟩ := exr_at I1.hok ea
  obtain ⟨mA, hn, rel⟩ := (show ObjOk X.prog X.w H1 s1.heap d (.xd fs) from I1.hok d _ ed)
  obtain ⟨od, hod, hl⟩ := lookIn_ns hn
  obtain ⟨u, hu, ru⟩ := RelO.some_of (v := v) (o := mA nm) (by rw [← l]; exact rel nm)
  have J : PySem.W.InstAt s1.heap a oe C (some od) := by
    refine ⟨ho, hz.1, ?_, ?_⟩
    · unfold PySem.W.notCls
      rw [hd]
    · rw [hz.2]
      exact hod
  exact HandSPX.exc_get I1.kIn J T.ga T.gg T.oex.exC (PySem.W.findObj_own T.hd no rfl (by rw [hl, hu])) (handed_of ru) ⟨v, H1, I1.tok _, ru, q⟩
end
/-! ### an own error of one value, raised -/
def spI1 (K : PySem.W.Frag) (fl : Str) : Sp := fun vs H Q _ => ∃ (a C : Addr) (v : V), vs = [.ref a, v] ∧ OexC K C ∧ PySem.W.findIn K (.ref C) fl = some none ∧ H a = some (exo a C none) ∧ ∀ dx, H dx = none → dx ≠ a → Q .non (upd (upd H dx (exd dx [(fl, v)])) a (exo a C (some dx)))
theorem ok_init1 {P : Program} {w : World} {K : PySem.W.Frag} {mg : Str → Option Value} {base : Heap} {fl q : Str} {st : Stmt} {f : Addr} {fd : FuncData} (F : Fun K "__init__" q st f fd) (S : FnScope ["self", fl] ["self", fl] (defScope st)) (l0 : (defScope st).names.lookup ("self" : Str) = some NameKind.local) (l1 : (defScope st).names.lookup fl = some NameKind.local)
    (hb : ∃ p1 p2 p3 p4, defBody st = [.Assign [.Attribute (.Name "self" p1) fl p2] (.Name fl p3) p4]) (d1 : (fl == ("__debug__" : Str)) = false) (d2 : (fl == ("__classdict__" : Str)) = false) : FnOk P w K mg base CX0 1 f fd ["self", fl] (spI1 K fl) := by
  refine F.ok S (fun vs H Q E h => ?_) (fun cdv A outer s H vs Q E hr h => ?_)
  · obtain ⟨a, C, v, rfl, _⟩ := h
    rfl
  · obtain ⟨a, C, v, rfl, T, no, ha, k⟩ := h
    obtain ⟨p1, p2, p3, p4, hb⟩ := hb
    rw [hb]
    refine ⟨_, pss_one (ps_ost (pv 0 rfl (Or.inl l0)) (pv 1 rfl (Or.inl l1) d1 d2)), ?_⟩
    exact ⟨v, rfl, .ref a, rfl, a, C, rfl, T, no, .inl ⟨ha, k⟩⟩
/-- what the raising of such an error must serve -/
def Thrown (fl : Str) (C : Addr) (v : V) (H : Hp) (E : XK) : Prop := ∀ (d : Addr) (H' : Hp), H d = none → Same H H' → H' d = some (.xd [(fl, v)]) → E (.ref C) (some d) H'
theorem Thrown.mono {fl : Str} {C : Addr} {v : V} {H H1 : Hp} {E : XK} (h : Thrown fl C v H E) (s : Same H H1) : Thrown fl C v H1 E := fun d H' n s' e => h d H' (s.free n) (s.trans s') e
theorem thrown_mk {K : PySem.W.Frag} {C : Addr} {fl : Str} {v : V} {H1 : Hp} {E : XK} (T : OexC K C) (no : PySem.W.findIn K (.ref C) fl = some none) (h : Thrown fl C v H1 E) (a : Addr) (ha : H1 a = none) :
    spI1 K fl (.ref a :: ([v] ++ [])) (upd H1 a (exo a C none)) (fun u H2 => u = .non ∧ ∃ (d : Addr) (fs : List (Str × V)), H2 a = some (exo a C (some d)) ∧ H2 d = some (exd d fs) ∧ H1 d = none ∧ E (.ref C) (some d) (upd (del H2 a) d (.xd fs))) (fun _ _ _ => False) := by
  refine ⟨a, C, v, rfl, T, no, upd_same, fun d hd ne => ⟨rfl, d, [(fl, v)], upd_same, (upd_ne ne).trans upd_same, (upd_ne ne).symm.trans hd, ?_⟩⟩
  have hd1 : H1 d = none := (upd_ne ne).symm.trans hd
  refine h d _ hd1 (fun b o e => ?_) upd_same
  have n1 := ne_of_none e ha
  have n2 := ne_of_none e hd1
  rw [upd_ne n2, del_ne n1, upd_ne n1, upd_ne n2, upd_ne n1]
  exact e
/-- the class, where it stands -/
structure Kv (P : Program) (w : World) (K : PySem.W.Frag) (mg : Str → Option Value) (base : Heap) (x fl : Str) (C : Addr) : Prop where
  g : mg x = some (.ref C)
  v : ExV K C
  no : PySem.W.findIn K (.ref C) fl = some none
  ini : ∃ (f : Addr) (fd : FuncData), PySem.W.findIn K (.ref C) "__init__" = some (some (.ref f)) ∧ PySem.W.typeIn K (.ref f) = some (.type "function") ∧ FnOk P w K mg base CX0 1 f fd ["self", fl] (spI1 K fl) ∧ Binds K fd ["self", fl] []
def tThrow (K : PySem.W.Frag) (fl : Str) (C : Addr) (W : WX) (te : TE) : TS := fun _ σ H => tMkO C (spI1 K fl) [] (tCons te tNil) σ H fun cls d H' => W cls d σ H'
section
variable {X : Cx} {W : WX} {fl x : Str} {C : Addr} {p pos pos' : Pos} {e : Expr} {te : TE}
/-- raise x(e) -/
theorem ps_throw (T : Kv X.prog X.w X.K X.mg X.base x fl C) (hr : Room 2 X.A) (hc : X.calm = true) (tk : Takes X W) (hg : Gl X x) (he : PE X e te) (hdb : (x == ("__debug__" : Str)) = false := by decide)
    (hs : starEach [e] X.env = (false, eval e X.env) :: starEach [] X.env := by rfl) : PS X (.Raise (some (.Call (.Name x p) [e] [] pos)) none pos') (tThrow X.K fl C W te) := by
  obtain ⟨f, fd, i1, i2, F, b⟩ := T.ini
  have h := ps_raise (pos := pos') hc tk (pmk_oex (p := p) (pos := pos) T.v.oex i1 i2 F hr b .nil pass0 hg T.g (pa_cons he pa_nil hs) hdb hs)
  constructor
  intro pins s σ H D I q
  exact h.run pins s σ H D I q
end
/-! ### calls by a promise of its own -/
section
variable {X : Cx} {CX : CXT} {k i : Nat} {R : Addr → Sp → Prop} {E : L2.St → XK} {x : Str} {p pos : Pos} {e fe : Expr} {es : List Expr} {t : TA} {tf : TE}
theorem run_fnRS {pins : List (Addr × Obj)} {σ : L2.St} {H : Hp} {s : Shared} {f : Addr} {sp : Sp} {Q : VK} {us : List Value} {vs : List V} (F : FnR X.prog X.w X.K X.mg X.base CX k f sp) (hr : Room k X.A) (hx : PassesAt CX X σ (E σ)) (I : Inv X pins σ H s) (r : Vals vs us) (h : sp vs H Q (E σ)) :
    wpAny (model X.prog X.w) X.A (call (.ref f) us) (EP X pins σ Q) X.xe s := by
  apply wpAny_call
  apply codeAny_mono (F X.A X.stack s H us vs Q (E σ) hr I.env0 r h)
  intro r s' q
  match r, q with
  | .error e, q => exact hx pins H s e s' I q
  | .ok (.ret u), q => exact I.after q
/-- what a callee that may be one of several must be -/
def Callees (X : Cx) (CX : CXT) (k : Nat) (R : Addr → Sp → Prop) : Prop := ∀ f sp, R f sp → FnR X.prog X.w X.K X.mg X.base CX k f sp ∧ PySem.W.keepIn X.K (.ref f) = true
/-- x(e, ..), x a local name -/
def tCallV (i : Nat) (R : Addr → Sp → Prop) (E : L2.St → XK) (t : TA) : TE := fun σ H Q => ∃ f sp, σ[i]? = some (some (.ref f)) ∧ R f sp ∧ t σ H fun vs H1 => sp vs H1 Q (E σ)
theorem pe_callV (A : Callees X CX k R) (hr : Room k X.A) (hx : ∀ σ, PassesAt CX X σ (E σ)) (hN : X.N[i]? = some x) (hv : Vis X.env.scope x) (ha : PA X (e :: es) t)
    (hdb : (x == ("__debug__" : Str)) = false := by decide) (hcd : (x == ("__classdict__" : Str)) = false := by decide)
    (he : starEach (e :: es) X.env = (false, eval e X.env) :: starEach es X.env := by rfl) (hpl : (backTo pos (starEach es X.env)).any (·.1) = false := by rfl) : PE X (.Call (.Name x p) (e :: es) [] pos) (tCallV i R E t) := by
  constructor
  rintro pins s σ H Q I ⟨f, sp, hs, hR, ht⟩
  obtain ⟨F, hk⟩ := A f sp hR
  apply wpAny_Call_Name_kw
  apply thn ((pe_var (pos := p) hN hv hdb hcd).run pins s σ H (fun v H1 => v = .ref f ∧ H1 = H) I ⟨.ref f, hs, rfl, rfl⟩)
  rintro u s1 ⟨v, H1, I1, r1, rfl, rfl⟩
  cases r1
  apply PySem.W.callWith_K (h₀ := X.base) I.ok.mod.kin hk _ he hpl
  apply thn (ha.run pos pins s1 σ _ _ I1 ht)
  rintro us s2 ⟨vs, H2, I2, r, q⟩
  exact ⟨I2.kIn, run_fnRS F hr (hx σ) I2 r q⟩
theorem pe_callV0 (A : Callees X CX k R) (hr : Room k X.A) (hx : ∀ σ, PassesAt CX X σ (E σ)) (hN : X.N[i]? = some x) (hv : Vis X.env.scope x)
    (hdb : (x == ("__debug__" : Str)) = false := by decide) (hcd : (x == ("__classdict__" : Str)) = false := by decide) : PE X (.Call (.Name x p) [] [] pos) (tCallV i R E tNil) := by
  constructor
  rintro pins s σ H Q I ⟨f, sp, hs, hR, ht⟩
  obtain ⟨F, hk⟩ := A f sp hR
  apply wpAny_Call_Name_kw
  apply thn ((pe_var (pos := p) hN hv hdb hcd).run pins s σ H (fun v H1 => v = .ref f ∧ H1 = H) I ⟨.ref f, hs, rfl, rfl⟩)
  rintro u s1 ⟨v, H1, I1, r1, rfl, rfl⟩
  cases r1
  exact PySem.W.callWith_K0 I1.kIn hk (run_fnRS (us := []) F hr (hx σ) I1 .nil ht)
/-- g(e, ..), g any expression that gives a def -/
def tCallF (R : Addr → Sp → Prop) (E : L2.St → XK) (tf : TE) (t : TA) : TE := fun σ H Q => tf σ H fun y H1 => ∃ f sp, y = .ref f ∧ R f sp ∧ t σ H1 fun vs H2 => sp vs H2 Q (E σ)
theorem pe_callF (A : Callees X CX k R) (hr : Room k X.A) (hx : ∀ σ, PassesAt CX X σ (E σ)) (hf : PE X fe tf) (ha : PA X (e :: es) t)
    (ht : eval (.Call fe (e :: es) [] pos) X.env = (do callWith pos (← eval fe X.env) [] (backTo pos (starEach (e :: es) X.env)) (backToKw pos (keywordEach [] X.env))) := by rfl)
    (he : starEach (e :: es) X.env = (false, eval e X.env) :: starEach es X.env := by rfl) (hpl : (backTo pos (starEach es X.env)).any (·.1) = false := by rfl) : PE X (.Call fe (e :: es) [] pos) (tCallF R E tf t) := by
  constructor
  intro pins s σ H Q I h
  refine Call_ (thn (hf.run pins s σ H _ I h) ?_) ht
  rintro u s1 ⟨y, H1, I1, ry, f, sp, rfl, hR, q⟩
  obtain ⟨F, hk⟩ := A f sp hR
  obtain rfl : u = Value.ref f := ry
  apply PySem.W.callWith_K (h₀ := X.base) I.ok.mod.kin hk _ he hpl
  apply thn (ha.run pos pins s1 σ H1 _ I1 q)
  rintro us s2 ⟨vs, H2, I2, r, q2⟩
  exact ⟨I2.kIn, run_fnRS F hr (hx σ) I2 r q2⟩
/-- x(e, ..), x a def of the module, by such a promise -/
def tCallG (sp : Sp) (E : L2.St → XK) (t : TA) : TE := fun σ H Q => t σ H fun vs H1 => sp vs H1 Q (E σ)
theorem pe_callRS {f : Addr} {sp : Sp} (F : FnR X.prog X.w X.K X.mg X.base CX k f sp) (hr : Room k X.A) (hg : Gl X x) (hm : X.mg x = some (.ref f)) (hk : PySem.W.keepIn X.K (.ref f) = true) (hx : ∀ σ, PassesAt CX X σ (E σ)) (ha : PA X (e :: es) t)
    (hdb : (x == ("__debug__" : Str)) = false := by decide) (he : starEach (e :: es) X.env = (false, eval e X.env) :: starEach es X.env := by rfl) (hpl : (backTo pos (starEach es X.env)).any (·.1) = false := by rfl) :
    PE X (.Call (.Name x p) (e :: es) [] pos) (tCallG sp E t) := by
  constructor
  intro pins s σ H Q I h
  apply wpAny_Call_Name_kw
  apply ld_glob I hg hm _ hdb
  apply PySem.W.callWith_K (h₀ := X.base) I.ok.mod.kin hk _ he hpl
  apply thn (ha.run pos pins s σ H _ I h)
  rintro us s1 ⟨vs, H1, I1, r, q⟩
  exact ⟨I1.kIn, run_fnRS F hr (hx σ) I1 r q⟩
/-- a def's usual promise as such a one -/
theorem fnR_of {P : Program} {w : World} {K : PySem.W.Frag} {mg : Str → Option Value} {base : Heap} {f : Addr} {fd : FuncData} {ps : List Str} {sp : Sp} {dvs : List V} {ds : List Value} (F : FnOk P w K mg base CX k f fd ps sp) (hb : Binds K fd ps ds) (hd : Vals dvs ds) :
    FnR P w K mg base CX k f (fun vs H Q E => sp (vs ++ dvs) H Q E) := by
  intro A outer s H us vs Q E hr e0 r h
  have rel : Vals (vs ++ dvs) (us ++ ds) := r.append hd
  have many : (us ++ ds).length = ps.length := rel.length.symm.trans (F.len _ _ _ _ h)
  have KX : K.In s.heap := e0.mod.kin.keeps fun b o e => (e0.bs b o e).1
  exact F.run A outer s H ⟨us, []⟩ (us ++ ds) (vs ++ dvs) Q E hr e0 (hb s us KX many) rel h
/-- nothing is let out at all -/
theorem calmAt (σ : L2.St) : PassesAt (L2.CX X.prog X.w) X σ (fun _ _ _ => False) := fun pins H s e s' I c => by
  obtain ⟨_, _, _, _, _, _, _, _, _, _, _, _, z⟩ := c
  exact z.elim
end
end Paw

set_option maxRecDepth 100000
set_option maxHeartbeats 4000000
namespace PySem
namespace PawX
open Sem (wp)
open AutoSeq1 (wpAny_loadPart')
/-- enumerate(t), t a tuple: its new iterator, then the object that counts -/
theorem enum_new_tup (t : Addr) (vs : Array Value) (m : Nat) (dc : Option Addr) (ss : Array (Option Value)) :
    Meets (Builtin.«enumerate.__new__» ⟨[.type "enumerate", .ref t], []⟩) (fun _ R s => s.heap.get? t = some { cls := .type "tuple", dict := dc, data := .seq vs m, slots := ss } ∧
      R (.ok (.ret (.ref (s.heap.push { cls := .type "tuple_iterator", data := .fields #[.ref t, .int 0 0] }).objs.size)))
        { s with heap := (s.heap.push { cls := .type "tuple_iterator", data := .fields #[.ref t, .int 0 0] }).push { cls := .type "enumerate", data := .fields #[.none, .bool false, .ref s.heap.objs.size, rawInt 0, .none, .none] } }) :=
  .of_wp fun P w A R s h => by
    obtain ⟨hp, gs, dr, tk, os⟩ := s
    obtain ⟨hl, h⟩ := h
    have sub := sub_enumerate
    have hT : Heap.IsTuple (Shared.heap ⟨hp, gs, dr, tk, os⟩) t vs := ⟨_, hl, rfl, m, rfl⟩
    wp_walk using wpAny_loadPart' hl
    refine wpAny_stack_any fun stk => wpAny_pure ?_
    split
    · rename_i c _ _ _ _ _
      cases (c == Value.type "enumerate") <;>
        · wp_walk using wpAny_loadPart' hl, wpAny_pyIter_tuple hT
          exact ⟨_, rfl, h⟩
    · wp_walk using wpAny_loadPart' hl, wpAny_pyIter_tuple hT
      exact ⟨_, rfl, h⟩
theorem enum_of_tup {P : Program} {w : World} {A : Around} {E : Value → Shared → Prop} {s : Shared} {t : Addr} {vs : Array Value} {Q : Value → Shared → Prop} (hT : s.heap.IsTuple t vs)
    (h : ∀ h2, IsEnum h2 (s.heap.objs.size + 1) s.heap.objs.size 0 .none → h2.IsTupleIter s.heap.objs.size t 0 → (∀ b o, s.heap.get? b = some o → h2.get? b = some o) → Q (.ref (s.heap.objs.size + 1)) { s with heap := h2 }) :
    wpAny (model P w) A (call (.type "enumerate") [.ref t]) Q E s := by
  obtain ⟨⟨c, dc, dt, ss⟩, ho, e1, m, e2⟩ := hT
  cases (show c = .type "tuple" from e1)
  cases (show dt = .seq vs m from e2)
  have made := enum_new_tup t vs m dc ss
  refine callType_new F.called_enumerate (by decide) (F.typeCall_enumerate_1 _)
    (F.newCall_enumerate_1 _) (fun ob => F.args_object_init_2 ob _) F.entry_enumerate_new made ⟨ho, ?_⟩
  have size1 : (s.heap.push { cls := .type "tuple_iterator", data := .fields #[.ref t, .int 0 0] }).objs.size = s.heap.objs.size + 1 := Heap.size_push _ _
  show _ ∧ _
  rw [size1]
  have en : IsEnum ((s.heap.push { cls := .type "tuple_iterator", data := .fields #[.ref t, .int 0 0] }).push { cls := .type "enumerate", data := .fields #[.none, .bool false, .ref s.heap.objs.size, rawInt 0, .none, .none] })
      (s.heap.objs.size + 1) s.heap.objs.size 0 .none := by
    have z := Heap.get?_push_size (s.heap.push { cls := .type "tuple_iterator", data := .fields #[.ref t, .int 0 0] }) (o := { cls := .type "enumerate", data := .fields #[.none, .bool false, .ref s.heap.objs.size, rawInt 0, .none, .none] }) rfl
    rw [size1] at z
    exact z
  have it0 : ((s.heap.push { cls := .type "tuple_iterator", data := .fields #[.ref t, .int 0 0] }).push { cls := .type "enumerate", data := .fields #[.none, .bool false, .ref s.heap.objs.size, rawInt 0, .none, .none] }).IsTupleIter s.heap.objs.size t 0 :=
    ⟨{ cls := .type "tuple_iterator", data := .fields #[.ref t, .int 0 0] }, Heap.get?_push_of_some _ (Heap.get?_push_size _ rfl), rfl, rfl⟩
  exact ⟨⟨_, en, rfl⟩, h _ en it0 fun b o x => Heap.get?_push_of_some _ (Heap.get?_push_of_some _ x)⟩
end PawX
end PySem
namespace Paw
open PySem PySem.Spec PyProof.Rows L2
/-- the tuple at a, each item in a new pair with its number -/
def Itu (K : PySem.W.Frag) (a : Addr) : It where
  go := fun i H => ∃ (xs : List V) (x : V), SqT K H a xs ∧ xs[i]? = some x
  yld := fun i H v H' => ∃ (T : Addr) (x : V), v = .ref T ∧ H T = none ∧ H' = upd H T (.tup [.int (i : Nat), x]) ∧ ∀ xs, SqT K H a xs → xs[i]? = some x
  stop := fun i H => ∃ xs : List V, SqT K H a xs ∧ xs.length = i
theorem tup_inj {X : Cx} {pins : List (Addr × Obj)} {σ : L2.St} {H : Hp} {s : Shared} {a : Addr} {xs ys : List V} (I : Inv X pins σ H s) (h : SqT X.K H a xs) (g : SqT X.K H a ys) : xs = ys := by
  obtain ⟨its, r1, ⟨o, ho, _, n, hd⟩, _⟩ := I.tuple h
  obtain ⟨jts, r2, ⟨o2, ho2, _, n2, hd2⟩, _⟩ := I.tuple g
  rw [ho] at ho2
  cases ho2
  rw [hd] at hd2
  injection hd2 with e1 e2
  have e : its = jts := by
    have z := congrArg Array.toList e1
    simpa using z
  subst e
  exact r1.inj r2
theorem turn_tupC {P : Program} {w : World} {K : PySem.W.Frag} {es : List Expr} {kk : Nat} {tp : Pos} (a e it : Addr) (hae : a ≠ e) (hai : a ≠ it) : Turn P w K (.Tuple es kk tp) (Itu K a) [e, it] e (fun i h => (∃ old, IsEnum h e it ((i : Nat) : Int) old) ∧ h.IsTupleIter it a i ∧ e ≠ it) where
  mem := List.mem_cons_self
  obj := by
    rintro i h ⟨⟨old, he⟩, ⟨o, ho, hc, hd⟩, _⟩ b hb
    rcases List.mem_cons.mp hb with z | z
    · rw [z]
      exact ⟨_, he, fun v q => nomatch q⟩
    · rw [List.mem_singleton.mp z]
      refine ⟨o, ho, fun v q => ?_⟩
      rw [hd] at q
      cases q
  keep := by
    rintro i h h' ⟨⟨old, he⟩, hi, hne⟩ k
    exact ⟨⟨old, k e List.mem_cons_self _ he⟩, hi.at fun o q => k it (List.mem_cons_of_mem _ List.mem_cons_self) o q, hne⟩
  item := by
    intro X hP hw hK hc i pins s σ H E I hf st hg
    subst hP
    subst hw
    subst hK
    obtain ⟨⟨old, he⟩, hit, hne⟩ := st
    obtain ⟨xs, x, hq, hx⟩ := hg
    obtain ⟨its, rv, pt, hz⟩ := I.tuple hq
    obtain ⟨u, hu, ru⟩ := rv.get hx
    have hel : e < s.heap.objs.size := Heap.lt_size he
    have hil : it < s.heap.objs.size := by
      obtain ⟨_, q, _⟩ := hit
      exact Heap.lt_size q
    have hT : s.heap.IsTuple a its.toArray := pt
    have lt : i < its.toArray.size := by
      have z := (List.getElem?_eq_some_iff.mp hu).1
      simpa using z
    have D := Draws.tuple (prog := X.prog) (w := X.w) (A := X.A.in1) (show X.A.in1.handled = none from I.ok.hd hc) it a hai its.toArray
    refine wpAny_pyNext_enum_itemD D he ⟨hit, hT⟩ lt hne (by simp [hne, hae.symm]) fun y h' tk hy ho st' hTu hsz hk => ?_
    have ey : y = u := by
      have z : its[i]? = some y := by simpa using hy
      rw [hu] at z
      exact (Option.some.inj z).symm
    subst ey
    refine ⟨_, rfl, wpAny_letOwnedTupleGo_enum (s := { s with heap := h', toks := tk + 1 }) ho fun h'' he' sb => ?_⟩
    have far : s.heap.objs.size ≠ e := Nat.ne_of_gt hel
    have hT2 := (sb.2 _ far).trans hTu
    have new : ObjOk X.prog X.w (upd H s.heap.objs.size (.tup [.int (i : Nat), x])) h'' s.heap.objs.size (.tup [.int (i : Nat), x]) := by
      refine ⟨by show 2 ≤ sizeLine; decide, [.int i tk, y], .cons ⟨_, rfl⟩ (.cons ru .nil), ?_⟩
      exact ⟨_, hT2, rfl, _, rfl⟩
    have I1 : Inv X pins σ (upd H s.heap.objs.size (.tup [.int (i : Nat), x])) { s with heap := h'', toks := tk + 1 } := by
      refine I.turnedNew (ch := [e, it]) (fun b ob hb q => ?_) hf (Nat.le_refl _) new
      have n1 : b ≠ e := fun z => hb (by rw [z]; exact List.mem_cons_self)
      have n2 : b ≠ it := fun z => hb (by rw [z]; exact List.mem_cons_of_mem _ List.mem_cons_self)
      exact (sb.2 b n1).trans (hk b ob n1 n2 q)
    refine ⟨.ref s.heap.objs.size, _, I1, rfl, ⟨_, x, rfl, I.hok.fresh (Nat.le_refl _), rfl, fun ys hy => ?_⟩, ⟨⟨y, ?_⟩, st'.1.at fun o q => (sb.2 it hne.symm).trans q, hne⟩, fun b hb => ?_⟩
    · rw [tup_inj I hy hq]
      exact hx
    · have e1 : ((i + 1 : Nat) : Int) = (i : Int) + 1 := Int.natCast_succ i
      rw [e1]
      exact he'
    · have lb : b < s.heap.objs.size := by
        rcases List.mem_cons.mp hb with z | z
        · rw [z]
          exact hel
        · rw [List.mem_singleton.mp z]
          exact hil
      rw [upd_ne (Nat.ne_of_lt lb)]
      exact (hf b hb).1
  done := by
    intro X hP hw hK hc i pins s σ H E I hf st hg
    subst hP
    subst hw
    subst hK
    obtain ⟨⟨old, he⟩, hit, hne⟩ := st
    obtain ⟨xs, hq, hx⟩ := hg
    obtain ⟨its, rv, pt, hz⟩ := I.tuple hq
    have hT : s.heap.IsTuple a its.toArray := pt
    have ei : i = its.toArray.size := by
      have z := rv.length
      simp
      omega
    subst ei
    have fit := hf it (List.mem_cons_of_mem _ List.mem_cons_self)
    obtain ⟨f0, f1, f2, f3, f4, f5⟩ := fit
    have D := Draws.tuple (prog := X.prog) (w := X.w) (A := X.A.in1) (show X.A.in1.handled = none from I.ok.hd hc) it a hai its.toArray
    exact wpAny_pyNext_enum_endD D he ⟨hit, hT⟩ fun h' eb => ⟨rfl, I.turned (t' := s.toks) (fun b o hb q => eb b o hb q) f0 f1 f3 f4 f5⟩
  self := by
    rintro A i s Q E ⟨⟨_, he⟩, _⟩ h
    exact wpAny_pyIter_enum he h
def iEnumT (K : PySem.W.Frag) (ta : TA) : TI := fun σ H R => ta σ H fun vs H1 => ∃ (a : Addr) (xs : List V), vs = [.ref a] ∧ SqT K H1 a xs ∧ R (Itu K a) H1
theorem pi_enumT {X : Cx} {e : Expr} {ta : TA} {p pos tp : Pos} {es : List Expr} {kk : Nat} (hg : Gl X "enumerate") (hm : X.mg "enumerate" = none) (ha : PA X [e] ta)
    (hs : starEach [e] X.env = [(false, eval e X.env)] := by rfl) : PI X (.Tuple es kk tp) (.Call (.Name "enumerate" p) [e] [] pos) (iEnumT X.K ta) := by
  constructor
  intro pins s σ H R I h
  refine Call_ (ld_blt I hg hm boot_enumerate (PyProof.Rows.callWith_type1 (thn (ha.run pos pins s σ H _ I h) ?_) hs rfl))
  rintro us s1 ⟨vs, H1, I1, r1, a, xs, rfl, hq, q⟩
  obtain ⟨u, rfl, ru⟩ := vals1 r1
  cases (show u = Value.ref a from ru)
  obtain ⟨its, rv, pt, hz⟩ := I1.tuple hq
  have hT : s1.heap.IsTuple a its.toArray := pt
  have la : a < s1.heap.objs.size := by
    obtain ⟨o, ho, _⟩ := pt
    exact Heap.lt_size ho
  apply PySem.PawX.enum_of_tup hT
  intro h2 he hit hk
  apply wpAny_pyIter_enum he
  refine ⟨s1.heap.objs.size + 1, [s1.heap.objs.size + 1, s1.heap.objs.size], _, Itu X.K a, H1, rfl, I1.kept (t' := s1.toks) hk, turn_tupC a (s1.heap.objs.size + 1) s1.heap.objs.size (Nat.ne_of_lt (Nat.lt_succ_of_lt la)) (Nat.ne_of_lt la), ⟨⟨.none, he⟩, hit, Nat.succ_ne_self _⟩, fun b hb => ?_, q⟩
  have hle : s1.heap.objs.size ≤ b := by
    rcases List.mem_cons.mp hb with z | z
    · rw [z]
      exact Nat.le_succ _
    · rw [List.mem_singleton.mp z]
      exact Nat.le_refl _
  exact I1.fpOk hle (I1.hok.fresh hle)
theorem walk_enumT {K : PySem.W.Frag} {a : Addr} {xs : List V} : Walk (Itu K a) xs.length (fun H => SqT K H a xs) (YPair (fun i => some (.int (i : Nat))) (fun i => xs[i]?)) where
  goes := fun i _ hi q => ⟨xs, xs[i], q, by simp [hi]⟩
  stops := fun _ q => ⟨xs, q, rfl⟩
  yields := by
    rintro i H v H' _ q ⟨T, x, h1, h2, h3, h4⟩
    exact ⟨T, .int (i : Nat), x, h1, h2, h3, rfl, h4 xs q⟩
end Paw

set_option maxRecDepth 100000
set_option maxHeartbeats 4000000
namespace Paw
open PySem PySem.Spec PyProof.Rows L2
/-! ### B.m(self, ..), B a class of the module, m a def of it -/
section
variable {X : Cx} {CX : CXT} {k : Nat} {C f : Addr} {mc : Value} {sp : Sp} {E : L2.St → XK} {x m : Str} {p pos apos : Pos} {e : Expr} {es : List Expr} {t : TA} {pl : Sem Bool}
theorem pe_ofCls (hg : Gl X x) (hm : X.mg x = some (.ref C)) (r : ClX.CRead X.K C mc) (at_ : PySem.W.findCls X.K (.ref C) mc m = some (.val (.ref f))) (F : FnR X.prog X.w X.K X.mg X.base CX k f sp) (hk : PySem.W.keepIn X.K (.ref f) = true) (hr : Room k X.A) (hx : ∀ σ, PassesAt CX X σ (E σ)) (ha : PA X (e :: es) t)
    (hdb : (x == ("__debug__" : Str)) = false := by decide) (hs : starEach (e :: es) X.env = (false, eval e X.env) :: starEach es X.env := by rfl) (hpl : (backTo pos (starEach es X.env)).any (·.1) = false := by rfl)
    (ht : eval (.Call (.Attribute (.Name x p) m apos) (e :: es) [] pos) X.env = (do
      let ov ← eval (.Name x p) X.env
      standAt apos.atName
      let (f, first) ← holding [ov] (getMethod ov m pl)
      callWith pos f first (backTo pos (starEach (e :: es) X.env)) (backToKw pos (keywordEach [] X.env))) := by rfl) :
    PE X (.Call (.Attribute (.Name x p) m apos) (e :: es) [] pos) (tCallG sp E t) := by
  constructor
  intro pins s σ H Q I h
  refine PySem.W.methodCall_KW (pl := pl) (ld_glob I hg hm ?_ hdb) ht
  apply PySem.W.method_cls I.kIn r.ga
  refine PySem.W.cls_value I.kIn r.rd at_ (by rfl) ?_
  have I1 := I.tok (s.toks + 1)
  apply PySem.W.callWith_K (h₀ := X.base) I1.ok.mod.kin hk _ hs hpl
  apply thn (ha.run pos pins _ σ H _ I1 h)
  rintro us s2 ⟨vs, H2, I2, rv, q⟩
  exact ⟨I2.kIn, run_fnRS F hr (hx σ) I2 rv q⟩
end
/-! ### making an object at slots, by a promise of its __init__ -/
def tMakeS (C : Addr) (sp : Sp) (E : L2.St → XK) (t : TA) : TE := fun σ H Q => t σ H fun vs H1 => ∀ x dx, H1 x = none → H1 dx = none → dx ≠ x → sp (.ref x :: vs) (upd (upd H1 dx (.own x)) x (.ins C dx [])) (fun v H2 => v = .non ∧ Q (.ref x) H2) (E σ)
section
variable {X : Cx} {CX : CXT} {k n : Nat} {C f : Addr} {fd : FuncData} {ps ks : List Str} {sp : Sp} {E : L2.St → XK} {x : Str} {p pos : Pos} {e : Expr} {es : List Expr} {kws : List Keyword} {t tk : TA} {g : List Value → List Value → List Value} {gV : List V → List V → List V}
/-- an error out of a def that was called when a new object stood there, at the slots -/
theorem pass_made {pins : List (Addr × Obj)} {σ : L2.St} {H : Hp} {s : Shared} {E' : XK} {er : Value} {s' : Shared} (hx : PassesAt CX X σ E') (I2 : Inv X pins σ H s) (c : CX X.stack H s E' er s') : X.xe er s' := hx pins H s er s' I2 c
theorem pe_makeS (M : Mk X.K C f) (F : FnR X.prog X.w X.K X.mg X.base CX k f sp) (hr : Room (k + 1) X.A) (hg : Gl X x) (hm : X.mg x = some (.ref C)) (hx : ∀ σ, PassesAt CX X σ (E σ)) (ha : PA X (e :: es) t) (hdb : (x == ("__debug__" : Str)) = false := by decide)
    (he : starEach (e :: es) X.env = (false, eval e X.env) :: starEach es X.env := by rfl) (hpl : (backTo pos (starEach es X.env)).any (·.1) = false := by rfl) : PE X (.Call (.Name x p) (e :: es) [] pos) (tMakeS C sp E t) := by
  constructor
  intro pins s σ H Q I h
  apply wpAny_Call_Name_kw
  apply ld_glob I hg hm _ hdb
  apply PySem.W.callWith_K (h₀ := X.base) I.ok.mod.kin M.kp _ he hpl
  apply thn (ha.run pos pins s σ H _ I h)
  rintro us s1 ⟨vs, H1, I1, r, q⟩
  refine ⟨I1.kIn, ?_⟩
  have far := Nat.ne_of_lt (Nat.lt_succ_self s1.heap.objs.size)
  have hq := q (s1.heap.objs.size + 1) s1.heap.objs.size (I1.hok.fresh (Nat.le_succ _)) (I1.hok.fresh (Nat.le_refl _)) far
  have I2 := Inv.made (C := C) I1
  have r2 : Vals (V.ref (s1.heap.objs.size + 1) :: vs) (Value.ref (s1.heap.objs.size + 1) :: us) := .cons rfl r
  apply wpAny_call
  refine make_map (f := f) I1.kIn M.makes M.init (beq_iff_eq.mp M.fn) ?_
  apply codeAny_mono (F _ X.stack _ _ (Value.ref (s1.heap.objs.size + 1) :: us) _ _ (E σ) (hr.make C us []) (I2.env0.make C us []) r2 hq)
  intro r' s' q'
  match r', q' with
  | .error er, q' => exact hx σ pins _ _ er s' I2 q'
  | .ok (.ret u), q' =>
    obtain ⟨v, H2, I3, rv, ev, q3⟩ := I2.after q'
    subst ev
    exact ⟨rv, V.ref (s1.heap.objs.size + 1), H2, I3, rfl, q3⟩
end
end Paw

set_option maxRecDepth 100000
set_option maxHeartbeats 4000000
namespace Paw
open PySem PySem.Spec PyProof.Rows L2
/-! ### a, *b = a list -/
theorem unpack_star1 {prog : Program} {w : World} {A : Around} {E : Value → Shared → Prop} {s : Shared} {l : Addr} {items : Array Value} {n i : Nat} {Q : List Value → Shared → Prop} (hl : s.heap.IsList l items) (hh : A.handled = none) (hi : i < n) (hn : n ≤ items.size + 1) (hz : items.size ≤ sizeLine)
    (h : ∀ (h' : Heap) (tk : Nat), (∀ b o, s.heap.get? b = some o → h'.get? b = some o) → Q (items.toList.take i ++ [.ref h'.objs.size] ++ (items.toList.drop i).drop (items.size + 1 - n)) { s with heap := h'.push { cls := .type "list", data := .seq ((items.toList.drop i).take (items.size + 1 - n)).toArray }, toks := tk }) :
    wpAny (model prog w) A (unpackItems (.ref l) n (some i)) Q E s := by
  have hlt : l ≠ s.heap.objs.size := by obtain ⟨o, ho, _⟩ := hl; exact Nat.ne_of_lt (Heap.lt_size ho)
  have hll : l < s.heap.objs.size := by obtain ⟨o, ho, _⟩ := hl; exact Heap.lt_size ho
  unfold unpackItems
  apply wpAny_bind
  unfold notIterableAtAll
  apply wpAny_bind
  apply wpAny_specialOf hl.typeIs slot_list_iter.lookup
  apply wpAny_pure
  simp only [Bool.false_eq_true, if_false]
  apply wpAny_bind
  apply wpAny_holding
  apply wpAny_pyIter_list hl
  apply wpAny_bind
  apply wpAny_holding
  refine PySem.W.kun_draw hlt i 0 _ _ ⟨_, Heap.get?_push_size _ rfl, rfl, rfl⟩ (hl.push _) (by omega) fun h₁ hit₁ hs₁ => ?_
  have hl₁ : h₁.IsList l items := (hl.push _).extBut hs₁.extBut hlt
  rw [Nat.zero_add] at hit₁
  have hit₁' := hit₁
  obtain ⟨oi, hoi, _⟩ := hit₁'
  have hl₁' := hl₁
  obtain ⟨ol, hol, _⟩ := hl₁'
  rw [List.drop_zero]
  have hfl : (items.toList.take i).length = i := by rw [List.length_take, Array.length_toList]; omega
  rw [if_neg (show ¬ ((items.toList.take i).length < i) by rw [hfl]; omega)]
  apply wpAny_bind
  apply wpAny_holding
  refine PySem.W.kun_collect (s := { s with heap := h₁ }) (T := "list_iterator") (.inr (.inr (.inl rfl))) (Walks.list (A := A.in1) hh s.heap.objs.size l hlt items) (fun j u st => st.1.typeIs) (k := i) (by omega) ⟨hit₁, hl₁⟩ (Heap.lt_size hoi) (Heap.lt_size hol) (fun h₂ tk hk => ?_) hz
  have hrl : (items.toList.drop i).length = items.size - i := by rw [List.length_drop, Array.length_toList]
  have hmid : (items.toList.drop i).length - (n - 1 - i) = items.size + 1 - n := by rw [hrl]; omega
  show wpAny _ _ (if (items.toList.drop i).length < n - 1 - i then _ else _) _ _ _
  rw [if_neg (by rw [hrl]; omega)]
  show wpAny _ _ (newList ((items.toList.drop i).take ((items.toList.drop i).length - (n - 1 - i))) >>= fun d => pure (items.toList.take i ++ [d] ++ (items.toList.drop i).drop ((items.toList.drop i).length - (n - 1 - i)))) _ _ _
  rw [hmid]
  have he : ∀ b o, s.heap.get? b = some o → h₂.get? b = some o := fun b o e => by
    have nb : b ≠ s.heap.objs.size := Nat.ne_of_lt (Heap.lt_size e)
    exact hk b o nb (hs₁.extBut b o nb (Heap.get?_push_of_some _ e))
  apply wpAny_bind
  apply wpAny_newList
  · exact wpAny_pure (h h₂ tk he)
  · rw [List.length_take, hrl]
    omega
section
variable {X : Cx} {pos : Pos}
/-- a starred target, where it stands -/
theorem pgs_star {e : Expr} {p : Pos} {es : List Expr} {t : TG} {u : TGs} (h1 : PG X e t) (h2 : PGs X es u)
    (hs : (assignEach (.Starred e p :: es) X.env).map (·.2) = assign e X.env :: (assignEach es X.env).map (·.2) := by rfl) : PGs X (.Starred e p :: es) (gCons t u) := by
  refine ⟨fun pins s σ H vs us Q I r h => ?_⟩
  obtain ⟨v, vr, e1, h⟩ := h
  subst e1
  cases r with
  | cons r rr =>
    rw [hs]
    refine assignInOrder_cons (thn (h1.run pins s σ H _ _ _ I r h) fun _ s1 ⟨σ1, H1, I1, q1⟩ => ?_)
    exact h2.run pins s1 σ1 H1 _ _ Q I1 rr q1
/-- a, *b = a list -/
def gStar1 (K : PySem.W.Frag) (t : TGs) : TG := fun v σ H Q => ∃ a x xs, v = .ref a ∧ SqL K H a (x :: xs) ∧ ∀ D, H D = none → t [x, .ref D] σ (upd H D (.lst xs)) Q
theorem pg_star1 {es : List Expr} {k : Nat} {t : TGs} (hc : X.calm = true) (h : PGs X es t) (hn : (assignEach es X.env).length = 2 := by rfl) (hst : (assignEach es X.env).findIdx? (·.1) = some 1 := by rfl) : PG X (.Tuple es k pos) (gStar1 X.K t) := by
  refine ⟨fun pins s σ H v u Q I r hw => ?_⟩
  obtain ⟨a, x, xs, e1, hq, hw⟩ := hw
  subst e1
  cases r
  obtain ⟨its, rv, pl, hz⟩ := I.list hq
  cases rv with
  | @cons _ i1 _ ir r1 rr =>
    rw [PyProof.Rows.assign_Tuple]
    apply wpAny_bind
    apply wpAny_standAt
    unfold unpack
    rw [hn, hst]
    apply wpAny_bind
    apply wpAny_holding
    have sz : ((i1 :: ir).toArray).size = ir.length + 1 := by simp
    have hle := rr.length
    have hz1 : xs.length + 1 ≤ sizeLine := by simpa using hz
    refine unpack_star1 pl.isList (I.ok.hd hc) (by decide) (by rw [sz]; omega) (by rw [sz]; omega) fun h' tk hk => ?_
    have e3 : (((i1 :: ir).toArray).toList.drop 1).take (((i1 :: ir).toArray).size + 1 - 2) = ir := by
      simp
    have e4 : (((i1 :: ir).toArray).toList.drop 1).drop (((i1 :: ir).toArray).size + 1 - 2) = [] := by
      simp
    have e5 : ((i1 :: ir).toArray).toList.take 1 = [i1] := by simp
    rw [e3, e4, e5]
    have I1 : Inv X pins σ H { s with heap := h', toks := tk } := I.kept (t' := tk) hk
    have hf : H h'.objs.size = none := I1.hok.fresh (Nat.le_refl _)
    have hlen : xs.length ≤ sizeLine := by omega
    have I2 : Inv X pins σ (upd H h'.objs.size (.lst xs)) { s with heap := h'.push { cls := .type "list", data := .seq ir.toArray }, toks := tk } := I1.laid (t' := tk) (fun b u e => Heap.get?_push_of_some _ e) (Nat.le_refl _) ⟨hlen, ir, 0, rr, Heap.get?_push_size _ rfl⟩
    exact h.run pins _ σ _ [x, .ref h'.objs.size] [i1, .ref h'.objs.size] Q I2 (.cons r1 (.cons rfl .nil)) (hw _ hf)
end
/-! ### str(x), x a text or a whole number of any size -/
theorem over_wide {K : PySem.W.Frag} {M : Model} {h : Heap} {a : Int} (X : K.In h) (n0 : PySem.W.nsIn K cStatics "sys.int_max_str_digits" = some none) (hb : a.natAbs.log2 < 12900) : PySem.W.Looks M h (Builtin.overDigitLimit? a) none := by
  intro A Q E s k q
  unfold Builtin.overDigitLimit?
  by_cases h1 : a.natAbs.log2 < 1920
  · rw [if_pos h1]
    exact wpAny_pure q
  · rw [if_neg h1]
    unfold Builtin.intMaxStrDigits
    apply wpAny_bind
    apply wpAny_bind
    refine (PySem.W.looks_nsIn X n0) A _ E s k ?_
    apply wpAny_pure
    show wpAny M A (if a.natAbs.log2 / 30 + 1 > 1000 then _ else _) Q E s
    rw [if_neg (by omega)]
    show wpAny M A (if (4300 == 0 || decide (a.natAbs.log2 < 3 * 4300)) = true then _ else _) Q E s
    rw [if_pos (by simp; omega)]
    exact wpAny_pure q
end Paw

set_option maxRecDepth 100000
set_option maxHeartbeats 4000000
namespace Paw
open PySem PySem.Spec PyProof.Rows L2
/-! ### try: .. except (A, B, C): suite -/
theorem fz_kept {base : Heap} {l : List Env} {e : Addr} {Z : Obj → Prop} {h h' : Heap} (x : HandSPX.FlyingZ base l e Z h) (k : ∀ b o, h.get? b = some o → h'.get? b = some o) : HandSPX.FlyingZ base l e Z h' := by
  obtain ⟨f1, f2, f3, oe, vs, T, oT, ts, e1, e2, e3, e4, e5, e6, e7, e8, e9⟩ := x
  exact ⟨fun b o q => k b o (f1 b o q), f2, Heap.FunFrames.of_keeps (fun b o q _ => ⟨o, k b o q, rfl⟩) f3, oe, vs, T, oT, ts, k _ _ e1, e2, e3, e4, e5, e6, k _ _ e7, e8, e9⟩
theorem ups_kept {h h' : Heap} (k : ∀ b o, h.get? b = some o → h'.get? b = some o) : h.UpToSlots h' := fun b o e _ => ⟨o.slots, k b o e⟩
/-- what such a clause asks of the error -/
def wAny (K : PySem.W.Frag) (cs : List Value) (ts : Addr → Value → Option Addr → TS) (Wout : WX) (D : Ends) : WX := fun cls d σ H =>
  ∃ b, PySem.W.exmAny K cls cs = some b ∧ (b = true → ∀ a, H a = none → ts a cls d D σ H) ∧ (b = false → Wout cls d σ H)
/-- the classes of the clause are read and asked -/
def Asked (X : Cx) (te : Expr) (cs : List Value) : Prop := ∀ (e : Addr) (cls : Value) (b : Bool) (a : Addr) (pn : List (Addr × Obj)) (pins : List (Addr × Obj)) (σ : L2.St) (H : Hp) (s : Shared) (Q : Bool → Shared → Prop) (E : Value → Shared → Prop),
  Inv (X.suite a pn) pins σ H s → PySem.W.Looks (model X.prog X.w) s.heap (typeOf (.ref e)) cls → PySem.W.exmAny X.K cls cs = some b → (∀ h', (∀ b o, s.heap.get? b = some o → h'.get? b = some o) → Q b { s with heap := h' }) →
    wpAny (model X.prog X.w) (X.A.mark (some (.ref a))) (eval te X.env) (fun c s1 => wpAny (model X.prog X.w) (X.A.mark (some (.ref a))) (excMatches (.ref e) c) Q E s1) E s
section
variable {X : Cx}
theorem name_here {x : Str} {c : Value} {np : Pos} {a : Addr} {pn pins : List (Addr × Obj)} {σ : L2.St} {H : Hp} {s : Shared} {Q : Value → Shared → Prop} {E : Value → Shared → Prop} (hc : Names X x c) (I : Inv (X.suite a pn) pins σ H s) (q : Q c s) :
    wpAny (model X.prog X.w) (X.A.mark (some (.ref a))) (eval (.Name x np) X.env) Q E s := by
  obtain ⟨hg, hdbg, hm | ⟨hm, hv, hnn⟩⟩ := hc
  · exact ld_glob (X := X.suite a pn) I hg hm q hdbg
  · exact ld_blt (X := X.suite a pn) I hg hm hv q hnn hdbg
theorem asked3 {x1 x2 x3 : Str} {c1 c2 c3 : Value} {n1 n2 n3 tp : Pos} {kk : Nat} (h1 : Names X x1 c1) (h2 : Names X x2 c2) (h3 : Names X x3 c3) : Asked X (.Tuple [.Name x1 n1, .Name x2 n2, .Name x3 n3] kk tp) [c1, c2, c3] := by
  intro e cls b a pn pins σ H s Q E I LT hx q
  apply wpAny_Tuple_spliced
  show wpAny _ _ (spliced ((false, eval (.Name x1 n1) X.env) :: (false, eval (.Name x2 n2) X.env) :: (false, eval (.Name x3 n3) X.env) :: [])) _ _ s
  apply Calls.spliced_cons
  apply name_here h1 I
  apply Calls.spliced_cons
  apply name_here h2 I
  apply Calls.spliced_cons
  apply name_here h3 I
  refine Calls.spliced_nil ⟨by show 3 ≤ sizeLine; decide, ?_⟩
  have k : ∀ b o, s.heap.get? b = some o → (s.heap.push { cls := .type "tuple", data := .seq [c1, c2, c3].toArray }).get? b = some o := fun b o e => Heap.get?_push_of_some _ e
  have L := PySem.W.exm_tup3 (M := model X.prog X.w) (e := e) (h := s.heap.push { cls := .type "tuple", data := .seq [c1, c2, c3].toArray }) (I.kIn.keeps k) (LT.keeps k) (Heap.get?_push_size _ rfl) hx
  exact L.here (s := { s with heap := s.heap.push { cls := .type "tuple", data := .seq [c1, c2, c3].toArray } }) (q _ k)
theorem asked4 {x1 x2 x3 x4 : Str} {c1 c2 c3 c4 : Value} {n1 n2 n3 n4 tp : Pos} {kk : Nat} (h1 : Names X x1 c1) (h2 : Names X x2 c2) (h3 : Names X x3 c3) (h4 : Names X x4 c4) : Asked X (.Tuple [.Name x1 n1, .Name x2 n2, .Name x3 n3, .Name x4 n4] kk tp) [c1, c2, c3, c4] := by
  intro e cls b a pn pins σ H s Q E I LT hx q
  apply wpAny_Tuple_spliced
  show wpAny _ _ (spliced ((false, eval (.Name x1 n1) X.env) :: (false, eval (.Name x2 n2) X.env) :: (false, eval (.Name x3 n3) X.env) :: (false, eval (.Name x4 n4) X.env) :: [])) _ _ s
  apply Calls.spliced_cons
  apply name_here h1 I
  apply Calls.spliced_cons
  apply name_here h2 I
  apply Calls.spliced_cons
  apply name_here h3 I
  apply Calls.spliced_cons
  apply name_here h4 I
  refine Calls.spliced_nil ⟨by show 4 ≤ sizeLine; decide, ?_⟩
  have k : ∀ b o, s.heap.get? b = some o → (s.heap.push { cls := .type "tuple", data := .seq [c1, c2, c3, c4].toArray }).get? b = some o := fun b o e => Heap.get?_push_of_some _ e
  have L := PySem.W.exm_tup4 (M := model X.prog X.w) (e := e) (h := s.heap.push { cls := .type "tuple", data := .seq [c1, c2, c3, c4].toArray }) (I.kIn.keeps k) (LT.keeps k) (Heap.get?_push_size _ rfl) hx
  exact L.here (s := { s with heap := s.heap.push { cls := .type "tuple", data := .seq [c1, c2, c3, c4].toArray } }) (q _ k)
variable {body suite : List Stmt} {b₀ : Stmt} {te : Expr} {pos pos' : Pos} {tb : WX → TS} {ts : Addr → Value → Option Addr → TS} {Wout : WX} {cs : List Value}
theorem ps_try_any (hs : X.stack = X.env :: X.outer) (hf : X.env.frame = some X.env.locals) (hc : Asked X te cs) (tk : Takes X Wout)
    (hb : ∀ (W : WX) (pn : List (Addr × Obj)) (xe : Value → Shared → Prop), Takes (X.tr pn xe) W → PassesOwn (model X.prog X.w) X.A X.env xe → PSs (X.tr pn xe) body (tb W))
    (hsu : ∀ (a : Addr) (oe : Obj) (cls : Value) (d : Option Addr) (pn : List (Addr × Obj)), Zc cls d oe → (∃ vs, oe.data = .fields vs) → PSs (X.suite a ((a, oe) :: pn)) (b₀ :: suite) (ts a cls d)) :
    PS X (.Try body [.ExceptHandler (some te) none (b₀ :: suite) pos'] [] [] pos) (fun D σ H => tb (wAny X.K cs ts Wout D) D σ H) := by
  refine ⟨fun pins s σ H D I h => ?_⟩
  have ok := I.ok
  have hfr : X.A.frames = some (X.env :: X.outer) := by rw [ok.frames, hs]
  refine wpAny_Try_except ?_
  refine wpAny_mono ((hb (wAny X.K cs ts Wout D) (X.pn ++ pins) (fun e s₁ => wpAny (model X.prog X.w) X.A (noteFrame e X.env) (fun _ s₂ => wpAny (model X.prog X.w) X.A (setFlight e none) (fun _ s₃ =>
    wpAny (model X.prog X.w) X.A (handleBy e X.env [.ExceptHandler (some te) none (b₀ :: suite) pos']) (SP X pins D) X.xe s₃) X.xe s₂) X.xe s₁) (fun u s' xx => ?_) PassesOwn.looking).run [] s σ H D (I.toTry _) h) (fun f s1 hsp => ?_) (fun e s1 he => he)
  · obtain ⟨a, B, sI, pins', σ', H', cls, d, rfl, J', nb, up, sky, na, os, ag, b, hb1, hyes, hno⟩ := xx
    have J : Inv X pins σ' H' sI := J'.ofTry ok
    have sky' : Sky B (X.env :: X.outer) a (Zc cls d) X.env.locals s'.heap := by rw [← hs]; exact sky
    show wpAny (model X.prog X.w) X.A (noteFrame (.ref a) X.env) _ _ _
    refine Sky.land Zc.steady hfr hf sky' fun h3 fl3 up3 => ?_
    have J3 : Inv X pins σ' H' { s' with heap := h3 } := J.landed nb fl3.1 (up.trans up3) os ag
    obtain ⟨oe3, vs3, he3, hz3, hd3⟩ := fl3.there
    have notFr : ∀ {h : Heap} {o : Obj} {vs : Array Value}, h.FunFrames B (X.env :: X.outer) → h.get? a = some o → o.data = .fields vs → a ∉ frs (X.env :: X.outer) := fun {h o vs} ff e dd hm => by
      obtain ⟨_, o', e', hnf⟩ := ff.mem hm
      rw [e] at e'; cases e'
      exact hnf _ dd
    have nfr := notFr fl3.2.2.1 he3 hd3
    have nL : a ≠ X.env.locals := fun z => nfr (List.mem_filterMap.mpr ⟨X.env, List.mem_cons_self, by rw [hf, z]⟩)
    have nF : a ∉ X.fs := fun hm => by
      obtain ⟨e, he, q⟩ := List.mem_filterMap.mp hm
      exact nfr (List.mem_filterMap.mpr ⟨e, List.mem_cons_of_mem _ he, q⟩)
    have S3 := J3.suite he3 hd3 na nL nF
    refine wpAny_handleBy_cons (codeAny_handlers_test ?_) (by intro q; cases q)
    have LT : PySem.W.Looks (model X.prog X.w) h3 (typeOf (.ref a)) cls := fun A Q E s k q => wpAny_typeOf_ref (k _ _ he3) (by rw [hz3.1]; exact q)
    refine hc a cls b a _ _ _ _ { s' with heap := h3 } _ _ S3 LT hb1 fun h3' k3 => ?_
    have fl3' := fz_kept fl3 k3
    have up3' : s'.heap.UpToSlots h3' := up3.trans (ups_kept k3)
    cases b with
    | true =>
      refine codeAny_handlers_suite ?_
      refine HandSPX.lands_againZ (s := { s' with heap := h3' }) fl3' fun h4 fl4 up4 => ?_
      have J4 : Inv X pins σ' H' { s' with heap := h4 } := J.landed nb fl4.1 ((up.trans up3').trans up4) os ag
      obtain ⟨oe4, vs4, he4, hz4, hd4⟩ := fl4.there
      have S4 := J4.suite he4 hd4 na nL nF
      refine wpAny_mono ((hsu a oe4 cls d (X.pn ++ pins) hz4 ⟨_, hd4⟩).run [] _ _ H' _ S4 (hyes rfl a na)) (fun f s6 hsp => ?_) (fun _ _ z => False.elim z)
      cases f with
      | next =>
        obtain ⟨σ6, H6, S6, q6⟩ := hsp
        exact ⟨_, _, S6.unsuite ok, q6⟩
      | brk =>
        obtain ⟨σ6, H6, S6, q6⟩ := hsp
        exact ⟨_, _, S6.unsuite ok, q6⟩
      | cont =>
        obtain ⟨σ6, H6, S6, q6⟩ := hsp
        exact ⟨_, _, S6.unsuite ok, q6⟩
      | ret u =>
        obtain ⟨v6, σ6, H6, S6, r6, q6⟩ := hsp
        exact ⟨_, _, _, S6.unsuite ok, r6, q6⟩
    | false =>
      show wpAny _ X.A (handleBy (.ref a) X.env []) _ _ _
      refine wpAny_handleBy_nil ?_
      obtain ⟨k1, k2, k3, oe, vs, T, oT, ts', he, hz, hd, h1, hr⟩ := id fl3'
      unfold PySem.passOn
      refine wpAny_bind (wpAny_field he hd h1 ?_)
      rw [if_neg (show ¬ ((Value.ref T == Value.none) = true) from by simp)]
      have fin : wpAny (model X.prog X.w) X.A (setFlight (.ref a) X.env.frame) (fun _ s4 => wpAny (model X.prog X.w) X.A (throw (.ref a) : Sem Flow) (SP X pins D) X.xe s4) X.xe { s' with heap := h3' } := by
        rw [hf]
        refine HandSPX.setFlight_upZ fl3' fun h4 hh4 up4 => wpAny_throw (tk _ _ ?_)
        exact ⟨a, B, sI, pins, σ', H', cls, d, rfl, J, nb, (up.trans up3').trans up4, .inr (.inr (by rw [hs]; exact hh4)), na, os, ag, hno rfl⟩
      first
        | exact wpAny_bind (wpAny_pure (wpAny_bind fin))
        | exact wpAny_bind fin
  · cases f with
    | next =>
      obtain ⟨σ', H', J', q⟩ := hsp
      exact wpAny_execs_nil ⟨σ', H', J'.ofTry ok, q⟩
    | brk =>
      obtain ⟨σ', H', J', q⟩ := hsp
      exact ⟨σ', H', J'.ofTry ok, q⟩
    | cont =>
      obtain ⟨σ', H', J', q⟩ := hsp
      exact ⟨σ', H', J'.ofTry ok, q⟩
    | ret u =>
      obtain ⟨v, σ', H', J', r, q⟩ := hsp
      exact ⟨v, σ', H', J'.ofTry ok, r, q⟩
end
end Paw

set_option maxRecDepth 100000
set_option maxHeartbeats 4000000
namespace Paw
open PySem PySem.Spec PyProof.Rows L2
/-! ### str(i), int(text): more than 640 digits -/
section
variable {prog : Program} {w : World} {A : Around} {E : Value → Shared → Prop} {s : Shared} {K : PySem.W.Frag}
/-- repr of an int below the digit limit -/
theorem repr_wide {a : Int} {t : Tok} {Q : Value → Shared → Prop} (X : K.In s.heap) (n0 : PySem.W.nsIn K cStatics "sys.int_max_str_digits" = some none) (hb : a.natAbs.log2 < 12900) (h : Q (.str (toString a) s.toks) { s with toks := s.toks + 1 }) :
    wpAny (model prog w) A (call (.builtin "int.__repr__") [.int a t]) Q E s := by
  refine wpAny_call_entry slot_int_repr (typeIs_int s a t) entry_int_repr ?_ (F.args_int_repr_1 _)
  unfold Builtin.«int.__repr__»
  show wpAny _ _ (Builtin.overDigitLimit? a >>= fun r => _) _ _ s
  apply wpAny_bind
  refine (over_wide (M := model prog w) X n0 hb) _ _ _ s (fun b o e => e) ?_
  have hz : (Str.ofString (toString a)).length ≤ sizeLine := by
    have e := int_text_length_le (k := 12900) (by decide) hb
    rw [PySem.ofString_length, sizeLine_eq]
    omega
  exact wpAny_bind (wpAny_mkStr (wpAny_pure ⟨_, rfl, h⟩) hz)
theorem str_wide {a : Int} {t : Tok} {Q : Value → Shared → Prop} (X : K.In s.heap) (n0 : PySem.W.nsIn K cStatics "sys.int_max_str_digits" = some none) (hb : a.natAbs.log2 < 12900) (h : Q (.str (toString a) s.toks) { s with toks := s.toks + 1 }) :
    wpAny (model prog w) A (call (.type "str") [.int a t]) Q E s := by
  refine callType_new F.called_str (by decide) (F.typeCall_str_1 _) (F.newCall_str_1 _) (fun obj => F.args_object_init_2 obj _) F.entry_str_new
    (meets_str_new (S := fun _ R s => K.In s.heap ∧ R (.ok (.ret (.str (toString a) s.toks))) { s with toks := s.toks + 1 }) ?_) ⟨X, typeIs_str _ _ _, h⟩
  rintro prog w A R s ⟨X, hq⟩
  unfold Builtin.Str.strOf
  rw [show Builtin.Str.isExactStr (.int a t) = false from rfl]
  simp only [cRoomFor, show [Value.int a t].any Value.onHeap = false from rfl, Bool.false_eq_true, if_false, pure_bind]
  refine wpAny_bind (m := callSpecial? _ (Str.ofString "__str__")) (wpAny_callSpecial?_slot (name := Str.ofString "__str__") (typeIs_int s a t) slot_int_str ?_)
  refine wpAny_call_entry slot_int_str (typeIs_int s a t) entry_object_str ?_ (args_object_str _)
  unfold Builtin.«object.__str__»
  refine wpAny_bind (m := slotArgs "__str__" 0 _) (wpAny_pure ?_)
  simp only [cRoomFor, show [Value.int a t].any Value.onHeap = false from rfl, Bool.false_eq_true, if_false, pure_bind]
  refine wpAny_bind (m := callSpecialIfBound? _ (Str.ofString "__repr__")) (wpAny_callSpecialIfBound?_slot (name := Str.ofString "__repr__") (typeIs_int s a t) slot_int_repr (repr_wide X n0 hb ?_))
  exact wpAny_pure ⟨_, rfl, wpAny_pure hq⟩
end
def numS (i : Int) : Str := Str.ofString (toString i)
/-- str(x), x a text or a whole number -/
theorem call_strA {X : Cx} (n0 : PySem.W.nsIn X.K cStatics "sys.int_max_str_digits" = some none) : CallR X (.type "str") (fun xs H Q => (∃ z, xs = [.str z] ∧ Q (.str z) H) ∨ (∃ i : Int, xs = [.int i] ∧ i.natAbs.log2 < 12900 ∧ Q (.str (numS i)) H)) := by
  intro pins s σ H xs us Q I r h
  rcases h with ⟨z, rfl, q⟩ | ⟨i, rfl, hb, q⟩
  · exact SkE.call_str_str pins s σ H _ us Q I r ⟨z, rfl, q⟩
  · obtain ⟨u, rfl, t, rfl⟩ := vals1 r
    exact str_wide I.kIn n0 hb ⟨.str _, H, I.tok _, ⟨_, rfl⟩, q⟩
end Paw

set_option maxRecDepth 100000
set_option maxHeartbeats 4000000
namespace Paw
open PySem PySem.Spec PyProof.Rows L2
/-! ### C.m(e, ..), m a staticmethod of the class C -/
section
variable {X : Cx} {CX : CXT} {k : Nat} {C f q : Addr} {mc : Value} {rest : List Value} {sp : Sp} {E : L2.St → XK} {x m : Str} {p pos apos : Pos} {e : Expr} {es : List Expr} {t : TA} {pl : Sem Bool}
theorem pe_ofStat (hg : Gl X x) (hm : X.mg x = some (.ref C)) (r : ClX.CRead X.K C mc) (at_ : PySem.W.findCls X.K (.ref C) mc m = some (.get (.builtin "staticmethod.__get__") (.ref q) .none (.ref C))) (hq : PySem.W.recIn X.K q "staticmethod" = some (.ref f :: rest))
    (F : FnR X.prog X.w X.K X.mg X.base CX k f sp) (hk : PySem.W.keepIn X.K (.ref f) = true) (hr : Room k X.A) (hx : ∀ σ, PassesAt CX X σ (E σ)) (ha : PA X (e :: es) t)
    (hdb : (x == ("__debug__" : Str)) = false := by decide) (hs : starEach (e :: es) X.env = (false, eval e X.env) :: starEach es X.env := by rfl) (hpl : (backTo pos (starEach es X.env)).any (·.1) = false := by rfl)
    (ht : eval (.Call (.Attribute (.Name x p) m apos) (e :: es) [] pos) X.env = (do
      let ov ← eval (.Name x p) X.env
      standAt apos.atName
      let (f, first) ← holding [ov] (getMethod ov m pl)
      callWith pos f first (backTo pos (starEach (e :: es) X.env)) (backToKw pos (keywordEach [] X.env))) := by rfl) :
    PE X (.Call (.Attribute (.Name x p) m apos) (e :: es) [] pos) (tCallG sp E t) := by
  constructor
  intro pins s σ H Q I h
  refine PySem.W.methodCall_KW (pl := pl) (ld_glob I hg hm ?_ hdb) ht
  apply PySem.W.method_cls I.kIn r.ga
  refine PySem.W.cls_bind I.kIn r.rd at_ (wpAny_call (PySem.W.sm_get (s := { s with toks := s.toks + 1 }) I.kIn hq (PySem.W.handed_on rfl ?_)))
  have I1 := I.tok (s.toks + 1)
  apply PySem.W.callWith_K (h₀ := X.base) I1.ok.mod.kin hk _ hs hpl
  apply thn (ha.run pos pins _ σ H _ I1 h)
  rintro us s2 ⟨vs, H2, I2, rv, q⟩
  exact ⟨I2.kIn, run_fnRS F hr (hx σ) I2 rv q⟩
end
/-! ### e.f, a property; the object may be of one of several classes -/
def PropRel (X : Cx) (CX : CXT) (f : Str) (k : Nat) (R : Addr → Sp → Prop) : Prop := ∀ C sp, R C sp → Cls X.K C ∧ ∃ p g fd ps, PropOf X.K C f p g ∧ FnOk X.prog X.w X.K X.mg X.base CX k g fd ps sp ∧ Binds X.K fd ps []
def tPropR (R : Addr → Sp → Prop) (E : XK) (ta : TE) : TE := fun σ H Q => ta σ H fun x H1 => ∃ a C dx fs sp, x = .ref a ∧ H1 a = some (.ins C dx fs) ∧ R C sp ∧ sp [.ref a] H1 Q E
section
variable {X : Cx} {CX : CXT} {k : Nat} {f : Str} {R : Addr → Sp → Prop} {E : XK} {e : Expr} {pos : Pos} {ta : TE}
theorem pe_propR (he : PE X e ta) (hp : PropRel X CX f k R) (hr : Room (k + 1) X.A) (hx : Passes CX X.nox E) (hab : attributeBase e f X.env (eval e X.env) = eval e X.env := by rfl) : PE X (.Attribute e f pos) (tPropR R E ta) := by
  refine ⟨fun pins s σ H Q I h => ?_⟩
  refine attr_of hab (thn (he.run pins s σ H _ I h) fun u s1 ⟨x, H1, I1, rx, a, C, dx, fs, sp, ex, ea, hR, q⟩ => ?_)
  subst ex
  obtain rfl : u = Value.ref a := rx
  obtain ⟨c, p, g, fd, ps, po, F, hb⟩ := hp C sp hR
  exact getprop_ok (dvs := []) (ds := []) I1 ea c po F hr hb .nil hx q
end
/-! ### isinstance(o, c), o an instance of an own class -/
structure OCls (K : PySem.W.Frag) (C : Addr) : Prop where
  ic : PySem.W.isClsIn K C = true
  hg : PySem.W.plainGet K C "__class__" = true
  ca : PySem.W.findIn K (.ref C) "__class__" = some (some (.builtin "object.__class__"))
  cg : PySem.W.specialIn K (.builtin "object.__class__") "__get__" = some (some (.builtin "getset_descriptor.__get__"))
  ct : PySem.W.takesIn K (.builtin "object.__class__") = some true
  ob : PySem.W.mroIn K C (.type "object") = some true
def rIsO (K : PySem.W.Frag) : List V → Hp → VK → Prop := fun xs H Q => ∃ (a C dx : Addr) (fs : List (Str × V)) (c : V) (cv : Value) (b : Bool), xs = [.ref a, c] ∧ ClsV c cv ∧ H a = some (.ins C dx fs) ∧ OCls K C ∧ PySem.W.kitOne K (.ref C) cv = some b ∧ Q (.bl b) H
theorem call_isO {X : Cx} : CallR X (.builtin "isinstance") (rIsO X.K) := by
  intro pins s σ H xs us Q I r h
  obtain ⟨a, C, dx, fs, c, cv, b, rfl, hc, ea, T, ek, q⟩ := h
  obtain ⟨u1, u2, rfl, r1, r2⟩ := vals2 r
  cases (show u1 = Value.ref a from r1)
  have e2 := hc.eq r2
  subst e2
  obtain ⟨mA, O, _, _, _, _⟩ := ins_get I.hok ea
  obtain ⟨od, J, _⟩ := O.look
  have fin : ∀ tk, EP X pins σ Q (.bool b) { s with toks := tk } := fun tk => ⟨.bl b, H, I.tok tk, rfl, q⟩
  exact PySem.W.kia_one (OwX.kitx_slt T.ic T.hg T.ca T.cg T.ct T.ob) I.kIn J ek (fun z => nomatch z) fin
/-! ### int(text), up to 4300 digits -/
section
variable {prog : Program} {w : World} {A : Around} {E : Value → Shared → Prop} {K : PySem.W.Frag}
theorem wp_limit {M : Model} {s : Shared} {Q : Nat → Shared → Prop} (X : K.In s.heap) (n0 : PySem.W.nsIn K cStatics "sys.int_max_str_digits" = some none) (h : Q 4300 s) : wpAny M A Builtin.intMaxStrDigits Q E s := by
  unfold Builtin.intMaxStrDigits
  apply wpAny_bind
  refine (PySem.W.looks_nsIn X n0) A _ E s (fun b o e => e) ?_
  exact wpAny_pure h
theorem wp_textW {M : Model} {s : Shared} {Q : Value → Shared → Prop} {v : Value} {text : List Nat} {n : Int} (X : K.In s.heap) (n0 : PySem.W.nsIn K cStatics "sys.int_max_str_digits" = some none)
    (hr : (int_private% "readNumeral") (if (text.takeWhile (· != 0)).length ≤ 640 then 0 else 4300) 10 (text.takeWhile (· != 0)) = (int_private% "Numeral.value") n)
    (ha : ((text.takeWhile (· != 0)).length == text.length) = true) (h : Q (.int n s.toks) { s with toks := s.toks + 1 }) :
    wpAny M A ((int_private% "intFromText") v text 10) Q E s := by
  by_cases hs : (text.takeWhile (· != 0)).length ≤ 640
  · rw [if_pos hs] at hr
    exact PySem.W.KIN.wp_text hs hr ha h
  · rw [if_neg hs] at hr
    obtain ⟨hp, g, d, tk, os⟩ := s
    repeat (any_goals (first
      | assumption
      | (with_reducible refine wpAny_ite_false (decide_eq_false hs) ?_)
      | (with_reducible refine wp_limit X n0 ?_)
      | (with_reducible refine wpAny_ite_true (decide_eq_true ha) ?_)
      | wp_step))
    all_goals (try rw [hr])
    all_goals (try dsimp only)
    repeat (any_goals (first
      | assumption
      | (with_reducible refine wpAny_ite_true (decide_eq_true ha) ?_)
      | wp_step))
set_option maxHeartbeats 8000000 in
theorem meets_textW {x : PySem.Str} {u : Tok} {n : Int} (n0 : PySem.W.nsIn K cStatics "sys.int_max_str_digits" = some none) (hl : x.length ≤ 4300) (hn : PySem.intText? x = some n) :
    Meets (Builtin.«int.__new__» ⟨[.type "int", .str x u], []⟩) (fun _ R s => K.In s.heap ∧ R (.ok (.ret (.int n s.toks))) { s with toks := s.toks + 1 }) :=
  .of_wp fun prog w A R s hh => by
    obtain ⟨hp, g, d, tk, os⟩ := s
    obtain ⟨X, h⟩ := hh
    have f1 := F.conv_sub_int
    have f2 := F.madeHere_int
    have f3 := PySem.W.KIN.str_int
    have f4 := PySem.W.KIN.str_idx
    have f5 := PySem.W.KIN.str_trunc
    have f6 : typeOf (.str x u) = pure (.type "str") := rfl
    have hr : (int_private% "readNumeral") (if (numSeenOf x).length ≤ 640 then 0 else 4300) 10 (numSeenOf x) = (int_private% "Numeral.value") n ∧ ((numSeenOf x).length == (numTextOf x).length) = true := by
      rcases readAny x (Nat.le_trans hl (by decide)) with ⟨m, h1, h2, h3⟩ | ⟨h1, _⟩
      · rw [hn] at h1
        injection h1 with h1
        subst h1
        exact ⟨h3, h2⟩
      · rw [hn] at h1
        cases h1
    have hk := PySem.W.KIN.Hid.mk hr
    clear hr hl hn
    repeat (any_goals (first
      | assumption
      | ((with_reducible show wpAny _ _ ((int_private% "intFromText") _ _ _) _ _ _); refine wp_textW X n0 hk.out.1 hk.out.2 ?_)
      | wp_step))
    all_goals first | exact ⟨_, rfl, h⟩ | skip
theorem int_wide {s : Shared} {x : PySem.Str} {t : Tok} {n : Int} {Q : Value → Shared → Prop} (X : K.In s.heap) (n0 : PySem.W.nsIn K cStatics "sys.int_max_str_digits" = some none) (hn : PySem.intText? x = some n) (hl : x.length ≤ 4300) (h : Q (.int n s.toks) { s with toks := s.toks + 1 }) :
    wpAny (model prog w) A (call (.type "int") [.str x t]) Q E s :=
  call_int_1 (meets_textW n0 hl hn) ⟨X, rfl, h⟩
end
theorem call_int_strW {X : Cx} (n0 : PySem.W.nsIn X.K cStatics "sys.int_max_str_digits" = some none) : CallR X (.type "int") (fun xs H Q => ∃ (a : Str) (n : Int), xs = [.str a] ∧ PySem.intText? a = some n ∧ a.length ≤ 4300 ∧ Q (.int n) H) := by
  intro pins s σ H xs us Q I rs h
  obtain ⟨a, n, rfl, hn, hl, q⟩ := h
  obtain ⟨u, rfl, t, rfl⟩ := vals1 rs
  exact int_wide I.kIn n0 hn hl ⟨.int n, H, I.tok _, ⟨_, rfl⟩, q⟩
end Paw

set_option maxRecDepth 100000
set_option maxHeartbeats 4000000
namespace Paw
open PySem PySem.Spec PyProof.Rows L2 PySem.NumText
/-! ### words that are numbers -/
def asciiW (w : Str) : Prop := ∀ c ∈ w.cps.toList, c < 128
def digC (c : Nat) : Bool := decide (48 ≤ c) && decide (c ≤ 57)
def decW (w : Str) : Bool := decide (0 < w.length) && w.cps.toList.all digC
def valW (w : Str) : Int := ((digitsVal w.cps.toList : Nat) : Int)
def numW (w : Str) : Option Int := if decW w then some (valW w) else none
/-- digits, the first one not 0 -/
def canonW (w : Str) : Bool := decW w && decide (w.cps.toList.head? ≠ some 48)
theorem dec_ascii : ∀ c < 128, Unicode.isDecimal c = digC c := by decide +kernel
theorem isdec {w : Str} (h : asciiW w) : Txt.isdecimal w = decW w := by
  unfold Txt.isdecimal decW
  have e : w.cps.all Unicode.isDecimal = w.cps.toList.all digC := by
    rw [← Array.all_toList]
    apply Bool.eq_iff_iff.mpr
    rw [List.all_eq_true, List.all_eq_true]
    exact ⟨fun g c hc => (dec_ascii c (h c hc)) ▸ g c hc, fun g c hc => (dec_ascii c (h c hc)).symm ▸ g c hc⟩
  rw [e]
theorem dec_all {w : Str} (h : decW w = true) : AllDigits w.cps.toList ∧ w.cps.toList ≠ [] := by
  unfold decW at h
  rw [Bool.and_eq_true] at h
  refine ⟨fun c hc => ?_, fun e => ?_⟩
  · have z := List.all_eq_true.mp h.2 c hc
    unfold digC at z
    rw [Bool.and_eq_true] at z
    exact ⟨of_decide_eq_true z.1, of_decide_eq_true z.2⟩
  · have z := of_decide_eq_true h.1
    have e2 : w.cps.toList.length = w.length := Array.length_toList
    rw [e] at e2
    simp at e2
    omega
theorem int_of_dec {w : Str} (h : decW w = true) (hl : w.length ≤ 4300) : PySem.intText? w = some (valW w) := intText_digits (dec_all h).1 (dec_all h).2 hl
/-! #### the decimal text of a number -/
def digs (n : Nat) : List Nat := (Nat.toDigits 10 n).map Char.toNat
theorem digs_small {n : Nat} (h : n < 10) : digs n = [48 + n] := by
  unfold digs
  rw [Nat.toDigits_of_lt_base h]
  have : ∀ m < 10, [Nat.digitChar m].map Char.toNat = [48 + m] := by decide
  exact this n h
theorem digs_step {n : Nat} (h : 10 ≤ n) : digs n = digs (n / 10) ++ [48 + n % 10] := by
  have hm : n % 10 < 10 := Nat.mod_lt n (by decide)
  have t : Nat.toDigits 10 (n / 10) ++ Nat.toDigits 10 (n % 10) = Nat.toDigits 10 (10 * (n / 10) + n % 10) := Nat.toDigits_append_toDigits (by decide) (by omega) hm
  rw [Nat.div_add_mod] at t
  have e := digs_small hm
  unfold digs at e ⊢
  rw [← t, List.map_append, e]
theorem digs_val (n : Nat) : digitsVal (digs n) = n := PySem.W.KIN.val_back n
theorem digs_all (n : Nat) : AllDigits (digs n) := by
  induction n using Nat.strongRecOn with
  | _ n ih =>
    by_cases h : n < 10
    · rw [digs_small h]
      intro c hc
      rw [List.mem_singleton.mp hc]
      omega
    · rw [digs_step (by omega)]
      intro c hc
      rcases List.mem_append.mp hc with z | z
      · exact ih (n / 10) (by omega) c z
      · rw [List.mem_singleton.mp z]
        omega
theorem digs_ne (n : Nat) : digs n ≠ [] := by
  by_cases h : n < 10
  · rw [digs_small h]
    simp
  · rw [digs_step (by omega)]
    simp
theorem digs_head : ∀ n : Nat, 0 < n → (digs n).head? ≠ some 48 := by
  intro n
  induction n using Nat.strongRecOn with
  | _ n ih =>
    intro h0
    by_cases h : n < 10
    · rw [digs_small h]
      intro e
      have : 48 + n = 48 := Option.some.inj e
      omega
    · rw [digs_step (by omega), List.head?_append]
      have g := ih (n / 10) (by omega) (by omega)
      have ne := digs_ne (n / 10)
      cases hd : digs (n / 10) with
      | nil => exact absurd hd ne
      | cons x r =>
        rw [hd] at g
        exact g
theorem val_cons (c : Nat) (cs : List Nat) : ∀ acc : Nat, (c :: cs).foldl (fun acc c => acc * 10 + (c - 48)) acc = cs.foldl (fun acc c => acc * 10 + (c - 48)) (acc * 10 + (c - 48)) := fun _ => rfl
theorem val_snoc (cs : List Nat) (c : Nat) : digitsVal (cs ++ [c]) = digitsVal cs * 10 + (c - 48) := by
  unfold digitsVal
  rw [List.foldl_append]
  rfl
/-- digits without a leading 0 are the text of their value -/
theorem digs_of (l : List Nat) : ∀ (n : Nat), l.length = n → AllDigits l → l ≠ [] → l.head? ≠ some 48 → 0 < digitsVal l ∧ digs (digitsVal l) = l := by
  intro n
  induction n generalizing l with
  | zero =>
    intro hl _ hne _
    exact absurd (List.length_eq_zero_iff.mp hl) hne
  | succ n ih =>
    intro hl hd hne h48
    obtain ⟨r, c, rfl⟩ : ∃ r c, l = r ++ [c] := ⟨l.dropLast, l.getLast hne, (List.dropLast_concat_getLast hne).symm⟩
    have hc := hd c (List.mem_append_right _ (List.mem_singleton.mpr rfl))
    rw [val_snoc]
    by_cases hr : r = []
    · subst hr
      have c48 : c ≠ 48 := fun e => h48 (by rw [e]; rfl)
      have e0 : digitsVal [] = 0 := rfl
      rw [e0, Nat.zero_mul, Nat.zero_add]
      refine ⟨by omega, ?_⟩
      rw [digs_small (by omega)]
      show [48 + (c - 48)] = [c]
      rw [show 48 + (c - 48) = c by omega]
    · have hr48 : r.head? ≠ some 48 := by
        cases r with
        | nil => exact absurd rfl hr
        | cons x t => exact h48
      have rl : r.length = n := by
        rw [List.length_append] at hl
        simp at hl
        exact hl
      obtain ⟨h1, h2⟩ := ih r rl (fun d hd' => hd d (List.mem_append_left _ hd')) hr hr48
      refine ⟨by omega, ?_⟩
      rw [digs_step (by omega)]
      have e1 : (digitsVal r * 10 + (c - 48)) / 10 = digitsVal r := by omega
      have e2 : (digitsVal r * 10 + (c - 48)) % 10 = c - 48 := by omega
      rw [e1, e2, h2, show 48 + (c - 48) = c by omega]
theorem numS_signs (n : Nat) : (numS (n : Int)).cps.toList = digs n := PySem.W.KIN.signs_num n
theorem str_ext {a b : Str} (h : a.cps.toList = b.cps.toList) : a = b := by
  obtain ⟨x⟩ := a
  obtain ⟨y⟩ := b
  have e : x = y := Array.toList_inj.mp h
  rw [e]
/-- the texts of the positive numbers -/
theorem canon_num {w : Str} (h : canonW w = true) : 1 ≤ valW w ∧ numS (valW w) = w := by
  unfold canonW at h
  rw [Bool.and_eq_true] at h
  have d := dec_all h.1
  obtain ⟨h1, h2⟩ := digs_of w.cps.toList _ rfl d.1 d.2 (of_decide_eq_true h.2)
  refine ⟨by show (1 : Int) ≤ ((digitsVal w.cps.toList : Nat) : Int); omega, str_ext ?_⟩
  show (numS ((digitsVal w.cps.toList : Nat) : Int)).cps.toList = _
  rw [numS_signs, h2]
theorem num_canon {n : Int} (h : 1 ≤ n) : canonW (numS n) = true ∧ valW (numS n) = n := by
  obtain ⟨m, rfl⟩ := Int.eq_ofNat_of_zero_le (show 0 ≤ n by omega)
  have e := numS_signs m
  constructor
  · unfold canonW decW
    rw [e, Bool.and_eq_true, Bool.and_eq_true]
    refine ⟨⟨decide_eq_true ?_, List.all_eq_true.mpr fun c hc => ?_⟩, decide_eq_true (digs_head m (by omega))⟩
    · have l : (numS (m : Int)).cps.toList.length = (numS (m : Int)).length := Array.length_toList
      rw [← l, e]
      exact List.length_pos_iff.mpr (digs_ne m)
    · have z := digs_all m c hc
      unfold digC
      rw [decide_eq_true z.1, decide_eq_true z.2]
      rfl
  · unfold valW
    rw [e, digs_val]
/-- a decimal word with a positive value reads as its own text exactly if it is canonical -/
theorem num_back {w : Str} (hd : decW w = true) (h : 1 ≤ valW w) : decide (numS (valW w) = w) = canonW w := by
  cases hc : canonW w with
  | true => exact decide_eq_true (canon_num hc).2
  | false =>
    refine decide_eq_false fun e => ?_
    have z := (num_canon h).1
    rw [e, hc] at z
    cases z
theorem num_ascii {n : Int} (h : 1 ≤ n) : asciiW (numS n) := by
  obtain ⟨m, rfl⟩ := Int.eq_ofNat_of_zero_le (show 0 ≤ n by omega)
  intro c hc
  rw [numS_signs] at hc
  have := digs_all m c hc
  omega
end Paw

set_option maxRecDepth 100000
set_option maxHeartbeats 4000000
namespace Paw
open PySem PySem.Spec PyProof.Rows L2
/-! ### words between blanks -/
def sp1 : Str := " "
theorem sp1_tl : TL.tl sp1 = [32] := by decide +kernel
theorem pre_one {c : Nat} {r : List Nat} : TL.pre [32] (c :: r) = decide (c = 32) := by
  unfold TL.pre
  by_cases h : c = 32
  · subst h
    rfl
  · rw [decide_eq_false h]
    simp [TL.pre, h]
    try omega
theorem spl_facts : ∀ (l acc : List Nat), TL.spl [32] 0 acc l ≠ [] ∧ (32 ∉ acc → ∀ w ∈ TL.spl [32] 0 acc l, 32 ∉ w) ∧ (∀ w ∈ TL.spl [32] 0 acc l, ∀ c ∈ w, c ∈ acc ∨ c ∈ l) ∧ (∀ w ∈ TL.spl [32] 0 acc l, w.length ≤ acc.length + l.length) ∧ (TL.spl [32] 0 acc l).length ≤ l.length + 1
  | [], acc => by
    have e : TL.spl [32] 0 acc [] = [acc] := by unfold TL.spl; rfl
    rw [e]
    refine ⟨by simp, fun h w hw => ?_, fun w hw c hc => ?_, fun w hw => ?_, Nat.le_refl _⟩
    · rw [List.mem_singleton.mp hw]
      exact h
    · rw [List.mem_singleton.mp hw] at hc
      exact .inl hc
    · rw [List.mem_singleton.mp hw]
      exact Nat.le_refl _
  | c :: r, acc => by
    have e : TL.spl [32] 0 acc (c :: r) = if TL.pre [32] (c :: r) = true then acc :: TL.spl [32] 0 [] r else TL.spl [32] 0 (acc ++ [c]) r := by
      rw [TL.spl]
      rfl
    rw [e, pre_one]
    by_cases h : c = 32
    · rw [decide_eq_true h, if_pos rfl]
      obtain ⟨h1, h2, h3, h4, h5⟩ := spl_facts r []
      refine ⟨by simp, fun g w hw => ?_, fun w hw x hx => ?_, fun w hw => ?_, by rw [List.length_cons, List.length_cons]; omega⟩
      · rcases List.mem_cons.mp hw with rfl | hw
        · exact g
        · exact h2 (by simp) w hw
      · rcases List.mem_cons.mp hw with rfl | hw
        · exact .inl hx
        · rcases h3 w hw x hx with z | z
          · cases z
          · exact .inr (List.mem_cons_of_mem _ z)
      · rcases List.mem_cons.mp hw with rfl | hw
        · omega
        · have := h4 w hw
          rw [List.length_cons]
          simp at this
          omega
    · rw [decide_eq_false h, if_neg Bool.false_ne_true]
      obtain ⟨h1, h2, h3, h4, h5⟩ := spl_facts r (acc ++ [c])
      refine ⟨h1, fun g => h2 fun z => ?_, fun w hw x hx => ?_, fun w hw => ?_, by rw [List.length_cons]; omega⟩
      · rcases List.mem_append.mp z with z | z
        · exact g z
        · exact h (List.mem_singleton.mp z).symm
      · rcases h3 w hw x hx with z | z
        · rcases List.mem_append.mp z with z | z
          · exact .inl z
          · rw [List.mem_singleton.mp z]
            exact .inr List.mem_cons_self
        · exact .inr (List.mem_cons_of_mem _ z)
      · have := h4 w hw
        rw [List.length_append] at this
        rw [List.length_cons]
        simp at this
        omega
theorem split_tl (z : Str) : (Txt.split z sp1).map TL.tl = TL.spl [32] 0 [] (TL.tl z) := by
  have h := TL.split_spl z sp1 (by rw [sp1_tl]; simp) (TL.kind_ok (by decide +kernel))
  rw [sp1_tl] at h
  exact h
theorem split_ne (z : Str) : Txt.split z sp1 ≠ [] := fun e => by
  have h := split_tl z
  rw [e] at h
  exact (spl_facts (TL.tl z) []).1 h.symm
theorem split_mem {z w : Str} (h : w ∈ Txt.split z sp1) : TL.tl w ∈ TL.spl [32] 0 [] (TL.tl z) := by
  rw [← split_tl]
  exact List.mem_map_of_mem h
theorem split_blank {z w : Str} (h : w ∈ Txt.split z sp1) : 32 ∉ w.cps.toList := (spl_facts (TL.tl z) []).2.1 (by simp) _ (split_mem h)
theorem split_signs {z w : Str} (h : w ∈ Txt.split z sp1) {c : Nat} (hc : c ∈ w.cps.toList) : c ∈ z.cps.toList := by
  rcases (spl_facts (TL.tl z) []).2.2.1 _ (split_mem h) c hc with x | x
  · cases x
  · exact x
theorem split_len {z w : Str} (h : w ∈ Txt.split z sp1) : w.length ≤ z.length := by
  have := (spl_facts (TL.tl z) []).2.2.2.1 _ (split_mem h)
  have e1 : (TL.tl w).length = w.length := Array.length_toList
  have e2 : (TL.tl z).length = z.length := Array.length_toList
  rw [e1, e2] at this
  simp at this
  exact this
theorem split_many (z : Str) : (Txt.split z sp1).length ≤ z.length + 1 := by
  have h := (spl_facts (TL.tl z) []).2.2.2.2
  rw [← split_tl, List.length_map] at h
  have e2 : (TL.tl z).length = z.length := Array.length_toList
  rw [e2] at h
  exact h
theorem join_back (z : Str) : Txt.join sp1 (Txt.split z sp1) = z := by
  rw [TL.join_eq]
  exact StrLaws.join_split z sp1
theorem split_back {ws : List Str} (hne : ws ≠ []) (h : ∀ w ∈ ws, 32 ∉ w.cps.toList) : Txt.split (Txt.join sp1 ws) sp1 = ws := TL.split_join sp1_tl (by decide +kernel) hne h
end Paw

set_option maxRecDepth 100000
set_option maxHeartbeats 4000000
namespace Paw
open PySem PySem.Spec PyProof.Rows L2
/-! ### list(zip(xs, ys)) -/
theorem zip_nolen : typeLookup (.type "zip") "__len__" = pure none := am_miss_of_fast (by decide +kernel)
theorem zip_nohint : typeLookup (.type "zip") "__length_hint__" = pure none := am_miss_of_fast (by decide +kernel)
theorem zip_hint {M : Model} {A : Around} {E : Value → Shared → Prop} {Q : Bool → Shared → Prop} {s : Shared} {z : Addr} (hT : s.TypeIs (.ref z) "zip") (h : Q true s) : wpAny M A (Builtin.List.listLengthHint (.ref z)) Q E s := by
  unfold Builtin.List.listLengthHint
  refine wpAny_bind (wpAny_specialOf hT zip_nolen ?_)
  refine PySem.W.KFB.if_not rfl ?_
  refine PySem.W.KFB.if_not rfl ?_
  refine wpAny_bind (wpAny_specialOf hT zip_nohint ?_)
  exact wpAny_pure h
/-- a zip that stands somewhere; ts: the pairs that it gave -/
def ZSt (h : Heap) (z TI TO : Addr) : List Addr → Prop
  | [] => IsZip h z TI TO .none ∧ ∃ x y, IsPair h TO x y
  | t :: _ => ∃ f, PySem.IsZipHeld h z TI TO t f
theorem paired_snoc {α β : Type} {F : α → β → Prop} : ∀ {as : List α} {bs : List β} {a : α} {b : β}, Paired F as bs → F a b → Paired F (as ++ [a]) (bs ++ [b])
  | [], _, _, _, .nil, h => .cons h .nil
  | _ :: _, _, _, _, .cons p r, h => .cons p (paired_snoc r h)
theorem paired_imp {α β : Type} {F G : α → β → Prop} : ∀ {as : List α} {bs : List β}, Paired F as bs → (∀ a ∈ as, ∀ b, F a b → G a b) → Paired G as bs
  | [], _, .nil, _ => .nil
  | a :: _, _, .cons p r, h => .cons (h a List.mem_cons_self _ p) (paired_imp r fun x hx => h x (List.mem_cons_of_mem _ hx))
theorem paired_head {α β : Type} {F : α → β → Prop} {a : α} {as : List α} : ∀ {bs : List β}, Paired F (a :: as) bs → ∃ b, F a b
  | _, .cons p _ => ⟨_, p⟩
section
variable {X : Cx} {pins : List (Addr × Obj)} {σ : L2.St} {a b z TI TO i1 i2 l : Addr} {xs ys : List V} {H0 : Hp} {A1 : Around} {Rs : Result → Shared → Prop}
theorem zl_loop (hh : A1.in1.handled = none) (D : ZipApart z TI TO i1 i2 a b) (ha : SqL X.K H0 a xs) (hb : SqL X.K H0 b ys) (hl0 : H0 l = none) (lim : xs.length ≤ 100000) (l5 : l ∉ [z, TI, TO, i1, i2])
    (done : ∀ ts H' s', Inv X pins σ H' s' → Same H0 H' → H' l = some (.lst (ts.map V.ref)) → Paired (fun (t : Addr) (p : V × V) => H' t = some (.tup [p.1, p.2])) ts (xs.zip ys) → Rs (.ok (.ret .none)) s') :
    ∀ (m i : Nat) (ts : List Addr) (H' : Hp) (s : Shared), min xs.length ys.length - i = m → i ≤ min xs.length ys.length → Inv X pins σ H' s → Same H0 H' → H' l = some (.lst (ts.map V.ref)) → ts.length = i →
      Paired (fun (t : Addr) (p : V × V) => H' t = some (.tup [p.1, p.2])) ts ((xs.zip ys).take i) → (∀ t ∈ ts, H0 t = none) → ZSt s.heap z TI TO ts → IsPair s.heap TI (.ref i1) (.ref i2) → s.heap.IsListIter i1 a i → s.heap.IsListIter i2 b i → TO < s.heap.objs.size →
      (∀ c ∈ [z, TI, TO, i1, i2], FpOk X pins H' c) → codeAny (model X.prog X.w) A1 (.builtin "list.extend.loop" ⟨[.ref l, .ref z, .none], []⟩) Rs s := by
  have lz : l ≠ z ∧ l ≠ TI ∧ l ≠ TO ∧ l ≠ i1 ∧ l ≠ i2 := by simpa using l5
  intro m
  induction m with
  | zero =>
    intro i ts H' s hm hi I S hL hlen hp hn st hTI h1 h2 hTOl hf
    have hin : i = min xs.length ys.length := by omega
    obtain ⟨its, rv, p, _⟩ := I.list (S.seq ha)
    obtain ⟨its2, rv2, p2, _⟩ := I.list (S.seq hb)
    have e1 := rv.length
    have e2 := rv2.length
    have he : its.toArray[i]? = none ∨ its2.toArray[i]? = none := by
      rcases Nat.le_total xs.length ys.length with q | q
      · exact .inl (by simp; omega)
      · exact .inr (by simp; omega)
    refine codeAny_builtin PySem.F.entry_extend_loop ?_
    rw [Around.under_plainId PySem.F.plain_extend_loop _]
    show wpAny _ A1.in1 (pyNext (.ref z) >>= _) _ _ _
    have tk : (xs.zip ys).take i = xs.zip ys := List.take_of_length_le (by rw [List.length_zip]; omega)
    rw [tk] at hp
    have fin : ∀ h', (∀ c o, c ≠ z → c ≠ TO → c ≠ i1 → c ≠ i2 → s.heap.get? c = some o → h'.get? c = some o) → Rs (.ok (.ret .none)) { s with heap := h' } := fun h' hk =>
      done ts H' _ (I.turnedL (t' := s.toks) (ch := [z, TI, TO, i1, i2]) (fun c o hb q => hk c o (fun q' => hb (by simp [q'])) (fun q' => hb (by simp [q'])) (fun q' => hb (by simp [q'])) (fun q' => hb (by simp [q'])) q) hf) S hL hp
    cases ts with
    | nil =>
      obtain ⟨hz, x, y, hTO⟩ := st
      exact wpAny_bind (wpAny_pyNext_zip_end hh D hz hTI hTO h1 h2 p.isList p2.isList he fun h' hk => wpAny_pure (fin h' hk))
    | cons t r =>
      obtain ⟨f, hz⟩ := st
      obtain ⟨pr, p0⟩ := paired_head hp
      obtain ⟨_, us, _, o, ho, _⟩ := (show ObjOk X.prog X.w H' s.heap t (.tup [pr.1, pr.2]) from I.hok t _ p0)
      exact wpAny_bind (wpAny_pyNext_zip_end_held hh D hz ho hTI h1 h2 p.isList p2.isList he fun h' hk => wpAny_pure (fin h' fun c o c1 _ c3 c4 e => hk c o c1 c3 c4 e))
  | succ m ih =>
    intro i ts H' s hm hi I S hL hlen hp hn st hTI h1 h2 hTOl hf
    have hlx : i < xs.length := by omega
    have hly : i < ys.length := by omega
    obtain ⟨its, rv, p, _⟩ := I.list (S.seq ha)
    obtain ⟨its2, rv2, p2, _⟩ := I.list (S.seq hb)
    obtain ⟨u, hu, ru⟩ := rv.get (List.getElem?_eq_getElem hlx)
    obtain ⟨u2, hu2, ru2⟩ := rv2.get (List.getElem?_eq_getElem hly)
    refine codeAny_builtin PySem.F.entry_extend_loop ?_
    rw [Around.under_plainId PySem.F.plain_extend_loop _]
    show wpAny _ A1.in1 (pyNext (.ref z) >>= _) _ _ _
    have zlt : z < s.heap.objs.size := by
      cases ts with
      | nil => exact Heap.lt_size st.1
      | cons t r =>
        obtain ⟨f, hz⟩ := st
        exact Heap.lt_size hz
    have nT : H' s.heap.objs.size = none := I.hok.fresh (Nat.le_refl _)
    have Tl : s.heap.objs.size ≠ l := fun e => by
      rw [e, hL] at nT
      cases nT
    -- what follows an item
    have go : ∀ (h' : Heap) (t0 : Addr) (f : Bool), (ts ++ [s.heap.objs.size]).head? = some t0 → PySem.IsZipHeld h' z TI TO t0 f → h'.IsListIter i1 a (i + 1) → h'.IsListIter i2 b (i + 1) → IsPair h' s.heap.objs.size u u2 → h'.objs.size = s.heap.objs.size + 1 →
        (∀ c o, c ≠ z → c ≠ TO → c ≠ i1 → c ≠ i2 → s.heap.get? c = some o → h'.get? c = some o) → wpAny (model X.prog X.w) A1.in1 (updateSeq l (·.push (Value.ref s.heap.objs.size)) >>= fun _ => again (.builtin "list.extend.loop" ⟨[.ref l, .ref z, .none], []⟩))
          (fun fin s' => match fin with | .done f => Rs (.ok f) s' | .again c' => c'.quiet = true ∧ codeAny (model X.prog X.w) A1 c' Rs s') (fun e s' => Rs (.error e) s') { s with heap := h' } := by
      intro h' t0 f h0 hz' h1' h2' hT hsz hk
      have new : ObjOk X.prog X.w (upd H' s.heap.objs.size (.tup [xs[i], ys[i]])) h' s.heap.objs.size (.tup [xs[i], ys[i]]) :=
        ⟨by show 2 ≤ sizeLine; decide, [u, u2], .cons ru (.cons ru2 .nil), ⟨_, hT, rfl, _, rfl⟩⟩
      have I1 : Inv X pins σ (upd H' s.heap.objs.size (.tup [xs[i], ys[i]])) { s with heap := h' } :=
        I.turnedNew (t' := s.toks) (ch := [z, TI, TO, i1, i2]) (fun c o hb q => hk c o (fun q' => hb (by simp [q'])) (fun q' => hb (by simp [q'])) (fun q' => hb (by simp [q'])) (fun q' => hb (by simp [q'])) q) hf (Nat.le_refl _) new
      have hL1 : upd H' s.heap.objs.size (.tup [xs[i], ys[i]]) l = some (.lst (ts.map V.ref)) := (upd_ne Tl.symm).trans hL
      obtain ⟨zz, itl, k, r2, hl2, e⟩ := I1.lstM hL1
      have lts : (ts.map V.ref).length = i := by rw [List.length_map, hlen]
      refine wpAny_bind (wpAny_updateSeq e rfl (wpAny_pure ⟨plainId_quiet PySem.F.plain_extend_loop _, ?_⟩) (by rw [List.size_toArray, ← hl2, lts]; exact Nat.le_trans (show i ≤ 100000 by omega) (by decide)) (by
        show (itl.toArray.push (Value.ref s.heap.objs.size)).size ≤ sizeLine + 1
        rw [Array.size_push, List.size_toArray, ← hl2, lts]
        exact Nat.le_trans (show i + 1 ≤ 100001 by omega) (by decide)))
      have I2 := I1.lset (f := (·.push (Value.ref s.heap.objs.size))) (its' := itl ++ [Value.ref s.heap.objs.size]) (ys := ts.map V.ref ++ [V.ref s.heap.objs.size]) (t' := s.toks) hL1 e (by simp) (r2.append (.cons rfl .nil)) (by
        rw [List.length_append, lts]
        exact Nat.le_trans (show i + 1 ≤ 100001 by omega) (by decide))
      have up : ∀ c o, c ≠ l → h'.get? c = some o → (h'.update l (Obj.mapSeq (·.push (Value.ref s.heap.objs.size)))).get? c = some o := fun c o hc q => (Heap.get?_update_other _ _ (Ne.symm hc)).trans q
      have n0 : ∀ c, H0 c = none → H' c = none → True := fun _ _ _ => trivial
      have nT0 : H0 s.heap.objs.size = none := by
        cases q : H0 s.heap.objs.size with
        | none => rfl
        | some o =>
          rw [S _ _ q] at nT
          cases nT
      have S2 : Same H0 (upd (upd H' s.heap.objs.size (.tup [xs[i], ys[i]])) l (.lst (ts.map V.ref ++ [V.ref s.heap.objs.size]))) := fun c o q => (upd_ne (ne_of_none q hl0)).trans ((upd_ne (ne_of_none q nT0)).trans (S _ _ q))
      refine ih (i + 1) (ts ++ [s.heap.objs.size]) _ _ (by omega) (by omega) I2 S2 (by rw [List.map_append]; exact upd_same) (by rw [List.length_append, hlen]; rfl) ?_ ?_ ?_ ?_ ?_ ?_ ?_ ?_
      · have hz2 : (xs.zip ys)[i]? = some (xs[i], ys[i]) := by
          rw [List.getElem?_eq_getElem (by rw [List.length_zip]; omega), List.getElem_zip]
        have tk : (xs.zip ys).take (i + 1) = (xs.zip ys).take i ++ [(xs[i], ys[i])] := by
          rw [List.take_succ, hz2]
          rfl
        rw [tk]
        refine paired_snoc (paired_imp hp fun t ht pr q => ?_) ((upd_ne Tl).trans upd_same)
        have tl : t ≠ l := fun e => by
          rw [e, hL] at q
          cases q
        exact (upd_ne tl).trans ((upd_ne (ne_of_none q nT)).trans q)
      · intro t ht
        rcases List.mem_append.mp ht with ht | ht
        · exact hn t ht
        · rw [List.mem_singleton.mp ht]
          exact nT0
      · have hz3 : PySem.IsZipHeld (h'.update l (Obj.mapSeq (·.push (Value.ref s.heap.objs.size)))) z TI TO t0 f := up _ _ lz.1.symm hz'
        cases ts with
        | nil =>
          have e0 : s.heap.objs.size = t0 := Option.some.inj h0
          subst e0
          exact ⟨f, hz3⟩
        | cons t r =>
          have e0 : t = t0 := Option.some.inj h0
          subst e0
          exact ⟨f, hz3⟩
      · exact up _ _ lz.2.1.symm (hk _ _ D.TIz D.TITO D.TIi1 D.TIi2 hTI)
      · exact h1'.at fun o q => up _ _ lz.2.2.2.1.symm q
      · exact h2'.at fun o q => up _ _ lz.2.2.2.2.symm q
      · show TO < (h'.update l (Obj.mapSeq (·.push (Value.ref s.heap.objs.size)))).objs.size
        rw [Heap.size_update, hsz]
        exact Nat.lt_succ_of_lt hTOl
      · intro c hc
        have hfc := hf c hc
        have cl : c ≠ l := fun e => by
          rw [e] at hc
          exact l5 hc
        have ct : c ≠ s.heap.objs.size := by
          have e' : c = z ∨ c = TI ∨ c = TO ∨ c = i1 ∨ c = i2 := by simpa using hc
          have hlt : c < s.heap.objs.size := by
            rcases e' with q | q | q | q | q
            · rw [q]; exact zlt
            · rw [q]; exact Heap.lt_size hTI
            · rw [q]; exact hTOl
            · rw [q]; obtain ⟨_, e1, _⟩ := h1; exact Heap.lt_size e1
            · rw [q]; obtain ⟨_, e2, _⟩ := h2; exact Heap.lt_size e2
          exact Nat.ne_of_lt hlt
        exact ⟨(upd_ne cl).trans ((upd_ne ct).trans hfc.1), hfc.2⟩
    cases ts with
    | nil =>
      obtain ⟨hz, x, y, hTO⟩ := st
      exact wpAny_bind (wpAny_pyNext_zip_item D hz hTI hTO h1 h2 p.isList p2.isList (x := u) (y := u2) (by simpa using hu) (by simpa using hu2) fun h' z' TO' h1' h2' hT hsz hk => go h' _ false rfl z' h1' h2' hT hsz hk)
    | cons t r =>
      obtain ⟨f, hz⟩ := st
      obtain ⟨pr, p0⟩ := paired_head hp
      obtain ⟨_, us, _, o, ho, _⟩ := (show ObjOk X.prog X.w H' s.heap t (.tup [pr.1, pr.2]) from I.hok t _ p0)
      exact wpAny_bind (wpAny_pyNext_zip_item_held D hz ho hTI h1 h2 p.isList p2.isList (x := u) (y := u2) (by simpa using hu) (by simpa using hu2) fun h' z' h1' h2' hT hsz hk => go h' _ true rfl z' h1' h2' hT hsz fun c o c1 _ c3 c4 e => hk c o c1 c3 c4 e)
/-- list(z), z a new zip of two lists -/
theorem list_zip {s : Shared} {H : Hp} {Q : VK} (hc : X.calm = true) (D : ZipApart z TI TO i1 i2 a b) (I : Inv X pins σ H s) (hz : IsZip s.heap z TI TO .none) (hTI : IsPair s.heap TI (.ref i1) (.ref i2)) (hTO : ∃ x y, IsPair s.heap TO x y)
    (h1 : s.heap.IsListIter i1 a 0) (h2 : s.heap.IsListIter i2 b 0) (hf : ∀ c ∈ [z, TI, TO, i1, i2], FpOk X pins H c) (ha : SqL X.K H a xs) (hb : SqL X.K H b ys) (lim : xs.length ≤ 100000)
    (q : ∀ (l : Addr) (ts : List Addr) (H' : Hp), H l = none → Same H H' → H' l = some (.lst (ts.map V.ref)) → Paired (fun (t : Addr) (p : V × V) => H' t = some (.tup [p.1, p.2])) ts (xs.zip ys) → Q (.ref l) H') :
    wpAny (model X.prog X.w) X.A (call (.type "list") [.ref z]) (EP X pins σ Q) X.xe s := by
  have fr : H s.heap.objs.size = none := I.hok.fresh (Nat.le_refl _)
  obtain ⟨x0, y0, hTO⟩ := hTO
  have low : ∀ c ∈ [z, TI, TO, i1, i2], c < s.heap.objs.size := fun c hcm => by
    have e' : c = z ∨ c = TI ∨ c = TO ∨ c = i1 ∨ c = i2 := by simpa using hcm
    rcases e' with q | q | q | q | q
    · rw [q]; exact Heap.lt_size hz
    · rw [q]; exact Heap.lt_size hTI
    · rw [q]; exact Heap.lt_size hTO
    · rw [q]; obtain ⟨_, e1, _⟩ := h1; exact Heap.lt_size e1
    · rw [q]; obtain ⟨_, e2, _⟩ := h2; exact Heap.lt_size e2
  have l5 : s.heap.objs.size ∉ [z, TI, TO, i1, i2] := fun hm => absurd (low _ hm) (Nat.lt_irrefl _)
  have lz : s.heap.objs.size ≠ z := fun e => l5 (by simp [e])
  refine callType_codes (Q₁ := fun obj s₁ => obj = .ref s.heap.objs.size ∧ s₁ = { s with heap := s.heap.push { cls := .type "list", data := .seq #[] } }) PySem.F.called_list (PySem.F.typeCall_list_1 _) PySem.F.entry_list_init
    (code_list_new _ ⟨rfl, rfl⟩) fun obj s₁ h₁ => ?_
  obtain ⟨rfl, rfl⟩ := h₁
  have hS : (s.heap.push { cls := .type "list", data := .seq #[] }).get? s.heap.objs.size = some { cls := .type "list", data := .seq #[] } := Heap.get?_push_size _ rfl
  refine ⟨⟨_, hS, rfl⟩, PySem.F.args_list_init_2 _ _, ?_⟩
  have I1 : Inv X pins σ (upd H s.heap.objs.size (.lst [])) { s with heap := s.heap.push { cls := .type "list", data := .seq #[] } } := I.lnew (its := []) (t' := s.toks) .nil (Nat.zero_le _)
  show wpAny _ _ (do let old ← Builtin.List.listItems (.ref s.heap.objs.size); Builtin.List.listUpdate (.ref s.heap.objs.size) (fun _ => #[]); letGo old.toList.reverse; Builtin.List.listExtendWith (.ref s.heap.objs.size) (.ref z) .none) _ _ _
  refine wpAny_bind ?_
  unfold Builtin.List.listItems
  refine wpAny_bind (wpAny_seqItems hS rfl (wpAny_pure ?_))
  show wpAny _ _ (updateSeq s.heap.objs.size (fun _ => #[]) >>= fun _ => letGo (#[] : Array Value).toList.reverse >>= fun _ => Builtin.List.listExtendWith (.ref s.heap.objs.size) (.ref z) .none) _ _ _
  refine wpAny_bind (wpAny_updateSeq hS rfl ?_)
  have I2 := I1.lset (f := fun _ => #[]) (its := []) (its' := []) (ys := []) (t' := s.toks) upd_same hS rfl .nil (Nat.zero_le _)
  rw [upd_upd] at I2
  refine wpAny_bind (wpAny_letGo ?_)
  have up : ∀ c o, s.heap.get? c = some o → ((s.heap.push { cls := .type "list", data := .seq #[] }).update s.heap.objs.size (Obj.mapSeq fun _ => #[])).get? c = some o := fun c o e =>
    (Heap.get?_update_other _ _ (fun e2 => absurd (Heap.lt_size e) (by rw [e2]; exact Nat.lt_irrefl _))).trans (Heap.get?_push_of_some _ e)
  have hz2 := up _ _ hz
  generalize hh1 : (s.heap.push { cls := .type "list", data := .seq #[] }).update s.heap.objs.size (Obj.mapSeq fun _ => #[]) = g1 at I2 up hz2 ⊢
  have sz1 : g1.objs.size = s.heap.objs.size + 1 := by rw [← hh1, Heap.size_update, Heap.size_push]
  unfold Builtin.List.listExtendWith
  refine wpAny_bind (wpAny_typeOf (T := "zip") ⟨_, hz2, rfl⟩ ?_)
  have t1 : Builtin.List.listSameRef (.ref s.heap.objs.size) (.ref z) = false := by simp [Builtin.List.listSameRef, lz]
  have t2 : (Value.type "zip" == Value.type "list") = false := by decide
  have t3 : (Value.type "zip" == Value.type "tuple") = false := by decide
  simp only [t1, t2, t3, Bool.or_false, Bool.false_eq_true, if_false]
  refine wpAny_bind (wpAny_pyIter_zip hz2 ?_)
  refine wpAny_bind (wpAny_holding (zip_hint ⟨_, hz2, rfl⟩ ?_))
  obtain ⟨zz, its, k, r3, hl3, e3⟩ := I2.lstM upd_same
  cases r3
  have loop : ∀ (h' : Heap), Inv X pins σ (upd H s.heap.objs.size (.lst [])) { s with heap := h' } → (∀ c o, c ≠ s.heap.objs.size → g1.get? c = some o → h'.get? c = some o) → h'.objs.size = g1.objs.size →
      codeAny (model X.prog X.w) X.A.in1 (.builtin "list.extend.loop" ⟨[.ref s.heap.objs.size, .ref z, .none], []⟩) (wants (fun r s₂ => r = .none ∧ EP X pins σ Q (.ref s.heap.objs.size) s₂) X.xe) { s with heap := h' } := fun h' I' k' sz' => by
    have all : ∀ c o, s.heap.get? c = some o → h'.get? c = some o := fun c o e => k' c o (fun e2 => absurd (Heap.lt_size e) (by rw [e2]; exact Nat.lt_irrefl _)) (up c o e)
    refine zl_loop (A1 := X.A.in1) (H0 := H) (Rs := wants (fun r s₂ => r = .none ∧ EP X pins σ Q (.ref s.heap.objs.size) s₂) X.xe) (I.ok.hd hc) D ha hb fr lim l5 (fun ts H' s' I3 S hL hp => ⟨rfl, .ref s.heap.objs.size, H', I3, rfl, q _ ts H' fr S hL hp⟩)
      _ 0 [] (upd H s.heap.objs.size (.lst [])) { s with heap := h' } rfl (Nat.zero_le _) I' (fun c o e => (upd_ne (ne_of_none e fr)).trans e) upd_same rfl .nil (fun _ z => nomatch z) ⟨all _ _ hz, x0, y0, all _ _ hTO⟩ (all _ _ hTI) (h1.at fun o e => all _ _ e) (h2.at fun o e => all _ _ e) (by
        show TO < h'.objs.size
        rw [sz', sz1]
        exact Nat.lt_succ_of_lt (low TO (by simp))) fun c hcm => ⟨(upd_ne (fun (e : c = s.heap.objs.size) => l5 (e ▸ hcm))).trans (hf c hcm).1, (hf c hcm).2⟩
  refine wpAny_ite_split (fun _ => ?_) (fun _ => wpAny_pure ⟨plainId_quiet PySem.F.plain_extend_loop _, loop _ I2 (fun _ _ _ e => e) rfl⟩)
  refine wpAny_bind (wpAny_rule ?_)
  refine wpAny_bind ?_
  show wpAny _ _ (updateSeq s.heap.objs.size (·.push .none) >>= fun _ => updateSeq s.heap.objs.size (·.pop)) _ _ _
  refine wpAny_bind (wpAny_updateSeq e3 rfl ?_)
  have J2 := I2.lset (f := (·.push Value.none)) (its' := [Value.none]) (ys := [.non]) (t' := s.toks) upd_same e3 (by simp) (.cons rfl .nil) (by rw [List.length_singleton, sizeLine_eq]; decide)
  obtain ⟨z4, its4, k4, r4, hl4, e4⟩ := J2.lstM upd_same
  obtain ⟨u4, rfl, ru4⟩ := r4.one
  refine wpAny_updateSeq e4 rfl ?_ (by show 1 ≤ sizeLine; rw [sizeLine_eq]; decide) (by show 0 ≤ sizeLine + 1; exact Nat.zero_le _)
  have J3 := J2.lset (f := (·.pop)) (its := [u4]) (its' := []) (ys := []) (t' := s.toks) upd_same e4 (by rfl) .nil (Nat.zero_le _)
  rw [upd_upd, upd_upd] at J3
  refine wpAny_pure ⟨plainId_quiet PySem.F.plain_extend_loop _, loop _ J3 (fun c o hb e => (Heap.get?_update_other _ _ (Ne.symm hb)).trans ((Heap.get?_update_other _ _ (Ne.symm hb)).trans e)) (by rw [Heap.size_update, Heap.size_update])⟩
end
/-- list(zip(e, e2)), e and e2 lists -/
def tListZip (K : PySem.W.Frag) (ta : TA) : TE := fun σ H Q => ta σ H fun vs H1 => ∃ a b xs ys, vs = [.ref a, .ref b] ∧ SqL K H1 a xs ∧ SqL K H1 b ys ∧ xs.length ≤ 100000 ∧
  ∀ (l : Addr) (ts : List Addr) (H' : Hp), H1 l = none → Same H1 H' → H' l = some (.lst (ts.map V.ref)) → Paired (fun (t : Addr) (p : V × V) => H' t = some (.tup [p.1, p.2])) ts (xs.zip ys) → Q (.ref l) H'
theorem pe_listZip {X : Cx} {e e2 : Expr} {ta : TA} {p pos zp zpos : Pos} (hc : X.calm = true) (hg : Gl X "list") (hm : X.mg "list" = none) (hgz : Gl X "zip") (hmz : X.mg "zip" = none) (ha : PA X [e, e2] ta)
    (hs0 : starEach [.Call (.Name "zip" zp) [e, e2] [] zpos] X.env = (false, eval (.Call (.Name "zip" zp) [e, e2] [] zpos) X.env) :: starEach [] X.env := by rfl)
    (hs : starEach [e, e2] X.env = (false, eval e X.env) :: starEach [e2] X.env := by rfl) (hpl : (backTo zpos (starEach [e2] X.env)).any (·.1) = false := by rfl) :
    PE X (.Call (.Name "list" p) [.Call (.Name "zip" zp) [e, e2] [] zpos] [] pos) (tListZip X.K ta) := by
  refine ⟨fun pins s σ H Q I h => ?_⟩
  refine wpAny_Call_Name_kw (ld_blt I hg hm bt_list ?_)
  refine PyProof.Rows.callWith_type1 ?_ hs0 rfl
  rw [hs0]
  show wpAny _ _ (spliced ((false, eval (.Call (.Name "zip" zp) [e, e2] [] zpos) X.env) :: backTo pos (starEach [] X.env))) _ _ _
  refine Calls.spliced_cons ?_
  refine Call_ (ld_blt (I.tok _) hgz hmz PyProof.Rows.boot_zip (PyProof.Rows.callWith_type1 (thn (ha.run zpos pins _ σ H _ (I.tok _) h) fun us s1 ⟨vs, H1, I1, r1, q1⟩ => ?_) hs hpl))
  obtain ⟨a, b, xs, ys, ex, hqx, hqy, lim, q⟩ := q1
  subst ex
  cases r1 with
  | cons r rr =>
    cases rr with
    | cons r' rr =>
      cases rr
      cases r
      cases r'
      obtain ⟨its, rv, p1, _⟩ := I1.list hqx
      obtain ⟨its2, rv2, p2, _⟩ := I1.list hqy
      have la : a < s1.heap.objs.size := p1.lt
      have lb : b < s1.heap.objs.size := p2.lt
      refine call_zip_2 p1.isList p2.isList fun h' hz hTI hTO h1 h2 hsz hk => ?_
      have I2 : Inv X pins σ H1 { s1 with heap := h' } := I1.kept (t' := s1.toks) hk
      refine Calls.spliced_nil ?_
      refine list_zip (s := { s1 with heap := h' }) hc (PySem.W.ktu_apart s1.heap.objs.size a b la lb) I2 hz hTI ⟨_, _, hTO⟩ h1 h2 (fun c hcm => ?_) hqx hqy lim q
      have e' : c = s1.heap.objs.size + 4 ∨ c = s1.heap.objs.size + 2 ∨ c = s1.heap.objs.size + 3 ∨ c = s1.heap.objs.size ∨ c = s1.heap.objs.size + 1 := by simpa using hcm
      have hle : s1.heap.objs.size ≤ c := by
        rcases e' with z | z | z | z | z
        · rw [z]; exact Nat.le_add_right _ _
        · rw [z]; exact Nat.le_add_right _ _
        · rw [z]; exact Nat.le_add_right _ _
        · rw [z]; exact Nat.le_refl _
        · rw [z]; exact Nat.le_add_right _ _
      exact I1.fpOk hle (I1.hok.fresh hle)
end Paw

set_option maxRecDepth 100000
set_option maxHeartbeats 4000000
namespace Paw
open PySem PySem.Spec PyProof.Rows L2 PySem.SeqAt
/-! ### x == y, x != y: an own __eq__, no own __ne__ -/
section
variable {prog : Program} {w : World} {A : Around} {E : Value → Shared → Prop} {s : Shared} {K : PySem.W.Frag} {x y C C' f : Addr} {ox oy : Obj} {od od' : Option Obj} {b tb : Value}
/-- the left one is asked -/
theorem rc_left {op : CmpOp} {Q : Value → Shared → Prop} (hu : A.units < cLine) (X : K.In s.heap) (I : PySem.W.InstAt s.heap x ox C od) (hb : PySem.W.Looks (model prog w) s.heap (typeOf b) tb) (hn : PySem.W.notFirst K C tb = true)
    (one : wpAny (model prog w) A (tryCompare (.ref x) (cmpInfo op).2.1 b) (fun r s' => ∃ v, r = some v ∧ Q v s') E s) : wpAny (model prog w) A (richCompare op (.ref x) b) Q E s := by
  unfold richCompare
  simp only [oneThing_ref]
  refine wpAny_holding (wpAny_bind (wpAny_cRoomFor hu ?_))
  refine wpAny_bind (I.type.here (wpAny_bind (hb.here ?_)))
  split
  · rename_i q
    have e : PySem.W.subIn K tb (.ref C) = some false := by
      rcases Bool.or_eq_true_iff.mp hn with e | e
      · rw [beq_iff_eq.mp e] at q; simp at q
      · exact beq_iff_eq.mp e
    refine wpAny_bind ((PySem.W.looks_subIn X e).here ?_)
    simp only [Bool.false_eq_true, if_false]
    refine wpAny_bind (wpAny_mono one (fun r s' z => ?_) fun _ _ e => e)
    obtain ⟨v, rfl, hq⟩ := z
    exact wpAny_pure hq
  · refine wpAny_bind (wpAny_pure ?_)
    simp only [Bool.false_eq_true, if_false]
    refine wpAny_bind (wpAny_mono one (fun r s' z => ?_) fun _ _ e => e)
    obtain ⟨v, rfl, hq⟩ := z
    exact wpAny_pure hq
/-- the right one is asked: it is of a class below -/
theorem rc_right {op : CmpOp} {Q : Value → Shared → Prop} (hu : A.units < cLine) (X : K.In s.heap) (I : PySem.W.InstAt s.heap x ox C od) (J : PySem.W.InstAt s.heap y oy C' od') (hn : C' ≠ C) (hsub : PySem.W.subIn K (.ref C') (.ref C) = some true)
    (one : wpAny (model prog w) A (tryCompare (.ref y) (cmpInfo op).2.2 (.ref x)) (fun r s' => ∃ v, r = some v ∧ Q v s') E s) : wpAny (model prog w) A (richCompare op (.ref x) (.ref y)) Q E s := by
  unfold richCompare
  simp only [oneThing_ref]
  refine wpAny_holding (wpAny_bind (wpAny_cRoomFor hu ?_))
  refine wpAny_bind (I.type.here (wpAny_bind (J.type.here ?_)))
  split
  · refine wpAny_bind ((PySem.W.looks_subIn X hsub).here ?_)
    simp only [if_true]
    refine wpAny_bind (wpAny_mono one (fun r s' z => ?_) fun _ _ e => e)
    obtain ⟨v, rfl, hq⟩ := z
    exact wpAny_bind (wpAny_rule (wpAny_pure hq))
  · rename_i q
    exact absurd (bne_iff_ne.mpr (fun e => hn (Value.ref.inj e).symm)) q
theorem try_own {name : Str} {Q : Value → Shared → Prop} (X : K.In s.heap) (I : PySem.W.InstAt s.heap x ox C od) (hs : PySem.W.findIn K (.ref C) name = some (some (.ref f))) (hf : PySem.W.isFn K (.ref f) = true)
    (h : wpAny (model prog w) A (call (.ref f) [.ref x, b]) (fun v s' => ∃ r, v = .bool r ∧ Q v s') E s) : wpAny (model prog w) A (tryCompare (.ref x) name b) (fun r s' => ∃ v, r = some v ∧ Q v s') E s := by
  unfold tryCompare
  refine wpAny_bind (PySem.W.ifBound_K X I hs hf (wpAny_mono h (fun v s' hv => ?_) fun _ _ e => e))
  obtain ⟨r, rfl, q⟩ := hv
  exact wpAny_pure ⟨_, rfl, q⟩
theorem ifBound_ne {M : Model} {args : List Value} {Q : Option Value → Shared → Prop} (X : K.In s.heap) (I : PySem.W.InstAt s.heap x ox C od) (hs : PySem.W.findIn K (.ref C) "__ne__" = some (some (.builtin "object.__ne__")))
    (h : wpAny M A (call (.builtin "object.__ne__") (.ref x :: args)) (fun v => Q (some v)) E s) : wpAny M A (callSpecialIfBound? (.ref x) "__ne__" args) Q E s := by
  simp only [callSpecialIfBound?, bindSpecialIfBound?]
  refine wpAny_holding (wpAny_bind (wpAny_bind (wpAny_bind (I.type.here ((PySem.W.looks_findIn X hs).here ?_)))))
  refine wpAny_bind (wpAny_askSetting (wpAny_ite ?_))
  have fin : wpAny M A (call (.builtin "object.__ne__") ([.ref x] ++ args) >>= fun v => pure (some v)) Q E s := wpAny_bind (wpAny_mono h (fun v s' h' => wpAny_pure h') fun _ _ h' => h')
  split
  · exact wpAny_bind (wpAny_of_eq (F.cmp_object.ne.bind _) (wpAny_pure (by exact fin)))
  · exact wpAny_tryCatch (wpAny_bind (wpAny_of_eq (F.cmp_object.ne.bind _) (wpAny_pure (by exact fin))))
theorem entry_ne {Q : Fin → Shared → Prop} (hu : A.units < cLine) (X : K.In s.heap) (I : PySem.W.InstAt s.heap x ox C od) (hs : PySem.W.findIn K (.ref C) "__eq__" = some (some (.ref f))) (hf : PySem.W.isFn K (.ref f) = true)
    (h : wpAny (model prog w) A (call (.ref f) [.ref x, b]) (fun v s' => ∃ r, v = .bool r ∧ Q (.done (.ret (.bool (!r)))) s') E s) : wpAny (model prog w) A (Builtin.«object.__ne__» ⟨[.ref x, b], []⟩) Q E s := by
  unfold Builtin.«object.__ne__»
  repeat (first
    | with_reducible refine wpAny_cRoomFor hu ?_
    | (refine wpAny_bind (m := callSpecialIfBound? (.ref x) (Str.ofString "__eq__") [b])
        (PySem.W.ifBound_K X I hs hf (wpAny_mono h (fun r s' hr => by
          obtain ⟨b, rfl, hq⟩ := hr
          repeat (first | exact hq | exact wpAny_pure hq | exact wpAny_truthy_bool hq | (refine wpAny_bind (m := truthy (.bool _)) (wpAny_truthy_bool ?_)) | wp_step)) fun _ _ e => e)))
    | wp_step)
theorem try_ne {Q : Value → Shared → Prop} (hu : A.units + 1 < cLine) (X : K.In s.heap) (I : PySem.W.InstAt s.heap x ox C od) (hs : PySem.W.findIn K (.ref C) "__eq__" = some (some (.ref f))) (hf : PySem.W.isFn K (.ref f) = true)
    (hne : PySem.W.findIn K (.ref C) "__ne__" = some (some (.builtin "object.__ne__"))) (hm : PySem.W.mroIn K C (.type "object") = some true)
    (h : wpAny (model prog w) A.in1 (call (.ref f) [.ref x, b]) (fun v s' => ∃ r, v = .bool r ∧ Q (.bool (!r)) s') E s) : wpAny (model prog w) A (tryCompare (.ref x) "__ne__" b) (fun r s' => ∃ v, r = some v ∧ Q v s') E s := by
  unfold tryCompare
  refine wpAny_bind (ifBound_ne X I hne (wpAny_call (codeAny_call_builtin F.cmp_object.ne.plain F.cmpEntry_ne (PySem.W.check_slot F.cmpKind_ne F.cmpSplit_ne (I.type.andThen (PySem.W.looks_mroIn X hm)) (F.cmpArgs_ne _ _)
    (entry_ne (A := A.in1) hu X I hs hf (wpAny_mono h (fun v s' hv => ?_) fun _ _ e => e))))))
  obtain ⟨r, rfl, q⟩ := hv
  exact ⟨r, rfl, wpAny_pure ⟨_, rfl, q⟩⟩
end
theorem sub_str {K : PySem.W.Frag} {C : Addr} : PySem.W.subIn K (.type "str") (.ref C) = some false := by
  have e : fastBuiltinMro "str" = some [.type "str", .type "object"] := by decide +kernel
  show (fastBuiltinMro "str").map (·.contains (.ref C)) = some false
  rw [e]
  first
    | rfl
    | simp
theorem sub_int {K : PySem.W.Frag} {C : Addr} : PySem.W.subIn K (.type "int") (.ref C) = some false := by
  have e : fastBuiltinMro "int" = some [.type "int", .type "object"] := by decide +kernel
  show (fastBuiltinMro "int").map (·.contains (.ref C)) = some false
  rw [e]
  first
    | rfl
    | simp
/-- a class with the own __eq__ at f -/
structure EqCls (K : PySem.W.Frag) (f C : Addr) : Prop where
  eq : PySem.W.findIn K (.ref C) "__eq__" = some (some (.ref f))
  ne : PySem.W.findIn K (.ref C) "__ne__" = some (some (.builtin "object.__ne__"))
  ob : PySem.W.mroIn K C (.type "object") = some true
/-- x == y; x an instance with the own __eq__, y one too, a text or a number; sp: what __eq__ promises, of the one that is asked -/
def rEqP (K : PySem.W.Frag) (f : Addr) (sp : Sp) (neg : Bool) : R2 := fun x y H Q => ∃ a C dx fs, x = .ref a ∧ H a = some (.ins C dx fs) ∧ EqCls K f C ∧
  (((∃ z, y = .str z) ∨ (∃ i, y = .int i)) ∧ sp [x, y] H (fun v H' => ∃ r, v = .bl r ∧ Q (.bl (if neg then !r else r)) H') E0 ∨
   ∃ b C' dx' fs', y = .ref b ∧ H b = some (.ins C' dx' fs') ∧ EqCls K f C' ∧
    ((C' = C ∨ PySem.W.subIn K (.ref C') (.ref C) = some false) ∧ sp [x, y] H (fun v H' => ∃ r, v = .bl r ∧ Q (.bl (if neg then !r else r)) H') E0 ∨
     C' ≠ C ∧ PySem.W.subIn K (.ref C') (.ref C) = some true ∧ sp [y, x] H (fun v H' => ∃ r, v = .bl r ∧ Q (.bl (if neg then !r else r)) H') E0))
section
variable {X : Cx} {n : Nat} {f : Addr} {sp : Sp}
theorem own_call {A : Around} {pins : List (Addr × Obj)} {σ : L2.St} {H : Hp} {s : Shared} {us : List Value} {vs : List V} {Q : Bool → Hp → Prop} (F : FnR X.prog X.w X.K X.mg X.base CX0 n f sp) (hr : Room n A) (e0 : Env0 X.prog X.w X.K X.mg X.base A X.stack s H) (hx : Passes CX0 X E0) (I : Inv X pins σ H s) (r : Vals vs us)
    (h : sp vs H (fun v H' => ∃ r, v = .bl r ∧ Q r H') E0) : wpAny (model X.prog X.w) A (call (.ref f) us) (fun v s' => ∃ r, v = .bool r ∧ ∃ H', Inv X pins σ H' s' ∧ Q r H') X.xe s :=
  wpAny_mono (wpAny_call (SlX.run_at F hr e0 hx I r h)) (fun v s' z => by
    obtain ⟨z', H', I', rz, b, eb, q⟩ := z
    subst eb
    cases (show v = Value.bool b from rz)
    exact ⟨b, rfl, H', I', q⟩) fun _ _ x => x
theorem op_eqP (hf : PySem.W.isFn X.K (.ref f) = true) (F : FnR X.prog X.w X.K X.mg X.base CX0 n f sp) (hr : Room (n + 1) X.A) (hx : Passes CX0 X E0) : OpR X (compareOp .Eq) (rEqP X.K f sp false) := by
  intro pins s σ H x y v u Q I rx ry h
  obtain ⟨a, C, dx, fs, rfl, ha, ec, h⟩ := h
  cases (show v = Value.ref a from rx)
  obtain ⟨mA, O, _⟩ := ins_get I.hok ha
  obtain ⟨od, J, _⟩ := O.look
  have hrn := hr.mono (Nat.le_succ n)
  have fin : ∀ {us vs}, Vals vs us → sp vs H (fun v H' => ∃ r, v = .bl r ∧ Q (.bl r) H') E0 → wpAny (model X.prog X.w) X.A (call (.ref f) us) (fun v s' => ∃ r, v = .bool r ∧ EP X pins σ Q v s') X.xe s := fun {us vs} r q =>
    wpAny_mono (own_call (Q := fun r H' => Q (.bl r) H') F hrn I.env0 hx I r q) (fun v s' ⟨r, e, H', I', q⟩ => ⟨r, e, .bl r, H', I', e, q⟩) fun _ _ x => x
  show wpAny _ _ (richCompare .Eq (.ref a) u) _ _ _
  rcases h with ⟨hy, q⟩ | ⟨b, C', dx', fs', rfl, hb, ec', h⟩
  · rcases hy with ⟨z, rfl⟩ | ⟨i, rfl⟩
    · obtain ⟨t, rfl⟩ := ry
      exact rc_left hr.units0 I.kIn J (tb := .type "str") (PySem.W.Looks.of_pure rfl) (Bool.or_eq_true_iff.mpr (.inr (beq_iff_eq.mpr sub_str))) (try_own I.kIn J ec.eq hf (fin (vs := [.ref a, .str z]) (us := [.ref a, .str z t]) (.cons rfl (.cons ⟨t, rfl⟩ .nil)) q))
    · obtain ⟨t, rfl⟩ := ry
      exact rc_left hr.units0 I.kIn J (tb := .type "int") (PySem.W.Looks.of_pure rfl) (Bool.or_eq_true_iff.mpr (.inr (beq_iff_eq.mpr sub_int))) (try_own I.kIn J ec.eq hf (fin (vs := [.ref a, .int i]) (us := [.ref a, .int i t]) (.cons rfl (.cons ⟨t, rfl⟩ .nil)) q))
  · cases (show u = Value.ref b from ry)
    obtain ⟨mB, O', _⟩ := ins_get I.hok hb
    obtain ⟨od', J', _⟩ := O'.look
    rcases h with ⟨hn, q⟩ | ⟨hn, hs, q⟩
    · refine rc_left hr.units0 I.kIn J (tb := .ref C') J'.type ?_ (try_own I.kIn J ec.eq hf (fin (vs := [.ref a, .ref b]) (us := [.ref a, .ref b]) (.cons rfl (.cons rfl .nil)) q))
      rcases hn with rfl | e
      · exact Bool.or_eq_true_iff.mpr (.inl (beq_iff_eq.mpr rfl))
      · exact Bool.or_eq_true_iff.mpr (.inr (beq_iff_eq.mpr e))
    · exact rc_right hr.units0 I.kIn J J' hn hs (try_own I.kIn J' ec'.eq hf (fin (vs := [.ref b, .ref a]) (us := [.ref b, .ref a]) (.cons rfl (.cons rfl .nil)) q))
theorem op_neP (hf : PySem.W.isFn X.K (.ref f) = true) (F : FnR X.prog X.w X.K X.mg X.base CX0 n f sp) (hr : Room (n + 1) X.A) (hx : Passes CX0 X E0) : OpR X (compareOp .NotEq) (rEqP X.K f sp true) := by
  intro pins s σ H x y v u Q I rx ry h
  obtain ⟨a, C, dx, fs, rfl, ha, ec, h⟩ := h
  cases (show v = Value.ref a from rx)
  obtain ⟨mA, O, _⟩ := ins_get I.hok ha
  obtain ⟨od, J, _⟩ := O.look
  have hu : X.A.units + 1 < cLine := Nat.lt_of_le_of_lt (Nat.add_le_add_left (by decide) _) hr.units
  have fin : ∀ {us vs}, Vals vs us → sp vs H (fun v H' => ∃ r, v = .bl r ∧ Q (.bl (!r)) H') E0 → wpAny (model X.prog X.w) X.A.in1 (call (.ref f) us) (fun v s' => ∃ r, v = .bool r ∧ EP X pins σ Q (.bool (!r)) s') X.xe s := fun {us vs} r q =>
    wpAny_mono (own_call (Q := fun r H' => Q (.bl (!r)) H') F hr.in1 I.env0.in1 hx I r q) (fun v s' ⟨r, e, H', I', q⟩ => ⟨r, e, .bl (!r), H', I', rfl, q⟩) fun _ _ x => x
  show wpAny _ _ (richCompare .NotEq (.ref a) u) _ _ _
  rcases h with ⟨hy, q⟩ | ⟨b, C', dx', fs', rfl, hb, ec', h⟩
  · rcases hy with ⟨z, rfl⟩ | ⟨i, rfl⟩
    · obtain ⟨t, rfl⟩ := ry
      exact rc_left hr.units0 I.kIn J (tb := .type "str") (PySem.W.Looks.of_pure rfl) (Bool.or_eq_true_iff.mpr (.inr (beq_iff_eq.mpr sub_str))) (try_ne hu I.kIn J ec.eq hf ec.ne ec.ob (fin (vs := [.ref a, .str z]) (us := [.ref a, .str z t]) (.cons rfl (.cons ⟨t, rfl⟩ .nil)) q))
    · obtain ⟨t, rfl⟩ := ry
      exact rc_left hr.units0 I.kIn J (tb := .type "int") (PySem.W.Looks.of_pure rfl) (Bool.or_eq_true_iff.mpr (.inr (beq_iff_eq.mpr sub_int))) (try_ne hu I.kIn J ec.eq hf ec.ne ec.ob (fin (vs := [.ref a, .int i]) (us := [.ref a, .int i t]) (.cons rfl (.cons ⟨t, rfl⟩ .nil)) q))
  · cases (show u = Value.ref b from ry)
    obtain ⟨mB, O', _⟩ := ins_get I.hok hb
    obtain ⟨od', J', _⟩ := O'.look
    rcases h with ⟨hn, q⟩ | ⟨hn, hs, q⟩
    · refine rc_left hr.units0 I.kIn J (tb := .ref C') J'.type ?_ (try_ne hu I.kIn J ec.eq hf ec.ne ec.ob (fin (vs := [.ref a, .ref b]) (us := [.ref a, .ref b]) (.cons rfl (.cons rfl .nil)) q))
      rcases hn with rfl | e
      · exact Bool.or_eq_true_iff.mpr (.inl (beq_iff_eq.mpr rfl))
      · exact Bool.or_eq_true_iff.mpr (.inr (beq_iff_eq.mpr e))
    · exact rc_right hr.units0 I.kIn J J' hn hs (try_ne hu I.kIn J' ec'.eq hf ec'.ne ec'.ob (fin (vs := [.ref b, .ref a]) (us := [.ref b, .ref a]) (.cons rfl (.cons rfl .nil)) q))
end
end Paw

set_option maxRecDepth 100000
set_option maxHeartbeats 4000000
namespace Paw
open PySem PySem.Spec PyProof.Rows L2
/-! ### o.m(e, ..), m a staticmethod of o's class -/
theorem findObj_nd {K : PySem.W.Frag} {C : Addr} {name : Str} {a g : Value} {od : Obj} (hh : PySem.W.hasDictIn K C = true) (ha : PySem.W.findIn K (.ref C) name = some (some a)) (hg : PySem.W.specialIn K a "__get__" = some (some g)) (ht : PySem.W.takesIn K a = some false)
    (hc : PySem.W.copiedNames.contains name = false) (hl : PySem.W.lookIn name od = some Option.none) : PySem.W.findObj K C (some od) name = some (.bind g a) := by
  obtain ⟨cd, hc', hd⟩ := PySem.W.any_some hh
  unfold PySem.W.findObj
  have ho : PySem.W.ownOf cd (some od) name = some none := by unfold PySem.W.ownOf; rw [if_pos hd]; exact hl
  rw [hc', Option.bind_some, ha, Option.bind_some]
  simp only [hg, ht, Option.bind_some, ho, hc, Bool.false_and, Bool.false_eq_true, if_false]
structure StI (K : PySem.W.Frag) (C f : Addr) (m : Str) : Prop where
  ex : ∃ (q : Addr) (rest : List Value), PySem.W.findIn K (.ref C) m = some (some (.ref q)) ∧ PySem.W.specialIn K (.ref q) "__get__" = some (some (.builtin "staticmethod.__get__")) ∧ PySem.W.takesIn K (.ref q) = some false ∧ PySem.W.typeIn K (.ref q) = some (.type "staticmethod") ∧
    PySem.W.recIn K q "staticmethod" = some (.ref f :: rest)
  kp : PySem.W.keepIn K (.ref f) = true
def tOfIns (K : PySem.W.Frag) (f : Addr) (m : Str) (sp : Sp) (E : L2.St → XK) (ta : TE) (t : TA) : TE := fun σ H Q => ta σ H fun x H1 => ∃ a C dx fs, x = .ref a ∧ H1 a = some (.ins C dx fs) ∧ Cls K C ∧ StI K C f m ∧ fs.lookup m = none ∧ t σ H1 fun vs H2 => sp vs H2 Q (E σ)
section
variable {X : Cx} {CX : CXT} {k : Nat} {f : Addr} {sp : Sp} {E : L2.St → XK} {m : Str} {pos apos : Pos} {o e : Expr} {es : List Expr} {ta : TE} {t : TA} {pl : Sem Bool}
theorem pe_ofIns (he : PE X o ta) (F : FnR X.prog X.w X.K X.mg X.base CX k f sp) (hr : Room k X.A) (hx : ∀ σ, PassesAt CX X σ (E σ)) (ha : PA X (e :: es) t) (hcp : PySem.W.copiedNames.contains m = false)
    (hs : starEach (e :: es) X.env = (false, eval e X.env) :: starEach es X.env := by rfl) (hpl : (backTo pos (starEach es X.env)).any (·.1) = false := by rfl)
    (ht : eval (.Call (.Attribute o m apos) (e :: es) [] pos) X.env = (do
      let ov ← eval o X.env
      standAt apos.atName
      let (f, first) ← holding [ov] (getMethod ov m pl)
      callWith pos f first (backTo pos (starEach (e :: es) X.env)) (backToKw pos (keywordEach [] X.env))) := by rfl) :
    PE X (.Call (.Attribute o m apos) (e :: es) [] pos) (tOfIns X.K f m sp E ta t) := by
  refine ⟨fun pins s σ H Q I h => ?_⟩
  refine PySem.W.methodCall_KW (pl := pl) (thn (he.run pins s σ H _ I h) fun u s1 ⟨x, H1, I1, rx, a, C, dx, fs, ex, ea, c, S, l, q⟩ => ?_) ht
  subst ex
  obtain rfl : u = Value.ref a := rx
  obtain ⟨qa, rest, s2, s3, s4, s5, s6⟩ := S.ex
  obtain ⟨mA, O, r, _, _, _⟩ := ins_get I1.hok ea
  have hn : mA m = none := RelO.none_of (by rw [← l]; exact r m)
  obtain ⟨od, J, hl⟩ := O.look
  refine PySem.W.method_usual I1.kIn J (PySem.W.plainGet_of (c.get m)).1 (PySem.W.plainGet_of (c.get m)).2 s2 (by simp [s5]) ?_
  refine PySem.W.get_bind I1.kIn J (PySem.W.plainGet_of (c.get m)).1 (findObj_nd c.hd s2 s3 s4 hcp (by rw [hl m, hn])) (PySem.W.plainGet_of (c.get m)).2 (wpAny_call (PySem.W.sm_get (s := { s1 with toks := s1.toks + 1 }) I1.kIn s6 (PySem.W.handed_on rfl ?_)))
  have I2 := I1.tok (s1.toks + 1)
  apply PySem.W.callWith_K (h₀ := X.base) I2.ok.mod.kin S.kp _ hs hpl
  apply thn (ha.run pos pins _ σ H1 _ I2 q)
  rintro us s3 ⟨vs, H2, I3, rv, q2⟩
  exact ⟨I3.kIn, run_fnRS F hr (hx σ) I3 rv q2⟩
end
end Paw

set_option maxRecDepth 100000
set_option maxHeartbeats 4000000
namespace Paw
open PySem PySem.Spec PyProof.Rows L2 PySem.NumText
open PySem.Builtin.Str (strSub)
/-! ### a text cut at its first stroke -/
def slS : Str := "/"
theorem slS_tl : TL.tl slS = [47] := by decide +kernel
def cutL : List Nat → List Nat × Option (List Nat)
  | [] => ([], none)
  | c :: r => if c = 47 then ([], some r) else (c :: (cutL r).1, (cutL r).2)
theorem cutL_none {l : List Nat} (h : 47 ∉ l) : cutL l = (l, none) := by
  induction l with
  | nil => rfl
  | cons c r ih =>
    have hc : c ≠ 47 := fun e => h (by rw [e]; exact List.mem_cons_self)
    unfold cutL
    rw [if_neg hc, ih fun z => h (List.mem_cons_of_mem _ z)]
theorem cutL_some {p r : List Nat} (h : 47 ∉ p) : cutL (p ++ 47 :: r) = (p, some r) := by
  induction p with
  | nil => rfl
  | cons c p ih =>
    have hc : c ≠ 47 := fun e => h (by rw [e]; exact List.mem_cons_self)
    show cutL (c :: (p ++ 47 :: r)) = _
    unfold cutL
    rw [if_neg hc, ih fun z => h (List.mem_cons_of_mem _ z)]
theorem cutL_cases (l : List Nat) : (47 ∉ l ∧ cutL l = (l, none)) ∨ ∃ p r, l = p ++ 47 :: r ∧ 47 ∉ p ∧ cutL l = (p, some r) := by
  induction l with
  | nil => exact .inl ⟨by simp, rfl⟩
  | cons c l ih =>
    by_cases hc : c = 47
    · exact .inr ⟨[], l, by rw [hc]; rfl, by simp, by unfold cutL; rw [if_pos hc]⟩
    · rcases ih with ⟨h1, h2⟩ | ⟨p, r, h1, h2, h3⟩
      · have h : 47 ∉ c :: l := fun z => (List.mem_cons.mp z).elim (fun e => hc e.symm) h1
        exact .inl ⟨h, cutL_none h⟩
      · have h : 47 ∉ c :: p := fun z => (List.mem_cons.mp z).elim (fun e => hc e.symm) h2
        exact .inr ⟨c :: p, r, by rw [h1]; rfl, h, by rw [h1]; exact cutL_some h⟩
def ofL (l : List Nat) : Str := ⟨l.toArray⟩
theorem ofL_tl (l : List Nat) : TL.tl (ofL l) = l := rfl
theorem ofL_eq (z : Str) : ofL (TL.tl z) = z := str_ext rfl
theorem tl_ext {a b : Str} (h : TL.tl a = TL.tl b) : a = b := str_ext h
theorem tl_app (a b : Str) : TL.tl (a ++ b) = TL.tl a ++ TL.tl b := by
  show (a.cps ++ b.cps).toList = _
  rw [Array.toList_append]
theorem tl_len (z : Str) : (TL.tl z).length = z.length := Array.length_toList
/-- partition at the stroke -/
theorem part_is (z : Str) : Txt.partition z slS = match cutL (TL.tl z) with
    | (_, none) => (z, Str.empty, Str.empty)
    | (p, some r) => (ofL p, slS, ofL r) := by
  have at1 : ∀ i : Nat, StrLaws.At z slS z.length i ↔ i < z.length ∧ (TL.tl z)[i]? = some 47 := by
    intro i
    have e1 : slS.length = 1 := rfl
    have e2 : slS.cps.toList = [47] := slS_tl
    show (i + slS.length ≤ z.length ∧ Builtin.Str.subAt z slS i = true) ↔ _
    rw [StrLaws.subAt_eq, e1, e2]
    have hl := tl_len z
    constructor
    · rintro ⟨h1, h2⟩
      refine ⟨by omega, ?_⟩
      have h3 := eq_of_beq h2
      have h4 : ((TL.tl z).drop i).take 1 = [47] := h3
      rw [List.drop_eq_getElem_cons (by omega : i < (TL.tl z).length)] at h4
      rw [List.getElem?_eq_getElem (by omega : i < (TL.tl z).length)]
      have h5 : (TL.tl z)[i]'(by omega) = 47 := by
        have h6 : [(TL.tl z)[i]'(by omega)] = [47] := h4
        injection h6
      rw [h5]
    · rintro ⟨h1, h2⟩
      refine ⟨by omega, ?_⟩
      obtain ⟨h3, h4⟩ := List.getElem?_eq_some_iff.mp h2
      show (((TL.tl z).drop i).take 1 == [47]) = true
      rw [List.drop_eq_getElem_cons h3, h4]
      rfl
  unfold Txt.partition
  rcases StrLaws.occ_head z slS 1 (Nat.le_refl 1) with ⟨h0, hn⟩ | ⟨i, r, h0, hi, hn⟩
  · rw [h0]
    have no : 47 ∉ TL.tl z := fun hm => by
      obtain ⟨i, hi, e⟩ := List.getElem_of_mem hm
      exact hn i ((at1 i).mpr ⟨by rw [tl_len] at hi; exact hi, by rw [List.getElem?_eq_getElem hi, e]⟩)
    rw [cutL_none no]
  · rw [h0]
    obtain ⟨h1, h2⟩ := (at1 i).mp hi
    obtain ⟨h3, h4⟩ := List.getElem?_eq_some_iff.mp h2
    have e : TL.tl z = (TL.tl z).take i ++ 47 :: (TL.tl z).drop (i + 1) := by
      conv => lhs; rw [← List.take_append_drop i (TL.tl z), List.drop_eq_getElem_cons h3, h4]
    have no : 47 ∉ (TL.tl z).take i := fun hm => by
      obtain ⟨k, hk, e⟩ := List.getElem_of_mem hm
      rw [List.length_take] at hk
      refine hn k (by omega) ((at1 k).mpr ⟨by omega, ?_⟩)
      rw [List.getElem_take] at e
      rw [List.getElem?_eq_getElem (by omega), e]
    rw [e, cutL_some no]
    have hl := tl_len z
    have a1 : strSub z 0 i = ofL ((TL.tl z).take i) := tl_ext (by
      show (strSub z 0 i).cps.toList = _
      rw [StrLaws.strSub_toList]
      show ((TL.tl z).drop 0).take (i - 0) = _
      rw [List.drop_zero, Nat.sub_zero]
      rfl)
    have a2 : strSub z (i + slS.length) z.length = ofL ((TL.tl z).drop (i + 1)) := tl_ext (by
      show (strSub z (i + slS.length) z.length).cps.toList = _
      rw [StrLaws.strSub_toList]
      show ((TL.tl z).drop (i + 1)).take (z.length - (i + 1)) = (TL.tl z).drop (i + 1)
      exact List.take_of_length_le (by rw [List.length_drop]; omega))
    show (strSub z 0 i, slS, strSub z (i + slS.length) z.length) = _
    rw [a1, a2]
/-! ### split at the stroke -/
theorem spl47 : ∀ (l acc : List Nat), TL.spl [47] 0 acc l = match cutL l with
    | (p, none) => [acc ++ p]
    | (p, some r) => (acc ++ p) :: TL.spl [47] 0 [] r
  | [], acc => by
    have e : TL.spl [47] 0 acc [] = [acc] := by unfold TL.spl; rfl
    rw [e]
    show _ = [acc ++ []]
    rw [List.append_nil]
  | c :: r, acc => by
    have e : TL.spl [47] 0 acc (c :: r) = if TL.pre [47] (c :: r) = true then acc :: TL.spl [47] 0 [] r else TL.spl [47] 0 (acc ++ [c]) r := by
      rw [TL.spl]
      rfl
    have pre : TL.pre [47] (c :: r) = decide (c = 47) := by
      unfold TL.pre
      by_cases h : c = 47
      · subst h
        rfl
      · rw [decide_eq_false h]
        simp [TL.pre, h]
        try omega
    rw [e, pre]
    by_cases h : c = 47
    · rw [decide_eq_true h, if_pos rfl]
      unfold cutL
      rw [if_pos h]
      show _ = (acc ++ []) :: _
      rw [List.append_nil]
    · rw [decide_eq_false h, if_neg Bool.false_ne_true, spl47 r (acc ++ [c])]
      have e2 : cutL (c :: r) = (c :: (cutL r).1, (cutL r).2) := by
        conv => lhs; unfold cutL
        rw [if_neg h]
      rw [e2]
      cases hc : cutL r with
      | mk p o =>
        cases o with
        | none =>
          show [acc ++ [c] ++ p] = [acc ++ c :: p]
          rw [List.append_assoc]
          rfl
        | some q =>
          show (acc ++ [c] ++ p) :: _ = (acc ++ c :: p) :: _
          rw [List.append_assoc]
          rfl
theorem split47 (z : Str) : Txt.split z slS = (TL.spl [47] 0 [] (TL.tl z)).map ofL := by
  have h := TL.split_spl z slS (by rw [slS_tl]; simp) (TL.kind_ok (by decide +kernel))
  rw [slS_tl] at h
  rw [← h, List.map_map]
  have : (ofL ∘ TL.tl) = (id : Str → Str) := funext fun z => ofL_eq z
  rw [this, List.map_id]
/-! ### the texts of whole numbers -/
def numL (i : Int) : List Nat := if i < 0 then 45 :: digs i.natAbs else digs i.natAbs
theorem numS_tl (i : Int) : TL.tl (numS i) = numL i := by
  unfold numL
  cases i with
  | ofNat n =>
    rw [if_neg (by have := Int.natCast_nonneg n; intro h; exact absurd (show (n : Int) < 0 from h) (by omega))]
    exact numS_signs n
  | negSucc n =>
    rw [if_pos (by omega)]
    have e : (toString (Int.negSucc n)) = "-" ++ toString (n + 1) := rfl
    show TL.tl (Str.ofString (toString (Int.negSucc n))) = _
    rw [e, TL.tl_ofString, String.toList_append, List.map_append]
    have e3 : TL.tl (Str.ofString (toString (n + 1))) = digs (n + 1) := numS_signs (n + 1)
    rw [TL.tl_ofString] at e3
    rw [e3]
    rfl
end Paw

set_option maxRecDepth 100000
set_option maxHeartbeats 4000000
namespace Paw
open PySem PySem.Spec PyProof.Rows L2 PySem.NumText
/-! ### arithmetic of fractions -/
def gz (t b : Int) : Int := ((Nat.gcd t.natAbs b.natAbs : Nat) : Int)
def sg (t b : Int) : Int := if decide (b < 0) then -(gz t b) else gz t b
def low (t b : Int) : Int × Int := (t.fdiv (sg t b), b.fdiv (sg t b))
theorem gz_pos {t b : Int} (h : b ≠ 0) : 0 < gz t b := by
  unfold gz
  have := Nat.gcd_pos_of_pos_right t.natAbs (Int.natAbs_pos.mpr h)
  omega
theorem sg_ne {t b : Int} (h : b ≠ 0) : sg t b ≠ 0 := by
  have := gz_pos (t := t) h
  unfold sg
  split <;> omega
theorem sg_abs {t b : Int} : (sg t b).natAbs = Nat.gcd t.natAbs b.natAbs := by
  unfold sg gz
  split <;> omega
theorem sg_dvd_t {t b : Int} : sg t b ∣ t := by
  rw [← Int.natAbs_dvd_natAbs, sg_abs]
  exact Nat.gcd_dvd_left _ _
theorem sg_dvd_b {t b : Int} : sg t b ∣ b := by
  rw [← Int.natAbs_dvd_natAbs, sg_abs]
  exact Nat.gcd_dvd_right _ _
theorem sg_le {t b : Int} (h : b ≠ 0) : (sg t b).natAbs ≤ b.natAbs := by
  rw [sg_abs]
  exact Nat.gcd_le_right _ (Int.natAbs_pos.mpr h)
theorem fdiv_abs {a g : Int} (h : g ∣ a) : (a.fdiv g).natAbs ≤ a.natAbs := by
  by_cases hg : g = 0
  · subst hg
    simp
  · have e : a.fdiv g * g = a := Int.fdiv_mul_cancel h
    have e2 : (a.fdiv g).natAbs * g.natAbs = a.natAbs := by rw [← Int.natAbs_mul, e]
    have e3 : 1 ≤ g.natAbs := Int.natAbs_pos.mpr hg
    calc (a.fdiv g).natAbs = (a.fdiv g).natAbs * 1 := (Nat.mul_one _).symm
      _ ≤ (a.fdiv g).natAbs * g.natAbs := Nat.mul_le_mul_left _ e3
      _ = a.natAbs := e2
theorem low_ne {t b : Int} (h : b ≠ 0) : (low t b).2 ≠ 0 := by
  intro z
  have e : b.fdiv (sg t b) * sg t b = b := Int.fdiv_mul_cancel sg_dvd_b
  have z' : b.fdiv (sg t b) = 0 := z
  rw [z', Int.zero_mul] at e
  exact h e.symm
theorem low_abs1 {t b : Int} : (low t b).1.natAbs ≤ t.natAbs := fdiv_abs sg_dvd_t
theorem low_abs2 {t b : Int} : (low t b).2.natAbs ≤ b.natAbs := fdiv_abs sg_dvd_b
/-! ### what data is a fraction -/
def fr2 : PyData → PyData → Bool
  | .int t, .int b => decide (1 ≤ b) && decide (gz t b = 1)
  | _, _ => false
def isF : PyData → Bool
  | .tuple [a, b] => fr2 a b
  | _ => false
def okB : PyData → Bool
  | .int b => !decide (b = 0)
  | _ => false
/-- the first one that is no fraction -/
def firstBad : List V → List PyData → Option V
  | v :: vs, d :: ds => if isF d then firstBad vs ds else some v
  | _, _ => none
def szD : PyData → Prop
  | .tuple [.int t, .int b] => t.natAbs < 2 ^ 1100 ∧ b.natAbs < 2 ^ 1100
  | _ => True
def stepT (t b m c : Int) : Int × Int := low (t * c + m * b) (b * c)
def stepP (t b m c : Int) : Int × Int := low (t * m) (b * c)
def foldS (f : Int → Int → Int → Int → Int × Int) : List PyData → Int → Int → Int × Int
  | .tuple [.int m, .int c] :: ds, t, b => foldS f ds (f t b m c).1 (f t b m c).2
  | _, t, b => (t, b)

theorem fmod_abs {a b : Int} (h : b ≠ 0) : (a.fmod b).natAbs < b.natAbs := by
  have e := @Int.fmod_eq_emod a b
  have h1 := Int.emod_nonneg a h
  have h2 := Int.emod_lt a h
  rw [e]
  by_cases z : 0 ≤ b ∨ b ∣ a
  · rw [if_pos z]
    omega
  · rw [if_neg z]
    have h3 : a % b ≠ 0 := fun w => z (.inr (Int.dvd_of_emod_eq_zero w))
    omega
theorem gcd_rest {a b q r : Int} (e : a = b * q + r) : Nat.gcd b.natAbs r.natAbs = Nat.gcd a.natAbs b.natAbs := by
  have e2 : r = a - b * q := by omega
  have dv : ∀ {g : Nat} {z : Int}, (g : Int) ∣ z ↔ g ∣ z.natAbs := Int.ofNat_dvd_left
  apply Nat.dvd_antisymm
  · refine Nat.dvd_gcd ?_ (Nat.gcd_dvd_left _ _)
    apply dv.mp
    have h1 : ((Nat.gcd b.natAbs r.natAbs : Nat) : Int) ∣ b := dv.mpr (Nat.gcd_dvd_left _ _)
    have h2 : ((Nat.gcd b.natAbs r.natAbs : Nat) : Int) ∣ r := dv.mpr (Nat.gcd_dvd_right _ _)
    have h3 := Int.dvd_add (Int.dvd_trans h1 (Int.dvd_mul_right b q)) h2
    rw [← e] at h3
    exact h3
  · refine Nat.dvd_gcd (Nat.gcd_dvd_right _ _) ?_
    apply dv.mp
    have h1 : ((Nat.gcd a.natAbs b.natAbs : Nat) : Int) ∣ a := dv.mpr (Nat.gcd_dvd_left _ _)
    have h2 : ((Nat.gcd a.natAbs b.natAbs : Nat) : Int) ∣ b := dv.mpr (Nat.gcd_dvd_right _ _)
    have h3 := Int.dvd_sub h1 (Int.dvd_trans h2 (Int.dvd_mul_right b q))
    rw [← e2] at h3
    exact h3
theorem gz_step {a b : Int} : gz b (a.fmod b) = gz a b := by
  have e : a = b * a.fdiv b + a.fmod b := by
    have := Int.fmod_add_mul_fdiv a b
    omega
  unfold gz
  rw [gcd_rest e]
theorem gz_zero {a : Int} : gz a 0 = ((a.natAbs : Nat) : Int) := by
  unfold gz
  rw [show (0 : Int).natAbs = 0 from rfl, Nat.gcd_zero_right]
theorem gz_low {t b : Int} (h : b ≠ 0) : gz (low t b).1 (low t b).2 = 1 ∧ 1 ≤ (low t b).2 := by
  have et : (low t b).1 * sg t b = t := Int.fdiv_mul_cancel sg_dvd_t
  have eb : (low t b).2 * sg t b = b := Int.fdiv_mul_cancel sg_dvd_b
  have hs := sg_ne (t := t) h
  have hg := gz_pos (t := t) h
  constructor
  · have e1 : (low t b).1.natAbs * (sg t b).natAbs = t.natAbs := by rw [← Int.natAbs_mul, et]
    have e2 : (low t b).2.natAbs * (sg t b).natAbs = b.natAbs := by rw [← Int.natAbs_mul, eb]
    have e3 : Nat.gcd (low t b).1.natAbs (low t b).2.natAbs * (sg t b).natAbs = (sg t b).natAbs := by
      rw [← Nat.gcd_mul_right, e1, e2]
      exact sg_abs.symm
    have e4 : 0 < (sg t b).natAbs := Int.natAbs_pos.mpr hs
    have e5 : Nat.gcd (low t b).1.natAbs (low t b).2.natAbs = 1 := Nat.eq_of_mul_eq_mul_right e4 (by rw [e3, Nat.one_mul])
    unfold gz
    rw [e5]
    rfl
  · have h0 := low_ne (t := t) h
    rcases Int.lt_trichotomy (low t b).2 0 with z | z | z
    · exfalso
      by_cases hb : b < 0
      · have es : sg t b = -(gz t b) := if_pos (decide_eq_true hb)
        have := Int.mul_pos_of_neg_of_neg z (show sg t b < 0 by omega)
        omega
      · have es : sg t b = gz t b := if_neg (by rw [decide_eq_true_eq]; exact hb)
        have := Int.mul_neg_of_neg_of_pos z (show 0 < sg t b by omega)
        omega
    · exact absurd z h0
    · omega
theorem low_id {m c : Int} (h : 1 ≤ c) (g : gz m c = 1) : low m c = (m, c) := by
  have e : sg m c = 1 := by
    unfold sg
    rw [if_neg (by rw [decide_eq_true_eq]; omega)]
    exact g
  unfold low
  rw [e, Int.fdiv_one, Int.fdiv_one]
theorem gz_one {m : Int} : gz m 1 = 1 := by
  unfold gz
  rw [show (1 : Int).natAbs = 1 from rfl, Nat.gcd_one_right]
  rfl
theorem gz_one' {m : Int} : gz 1 m = 1 := by
  unfold gz
  rw [show (1 : Int).natAbs = 1 from rfl, Nat.gcd_one_left]
  rfl
theorem low_self {x : Int} (h : 0 < x) : low x x = (1, 1) := by
  have e : sg x x = x := by
    unfold sg
    rw [if_neg (by rw [decide_eq_true_eq]; omega)]
    unfold gz
    rw [Nat.gcd_self]
    omega
  unfold low
  rw [e, Int.fdiv_self (by omega)]
theorem firstBad_drop : ∀ (i : Nat) (xs : List V) (ds : List PyData), (∀ j d, j < i → ds[j]? = some d → isF d = true) → xs.length = ds.length → firstBad xs ds = firstBad (xs.drop i) (ds.drop i)
  | 0, _, _, _, _ => rfl
  | i + 1, [], [], _, _ => rfl
  | i + 1, x :: xs, d :: ds, h, hl => by
    have e : firstBad (x :: xs) (d :: ds) = firstBad xs ds := if_pos (h 0 d (Nat.succ_pos _) rfl)
    rw [e, List.drop_succ_cons, List.drop_succ_cons]
    exact firstBad_drop i xs ds (fun j d hj hd => h (j + 1) d (Nat.succ_lt_succ hj) hd) (Nat.succ.inj hl)
theorem firstBad_at {xs : List V} {ds : List PyData} {i : Nat} {x : V} {d : PyData} (h : ∀ (j : Nat) (d : PyData), j < i → ds[j]? = some d → isF d = true) (hl : xs.length = ds.length) (hx : xs[i]? = some x) (hd : ds[i]? = some d) (hb : isF d = false) : firstBad xs ds = some x := by
  rw [firstBad_drop i xs ds h hl, List.drop_eq_getElem_cons (List.getElem?_eq_some_iff.mp hx).1, List.drop_eq_getElem_cons (List.getElem?_eq_some_iff.mp hd).1]
  rw [List.getElem?_eq_some_iff] at hx hd
  obtain ⟨_, ex⟩ := hx
  obtain ⟨_, ed⟩ := hd
  rw [ex, ed]
  exact (if_neg (by rw [hb]; exact Bool.false_ne_true))
theorem firstBad_none {xs : List V} {ds : List PyData} (h : ∀ (j : Nat) (d : PyData), ds[j]? = some d → isF d = true) (hl : xs.length = ds.length) : firstBad xs ds = none := by
  rw [firstBad_drop ds.length xs ds (fun j d _ e => h j d e) hl, List.drop_eq_nil_of_le (Nat.le_of_eq hl), List.drop_eq_nil_of_le (Nat.le_refl _)]
  rfl
theorem firstBad_all : ∀ {xs : List V} {ds : List PyData}, xs.length = ds.length → firstBad xs ds = none → ∀ d ∈ ds, isF d = true
  | [], [], _, _ => fun _ z => nomatch z
  | x :: xs, d :: ds, hl, h => by
    have e : firstBad (x :: xs) (d :: ds) = if isF d then firstBad xs ds else some x := rfl
    rw [e] at h
    cases hd : isF d with
    | false =>
      rw [hd] at h
      cases h
    | true =>
      rw [hd, if_pos rfl] at h
      intro y hy
      rcases List.mem_cons.mp hy with rfl | hy
      · exact hd
      · exact firstBad_all (Nat.succ.inj hl) h y hy
theorem isF_shape {d : PyData} (h : isF d = true) : ∃ t b : Int, d = .tuple [.int t, .int b] ∧ 1 ≤ b ∧ gz t b = 1 := by
  cases d with
  | tuple ds =>
    match ds, h with
    | [], h => cases h
    | [_], h => cases h
    | _ :: _ :: _ :: _, h => cases h
    | [a, b], h =>
      cases a with
      | int t =>
        cases b with
        | int b =>
          have z : (decide (1 ≤ b) && decide (gz t b = 1)) = true := h
          rw [Bool.and_eq_true] at z
          exact ⟨t, b, rfl, of_decide_eq_true z.1, of_decide_eq_true z.2⟩
        | _ => cases h
      | _ => cases h
  | _ => cases h
/-! ### texts of fractions -/
structure IsFr (t b : Int) : Prop where
  pos : 1 ≤ b
  low_ : gz t b = 1
def fracL (t b : Int) : List Nat := numL t ++ (if b = 1 then [] else 47 :: numL b)
def fracS (t b : Int) : Str := if b = 1 then numS t else numS t ++ slS ++ numS b
theorem fracS_tl {t b : Int} : TL.tl (fracS t b) = fracL t b := by
  unfold fracS fracL
  by_cases h : b = 1
  · rw [if_pos h, if_pos h, numS_tl, List.append_nil]
  · rw [if_neg h, if_neg h, tl_app, tl_app, numS_tl, numS_tl, slS_tl, List.append_assoc]
    rfl
theorem numL_signs {i : Int} {c : Nat} (h : c ∈ numL i) : c = 45 ∨ (48 ≤ c ∧ c ≤ 57) := by
  unfold numL at h
  split at h
  · rcases List.mem_cons.mp h with h | h
    · exact .inl h
    · exact .inr (digs_all _ c h)
  · exact .inr (digs_all _ c h)
theorem numL_no {i : Int} : 47 ∉ numL i := fun h => by
  rcases numL_signs h with h | h <;> omega
theorem numL_pos {b : Int} (h : 0 ≤ b) : numL b = digs b.natAbs := if_neg (by omega)
theorem fracL_cut {t b : Int} : cutL (fracL t b) = (numL t, if b = 1 then none else some (numL b)) := by
  unfold fracL
  by_cases h : b = 1
  · rw [if_pos h, if_pos h, List.append_nil, cutL_none numL_no]
  · rw [if_neg h, if_neg h, cutL_some numL_no]
/-- without a sign ahead -/
def stripL : List Nat → List Nat
  | 45 :: r => r
  | l => l
def valL : List Nat → Int
  | 45 :: r => -((digitsVal r : Nat) : Int)
  | l => ((digitsVal l : Nat) : Int)
theorem strip_dig {l : List Nat} (h : AllDigits l) : stripL l = l := by
  cases l with
  | nil => rfl
  | cons c r =>
    have := h c List.mem_cons_self
    unfold stripL
    split
    · rename_i h2
      injection h2 with h3
      omega
    · rfl
theorem valL_dig {l : List Nat} (h : AllDigits l) : valL l = ((digitsVal l : Nat) : Int) := by
  cases l with
  | nil => rfl
  | cons c r =>
    have := h c List.mem_cons_self
    unfold valL
    split
    · rename_i h2
      injection h2 with h3
      omega
    · rfl
theorem strip_num (i : Int) : stripL (numL i) = digs i.natAbs := by
  unfold numL
  split
  · rfl
  · exact strip_dig (digs_all _)
theorem val_num (i : Int) : valL (numL i) = i := by
  unfold numL
  split
  · show -((digitsVal (digs i.natAbs) : Nat) : Int) = i
    rw [digs_val]
    omega
  · rw [valL_dig (digs_all _), digs_val]
    omega
def decL (l : List Nat) : Bool := !l.isEmpty && l.all digC
theorem decL_of {l : List Nat} (h : decL l = true) : AllDigits l ∧ l ≠ [] := by
  unfold decL at h
  rw [Bool.and_eq_true] at h
  refine ⟨fun c hc => ?_, fun e => ?_⟩
  · have z := List.all_eq_true.mp h.2 c hc
    unfold digC at z
    rw [Bool.and_eq_true] at z
    exact ⟨of_decide_eq_true z.1, of_decide_eq_true z.2⟩
  · rw [e] at h
    cases h.1
theorem decL_digs (n : Nat) : decL (digs n) = true := by
  unfold decL
  rw [Bool.and_eq_true]
  refine ⟨?_, List.all_eq_true.mpr fun c hc => ?_⟩
  · have := digs_ne n
    cases h : digs n with
    | nil => exact absurd h this
    | cons _ _ => rfl
  · have z := digs_all n c hc
    unfold digC
    rw [decide_eq_true z.1, decide_eq_true z.2]
    rfl
theorem decW_decL (w : Str) : decW w = decL (TL.tl w) := by
  unfold decW decL
  have : decide (0 < w.length) = !(TL.tl w).isEmpty := by
    rw [← tl_len]
    cases TL.tl w <;> rfl
  rw [this]
/-- what the program reads -/
def botL : Option (List Nat) → List Nat
  | none => [49]
  | some r => r
def readL (l : List Nat) : Option (Int × Int) :=
  if (decL (stripL (cutL l).1) && decL (botL (cutL l).2) && !decide (digitsVal (botL (cutL l).2) = 0)) = true then
    if fracL (low (valL (cutL l).1) (digitsVal (botL (cutL l).2) : Nat)).1 (low (valL (cutL l).1) (digitsVal (botL (cutL l).2) : Nat)).2 = l then some (low (valL (cutL l).1) (digitsVal (botL (cutL l).2) : Nat)) else none
  else none
theorem digs_one : digs 1 = [49] := digs_small (by decide)
theorem val_one : digitsVal [49] = 1 := rfl
theorem read_frac {t b : Int} (h : IsFr t b) : readL (fracL t b) = some (t, b) := by
  have hb := h.pos
  have e1 : botL (if b = 1 then none else some (numL b)) = digs b.natAbs := by
    split
    · rename_i e
      rw [e]
      exact digs_one.symm
    · exact numL_pos (by omega)
  unfold readL
  rw [fracL_cut]
  show (if (decL (stripL (numL t)) && decL (botL (if b = 1 then none else some (numL b))) && !decide (digitsVal (botL (if b = 1 then none else some (numL b))) = 0)) = true then _ else none) = _
  rw [e1, strip_num, decL_digs, decL_digs, digs_val, val_num, decide_eq_false (by omega)]
  simp only [Bool.and_self, Bool.not_false, if_true]
  have e2 : ((b.natAbs : Nat) : Int) = b := by omega
  rw [e2, low_id hb h.low_, if_pos rfl]
theorem read_some {l : List Nat} {t b : Int} (h : readL l = some (t, b)) : IsFr t b ∧ l = fracL t b := by
  unfold readL at h
  split at h
  · rename_i c
    rw [Bool.and_eq_true] at c
    have c0 : digitsVal (botL (cutL l).2) ≠ 0 := fun z => by
      rw [decide_eq_true z] at c
      cases c.2
    split at h
    · rename_i e
      have h1 := Option.some.inj h
      have g := gz_low (t := valL (cutL l).1) (b := (digitsVal (botL (cutL l).2) : Nat)) (by omega)
      rw [h1] at g e
      exact ⟨⟨g.2, g.1⟩, e.symm⟩
    · cases h
  · cases h
theorem read_iff {l : List Nat} {t b : Int} : readL l = some (t, b) ↔ IsFr t b ∧ l = fracL t b := ⟨read_some, fun ⟨h, e⟩ => by rw [e]; exact read_frac h⟩
/-! ### how the law judges -/
def canonL (l : List Nat) : Bool := decL l && decide (l.head? ≠ some 48)
theorem canonW_canonL (w : Str) : canonW w = canonL (TL.tl w) := by
  unfold canonW canonL
  rw [decW_decL]
theorem canonL_digs {n : Nat} (h : 0 < n) : canonL (digs n) = true := by
  unfold canonL
  rw [decL_digs, decide_eq_true (digs_head n h)]
  rfl
theorem canonL_of {l : List Nat} (h : canonL l = true) : 0 < digitsVal l ∧ digs (digitsVal l) = l := by
  unfold canonL at h
  rw [Bool.and_eq_true] at h
  have d := decL_of h.1
  exact digs_of l _ rfl d.1 d.2 (of_decide_eq_true h.2)
/-- the top's part -/
def topL (p : List Nat) : Bool := !(decide (p.head? = some 45) && decide (stripL p = [48])) && (canonL (stripL p) || decide (stripL p = [48]))
theorem topL_num (t : Int) : topL (numL t) = true := by
  unfold topL
  rw [strip_num]
  by_cases h : t = 0
  · subst h
    rfl
  · have hn : 0 < t.natAbs := by omega
    have ne : digs t.natAbs ≠ [48] := fun e => by
      have := digs_val t.natAbs
      rw [e] at this
      have : digitsVal [48] = 0 := rfl
      omega
    rw [canonL_digs hn, decide_eq_false ne, Bool.and_false]
    rfl
theorem topL_of {p : List Nat} (h : topL p = true) : p = numL (valL p) ∧ ((digitsVal (stripL p) : Nat) : Int) = ((valL p).natAbs : Nat) := by
  unfold topL at h
  rw [Bool.and_eq_true] at h
  cases p with
  | nil => cases h.2
  | cons c r =>
    by_cases hc : c = 45
    · subst hc
      have e1 : stripL (45 :: r) = r := rfl
      have e2 : valL (45 :: r) = -((digitsVal r : Nat) : Int) := rfl
      rw [e1] at h
      have n48 : ¬ r = [48] := fun z => by
        have := h.1
        rw [decide_eq_true z] at this
        cases this
      rw [decide_eq_false n48, Bool.or_false] at h
      have g := canonL_of h.2
      rw [e1, e2]
      refine ⟨?_, by omega⟩
      unfold numL
      rw [if_pos (by omega)]
      have e3 : (-((digitsVal r : Nat) : Int)).natAbs = digitsVal r := by omega
      rw [e3, g.2]
    · have e1 : stripL (c :: r) = c :: r := by
        unfold stripL
        split
        · rename_i z
          injection z with z
          exact absurd z hc
        · rfl
      have e2 : valL (c :: r) = ((digitsVal (c :: r) : Nat) : Int) := by
        unfold valL
        split
        · rename_i z
          injection z with z
          exact absurd z hc
        · rfl
      rw [e1] at h
      rw [e1, e2]
      refine ⟨?_, by omega⟩
      rw [numL_pos (by omega)]
      have e3 : ((digitsVal (c :: r) : Nat) : Int).natAbs = digitsVal (c :: r) := by omega
      rw [e3]
      rcases Bool.or_eq_true _ _ ▸ h.2 with z | z
      · exact (canonL_of z).2.symm
      · rw [of_decide_eq_true z]
        exact (digs_small (n := 0) (by decide)).symm
def lawL (l : List Nat) : Bool := match cutL l with
  | (p, none) => topL p
  | (p, some r) => topL p && (!decide (47 ∈ r)) && (canonL r && !decide (r = [49]) && decide (Nat.gcd (digitsVal (stripL p)) (digitsVal r) = 1))
theorem lawL_iff {l : List Nat} : lawL l = true ↔ ∃ t b, IsFr t b ∧ l = fracL t b := by
  constructor
  · intro h
    rcases cutL_cases l with ⟨_, e⟩ | ⟨p, r, el, hp, e⟩
    · unfold lawL at h
      rw [e] at h
      have g := topL_of h
      refine ⟨valL l, 1, ⟨by decide, gz_one⟩, ?_⟩
      unfold fracL
      rw [if_pos rfl, List.append_nil]
      exact g.1
    · unfold lawL at h
      rw [e] at h
      have h : (topL p && (!decide (47 ∈ r)) && (canonL r && !decide (r = [49]) && decide (Nat.gcd (digitsVal (stripL p)) (digitsVal r) = 1))) = true := h
      simp only [Bool.and_eq_true] at h
      obtain ⟨⟨h1, h2⟩, ⟨h3, h4⟩, h5⟩ := h
      have g := topL_of h1
      have k := canonL_of h3
      have b1 : digitsVal r ≠ 1 := fun z => by
        rw [z, digs_one] at k
        rw [decide_eq_true k.2.symm] at h4
        cases h4
      refine ⟨valL p, (digitsVal r : Nat), ⟨by omega, ?_⟩, ?_⟩
      · unfold gz
        have e1 := g.2
        have e2 : digitsVal (stripL p) = (valL p).natAbs := by omega
        rw [e2] at h5
        have e3 : ((digitsVal r : Nat) : Int).natAbs = digitsVal r := by omega
        rw [e3, of_decide_eq_true h5]
        rfl
      · unfold fracL
        rw [if_neg (by omega), ← g.1, numL_pos (by omega)]
        have e3 : ((digitsVal r : Nat) : Int).natAbs = digitsVal r := by omega
        rw [e3, k.2]
        exact el
  · rintro ⟨t, b, h, rfl⟩
    have hb := h.pos
    unfold lawL
    rw [fracL_cut]
    by_cases e : b = 1
    · rw [if_pos e]
      exact topL_num t
    · rw [if_neg e]
      show (topL (numL t) && (!decide (47 ∈ numL b)) && (canonL (numL b) && !decide (numL b = [49]) && decide (Nat.gcd (digitsVal (stripL (numL t))) (digitsVal (numL b)) = 1))) = true
      have e1 : numL b = digs b.natAbs := numL_pos (by omega)
      have e2 : ¬ numL b = [49] := fun z => by
        rw [e1] at z
        have := digs_val b.natAbs
        rw [z, val_one] at this
        omega
      rw [topL_num, decide_eq_false numL_no, decide_eq_false e2, e1, canonL_digs (by omega), strip_num, digs_val, digs_val]
      have g := h.low_
      unfold gz at g
      rw [decide_eq_true (by omega)]
      rfl
theorem law_read (l : List Nat) : lawL l = (readL l).isSome := by
  cases h : readL l with
  | none =>
    cases k : lawL l with
    | false => rfl
    | true =>
      obtain ⟨t, b, g, e⟩ := lawL_iff.mp k
      rw [e, read_frac g] at h
      cases h
  | some v =>
    obtain ⟨t, b⟩ := v
    exact lawL_iff.mpr ⟨t, b, read_some h⟩
end Paw

set_option maxRecDepth 100000
set_option maxHeartbeats 4000000
namespace Paw
open PySem PySem.Spec PyProof.Rows L2
/-! ### a def of the module, told by its name -/
abbrev NoX : XK := fun _ _ _ => False
structure Df (P : Program) (w : World) (K : PySem.W.Frag) (mg : Str → Option Value) (base : Heap) (CX : CXT) (k : Nat) (x : Str) (sp : Sp) : Prop where
  ex : ∃ f : Addr, FnR P w K mg base CX k f sp ∧ mg x = some (.ref f) ∧ PySem.W.keepIn K (.ref f) = true
/-- one that looks at repr -/
structure DfG (P : Program) (w : World) (K : PySem.W.Frag) (mg : Str → Option Value) (base : Heap) (CX : CXT) (k : Nat) (x : Str) (ps : List Str) (sp : Sp) : Prop where
  ex : ∃ (f : Addr) (fd : FuncData), FnG P w K mg base CX k f fd ps sp ∧ mg x = some (.ref f) ∧ PySem.W.keepIn K (.ref f) = true ∧ Binds K fd ps []
section
variable {P : Program} {w : World} {K : PySem.W.Frag} {mg : Str → Option Value} {base : Heap} {CX : CXT} {k j : Nat} {x : Str} {sp sp' : Sp} {f : Addr} {fd : FuncData} {ps : List Str}
theorem Df.up (D : Df P w K mg base CX j x sp) (h : j ≤ k) : Df P w K mg base CX k x sp :=
  let ⟨f, F, m, p⟩ := D.ex
  ⟨f, fun A outer s H us vs Q E hr e0 r q => F A outer s H us vs Q E (hr.mono h) e0 r q, m, p⟩
theorem Df.imp (D : Df P w K mg base CX k x sp) (h : ∀ vs H Q E, sp' vs H Q E → sp vs H Q E) : Df P w K mg base CX k x sp' :=
  let ⟨f, F, m, p⟩ := D.ex
  ⟨f, fun A outer s H us vs Q E hr e0 r q => F A outer s H us vs Q E hr e0 r (h vs H Q E q), m, p⟩
theorem Df.of (F : FnOk P w K mg base CX k f fd ps sp) (m : mg x = some (.ref f)) (p : PySem.W.keepIn K (.ref f) = true) (b : Binds K fd ps []) : Df P w K mg base CX k x sp :=
  ⟨f, (fnR_of F b .nil).imp fun vs H Q E h => by rw [List.append_nil]; exact h, m, p⟩
theorem Df.ofR (F : FnR P w K mg base CX k f sp) (m : mg x = some (.ref f)) (p : PySem.W.keepIn K (.ref f) = true) : Df P w K mg base CX k x sp := ⟨f, F, m, p⟩
theorem DfG.of (F : FnG P w K mg base CX k f fd ps sp) (m : mg x = some (.ref f)) (p : PySem.W.keepIn K (.ref f) = true) (b : Binds K fd ps []) : DfG P w K mg base CX k x ps sp := ⟨f, fd, F, m, p, b⟩
end
theorem calm0' {X : Cx} (σ : L2.St) : PassesAt CX0 X σ NoX := fun _ _ _ _ _ _ c => c.elim
section
variable {X : Cx} {CX : CXT} {k j : Nat} {x : Str} {ps : List Str} {sp : Sp} {E : L2.St → XK} {p pos : Pos} {e : Expr} {es : List Expr} {t : TA}
/-- f(e, ..): nothing is raised -/
theorem pe_d (D : Df X.prog X.w X.K X.mg X.base CX0 k x sp) (hr : Room j X.A) (hg : Gl X x) (ha : PA X (e :: es) t)
    (hk : k ≤ j := by decide) (hdb : (x == ("__debug__" : Str)) = false := by decide) (he : starEach (e :: es) X.env = (false, eval e X.env) :: starEach es X.env := by rfl) (hpl : (backTo pos (starEach es X.env)).any (·.1) = false := by rfl) :
    PE X (.Call (.Name x p) (e :: es) [] pos) (tCallG sp (fun _ => NoX) t) := by
  obtain ⟨f, F, m, kp⟩ := D.ex
  exact pe_callRS F (hr.mono hk) hg m kp (fun σ => calm0' σ) ha hdb he hpl
/-- f(e, ..): what is raised goes to E -/
theorem pe_dx (D : Df X.prog X.w X.K X.mg X.base CX k x sp) (hr : Room j X.A) (hg : Gl X x) (hx : ∀ σ, PassesAt CX X σ (E σ)) (ha : PA X (e :: es) t)
    (hk : k ≤ j := by decide) (hdb : (x == ("__debug__" : Str)) = false := by decide) (he : starEach (e :: es) X.env = (false, eval e X.env) :: starEach es X.env := by rfl) (hpl : (backTo pos (starEach es X.env)).any (·.1) = false := by rfl) :
    PE X (.Call (.Name x p) (e :: es) [] pos) (tCallG sp E t) := by
  obtain ⟨f, F, m, kp⟩ := D.ex
  exact pe_callRS F (hr.mono hk) hg m kp hx ha hdb he hpl
theorem pe_d0 (D : Df X.prog X.w X.K X.mg X.base CX0 k x sp) (hr : Room j X.A) (hg : Gl X x) (hk : k ≤ j := by decide) (hdb : (x == ("__debug__" : Str)) = false := by decide) :
    PE X (.Call (.Name x p) [] [] pos) (tCallG sp (fun _ => NoX) tNil) := by
  obtain ⟨f, F, m, kp⟩ := D.ex
  constructor
  intro pins s σ H Q I h
  apply wpAny_Call_Name_kw
  apply ld_glob I hg m _ hdb
  have h' : sp [] H Q NoX := h
  exact PySem.W.callWith_K0 I.kIn kp (run_fnRS (us := []) (E := fun _ => NoX) F (hr.mono hk) (calm0' σ) I .nil h')
theorem pe_dG (D : DfG X.prog X.w X.K X.mg X.base CX0 k x ps sp) (g : Gd X) (hr : Room j X.A) (hg : Gl X x) (ha : PA X (e :: es) t)
    (hk : k ≤ j := by decide) (hdb : (x == ("__debug__" : Str)) = false := by decide) (he : starEach (e :: es) X.env = (false, eval e X.env) :: starEach es X.env := by rfl) (hpl : (backTo pos (starEach es X.env)).any (·.1) = false := by rfl) :
    PE X (.Call (.Name x p) (e :: es) [] pos) (tCall sp [] NoX t) := by
  obtain ⟨f, fd, F, m, kp, b⟩ := D.ex
  exact pe_callG F g (hr.mono hk) hg m kp b .nil pass0 ha hdb he hpl
end
end Paw

set_option maxRecDepth 100000
set_option maxHeartbeats 4000000
namespace Paw
open PySem PySem.Spec PyProof.Rows L2 PySem.NumText
open PySem.Builtin.Str (strSub)
theorem mi_tl : TL.tl ("-" : Str) = [45] := by decide +kernel
theorem strip_pre {l : List Nat} : stripL l = if l.take 1 == [45] then l.drop 1 else l := by
  cases l with
  | nil => rfl
  | cons c r =>
    by_cases h : c = 45
    · subst h
      rfl
    · have e : ((c :: r).take 1 == [45]) = false := by
        show ([c] == [45]) = false
        simp [h]
      rw [e]
      unfold stripL
      split
      · rename_i z
        injection z with z
        exact absurd z h
      · rfl
theorem rmpre_is (z : Str) : Txt.removeprefix z "-" = ofL (stripL (TL.tl z)) := by
  unfold Txt.removeprefix Txt.affix
  have e1 : (("-" : Str)).length = 1 := rfl
  have e2 : Builtin.Str.subAt z "-" 0 = ((TL.tl z).take 1 == [45]) := by
    rw [StrLaws.subAt_eq, e1]
    show (((TL.tl z).drop 0).take 1 == (("-" : Str)).cps.toList) = _
    rw [List.drop_zero]
    have e3 : (("-" : Str)).cps.toList = [45] := mi_tl
    rw [e3]
  rw [e2, strip_pre]
  cases h : ((TL.tl z).take 1 == [45]) with
  | false =>
    simp only [Bool.false_eq_true, if_false]
    exact (ofL_eq z).symm
  | true =>
    simp only [if_true]
    have hl := tl_len z
    have l1 : 1 ≤ (TL.tl z).length := by
      cases ht : TL.tl z with
      | nil =>
        rw [ht] at h
        cases h
      | cons _ _ => simp
    have ne : (z.length - (("-" : Str)).length == z.length) = false := by
      rw [e1]
      simp
      omega
    rw [ne]
    simp only [Bool.false_eq_true, if_false]
    refine tl_ext ?_
    show (strSub z 1 z.length).cps.toList = _
    rw [StrLaws.strSub_toList]
    exact List.take_of_length_le (by rw [List.length_drop]; exact Nat.le_of_eq (by rw [← hl]))
theorem mem_strip {l : List Nat} {c : Nat} (h : c ∈ stripL l) : c ∈ l := by
  rw [strip_pre] at h
  split at h
  · exact List.mem_of_mem_drop h
  · exact h
theorem strip_len (l : List Nat) : (stripL l).length ≤ l.length := by
  rw [strip_pre]
  split
  · rw [List.length_drop]
    omega
  · exact Nat.le_refl _
theorem ascii_ofL {l : List Nat} (h : ∀ c ∈ l, c < 128) : asciiW (ofL l) := h
theorem dec_ofL (l : List Nat) : decW (ofL l) = decL l := by
  rw [decW_decL, ofL_tl]
theorem isdec_ofL {l : List Nat} (h : ∀ c ∈ l, c < 128) : Txt.isdecimal (ofL l) = decL l := by
  rw [isdec (ascii_ofL h), dec_ofL]
theorem ofL_len (l : List Nat) : (ofL l).length = l.length := by
  rw [← tl_len, ofL_tl]
/-- int(top) -/
theorem int_top {l : List Nat} (h : decL (stripL l) = true) (hl : l.length ≤ 4300) : PySem.intText? (ofL l) = some (valL l) := by
  have d := decL_of h
  have hz : (ofL l).length ≤ 4300 := by
    rw [ofL_len]
    exact hl
  cases l with
  | nil => exact absurd rfl d.2
  | cons c r =>
    by_cases hc : c = 45
    · subst hc
      exact intText_neg (cs := r) rfl d.1 d.2 hz
    · have e1 : stripL (c :: r) = c :: r := by
        unfold stripL
        split
        · rename_i z
          injection z with z
          exact absurd z hc
        · rfl
      rw [e1] at d
      rw [valL_dig d.1]
      exact intText_digits (x := ofL (c :: r)) d.1 d.2 hz
theorem val_lt : ∀ (l : List Nat), AllDigits l → digitsVal l < 10 ^ l.length := by
  have key : ∀ (n : Nat) (l : List Nat), l.length = n → AllDigits l → digitsVal l < 10 ^ l.length := by
    intro n
    induction n with
    | zero =>
      intro l hl _
      rw [List.length_eq_zero_iff.mp hl]
      decide
    | succ n ih =>
      intro l hl h
      have hne : l ≠ [] := fun e => by rw [e] at hl; cases hl
      obtain ⟨r, c, rfl⟩ : ∃ r c, l = r ++ [c] := ⟨l.dropLast, l.getLast hne, (List.dropLast_concat_getLast hne).symm⟩
      have rl : r.length = n := by
        rw [List.length_append] at hl
        simp at hl
        exact hl
      have g := ih r rl fun d hd => h d (List.mem_append_left _ hd)
      have hc := h c (List.mem_append_right _ (List.mem_singleton.mpr rfl))
      rw [val_snoc, List.length_append, List.length_singleton, Nat.pow_succ]
      omega
  exact fun l h => key l.length l rfl h
theorem valL_lt {l : List Nat} (h : decL (stripL l) = true) : (valL l).natAbs < 10 ^ l.length := by
  have d := decL_of h
  cases l with
  | nil => exact absurd rfl d.2
  | cons c r =>
    by_cases hc : c = 45
    · subst hc
      have e : valL (45 :: r) = -((digitsVal r : Nat) : Int) := rfl
      have g := val_lt r d.1
      have g2 : 10 ^ r.length ≤ 10 ^ (45 :: r).length := Nat.pow_le_pow_right (by decide) (by simp)
      rw [e]
      omega
    · have e1 : stripL (c :: r) = c :: r := by
        unfold stripL
        split
        · rename_i z
          injection z with z
          exact absurd z hc
        · rfl
      rw [e1] at d
      rw [valL_dig d.1]
      have := val_lt _ d.1
      omega
theorem pow500 : 10 ^ 500 < 2 ^ 1900 ∧ 10 ^ 3000 < 2 ^ 10000 := by decide +kernel
theorem lt500 {a n : Nat} (h : a < 10 ^ n) (hn : n ≤ 500) : a < 2 ^ 1900 := Nat.lt_trans (Nat.lt_of_lt_of_le h (Nat.pow_le_pow_right (by decide) hn)) pow500.1
theorem lt3000 {a n : Nat} (h : a < 10 ^ n) (hn : n ≤ 3000) : a < 2 ^ 10000 := Nat.lt_trans (Nat.lt_of_lt_of_le h (Nat.pow_le_pow_right (by decide) hn)) pow500.2
theorem lg {i : Int} {n : Nat} (h : i.natAbs < 2 ^ n) (h0 : 0 < n) : i.natAbs.log2 < n := PySem.Flt.log2_lt_of h0 h
theorem Same.at {H H' : Hp} {a : Addr} {o : HO} (s : Same H H') (h : H a = some o) : H' a = some o := s a o h
theorem RD.tupH {K : PySem.W.Frag} {H : Hp} {a : Addr} {xs : List V} {ds : List PyData} (h : H a = some (.tup xs)) (hs : RDs K H xs ds) : RD K H (.ref a) (.tuple ds) := .tup (SqT.of h) hs
theorem RD.lstH {K : PySem.W.Frag} {H : Hp} {a : Addr} {xs : List V} {ds : List PyData} (h : H a = some (.lst xs)) (hs : RDs K H xs ds) : RD K H (.ref a) (.list ds) := .lst (SqL.of h) hs
/-- what the program can read -/
structure TxtOk (z : Str) : Prop where
  asc : asciiW z
  len : z.length ≤ 500 ∨ (z.length ≤ 3000 ∧ 47 ∉ TL.tl z)
def isStr : PyData → Bool
  | .str _ => true
  | _ => false
def readD0 : PyData → Option (Int × Int)
  | .str z => readL (TL.tl z)
  | _ => none
end Paw

set_option maxRecDepth 100000
set_option maxHeartbeats 4000000
namespace Paw
open PySem PySem.Spec PyProof.Rows L2 PySem.NumText
def repL (n c : Nat) : Str := ⟨(List.replicate n c).toArray⟩
theorem fold_rep (c : Nat) : ∀ (n : Nat) (acc : Array Nat), ((List.replicate n (#[c] : Array Nat)).foldl (· ++ ·) acc).toList = acc.toList ++ List.replicate n c
  | 0, acc => by simp
  | n + 1, acc => by
    rw [List.replicate_succ, List.foldl_cons, fold_rep c n, List.replicate_succ, Array.toList_append]
    simp
/-- one sign, n times -/
theorem op_mulS {X : Cx} : OpR X (binaryOp .Mult) (fun x y H Q => ∃ (c n : Nat), x = .str ⟨#[c]⟩ ∧ y = .int (n : Int) ∧ 2 ≤ n ∧ n ≤ 100000 ∧ Q (.str (repL n c)) H) := by
  intro pins s σ H x y v u Q I rx ry h
  obtain ⟨c, n, rfl, rfl, n2, n3, q⟩ := h
  obtain ⟨t, rfl⟩ := rx
  obtain ⟨t2, rfl⟩ := ry
  have e1 : (⟨#[c]⟩ : Str).length = 1 := rfl
  have e2 : (((n : Int) == 1) || ((⟨#[c]⟩ : Str).length == 0)) = false := by
    rw [e1]
    simp
    omega
  have e3 : (⟨(List.replicate ((n : Int)).toNat (#[c] : Array Nat)).foldl (· ++ ·) #[]⟩ : Str) = repL n c := tl_ext (by
    show ((List.replicate ((n : Int)).toNat (#[c] : Array Nat)).foldl (· ++ ·) #[]).toList = (List.replicate n c).toArray.toList
    rw [fold_rep, Int.toNat_natCast]
    simp)
  refine P.mul_str (by rw [decide_eq_false (by omega), decide_eq_false (by omega)]; rfl) (fun _ _ => ?_) (fun _ _ => ?_) ?_
  · rw [e1]
    have : (1 : Int) ≤ (2 ^ 63 - 1) / (n : Int) := by
      rw [Int.le_ediv_iff_mul_le (by omega)]
      omega
    show ¬ ((1 : Nat) : Int) > _
    omega
  · rw [e1, Int.toNat_natCast, Nat.one_mul]
    unfold Builtin.Str.tooLong
    rw [sizeLine_eq]
    simp
    omega
  · rw [if_neg (by omega), if_neg (by rw [e2]; exact Bool.false_ne_true), e3]
    refine ⟨?_, .str _, H, I.tok _, ⟨_, rfl⟩, q⟩
    show (List.replicate n c).toArray.size ≤ sizeLine
    rw [sizeLine_eq]
    simp
    omega
end Paw

set_option maxRecDepth 100000
set_option maxHeartbeats 2000000
namespace Paw
open PySem PySem.Spec PyProof.Rows L2
def top (i : Nat) : Stmt := PySem.Challenge.pw_pawlhall_k90_fractions_as_texts.main.body.getD i (.Pass ⟨0, 0, 0, 0⟩)
abbrev sMixed : Stmt := top 18
abbrev sPile : Stmt := top 19
abbrev sTake : Stmt := top 20
abbrev sAlike : Stmt := top 24
abbrev sIsInt : Stmt := top 6
abbrev sLaw : Stmt := top 33
abbrev sLGreatR : Stmt := top 31
abbrev sWordIn : Stmt := top 25
abbrev sE_HallError : Stmt := top 2
abbrev sE_NoFraction : Stmt := inClass (top 3) 0
abbrev sE_NoText : Stmt := inClass (top 4) 0
abbrev sIsFrac : Stmt := top 7
abbrev sFraction : Stmt := top 9
abbrev sProduct : Stmt := top 10
abbrev sCheck : Stmt := top 11
abbrev sLowest : Stmt := top 12
abbrev sDivisor : Stmt := top 21
abbrev sLLow : Stmt := top 22
abbrev sLFra : Stmt := top 23
abbrev sFText : Stmt := top 14
abbrev sRFrac : Stmt := top 15
abbrev sFON : Stmt := top 16
abbrev sFWritten : Stmt := top 26
abbrev sIsFT : Stmt := top 27
abbrev sFrIn : Stmt := top 28
abbrev sSaid : Stmt := top 29
abbrev sOddR : Stmt := top 30
abbrev sGreatFR : Stmt := top 31
abbrev sLongest : Stmt := top 32
end Paw

set_option maxRecDepth 100000
set_option maxHeartbeats 2000000
namespace Paw
open PySem PySem.Spec PyProof.Rows L2

/-! ### the draws -/
def BIG : Int := 10 ^ 50 * 10 ^ 50 * 10 ^ 50
theorem big_pos : 0 < BIG := by decide +kernel
theorem big_log : BIG.natAbs < 2 ^ 500 := by decide +kernel
/-- what stands in a pile: digits, the cell's rest, a count, a flag -/
def Pile (b : Bool) (L : List V) : Prop := ∃ d m c : Int, L = [.int d, .int m, .int c, .bl b] ∧ 0 ≤ d ∧ d < BIG ∧ 0 ≤ m ∧ m < 2147483647
def spMixed : Sp := fun vs H Q _ => ∃ c k : Int, vs = [.int c, .int k] ∧ ∀ r : Int, 0 ≤ r → Q (.int r) H
def spPile (K : PySem.W.Frag) : Sp := fun vs H Q _ => ∃ (a : Addr) (ns : List Int) (k : Nat), vs = [.ref a, .int (k : Int)] ∧ SqL K H a (ns.map V.int) ∧
  ∀ (H' : Hp) (p : Addr) (L : List V), Same H H' → H p = none → H' p = some (.lst L) → Pile (decide ((k : Int) < 2)) L → Q (.ref p) H'
/-- all that was tracked but p is as it was -/
def But (p : Addr) (H H' : Hp) : Prop := ∀ b o, b ≠ p → H b = some o → H' b = some o
def spTake : Sp := fun vs H Q _ => ∃ (p : Addr) (n : Int) (b : Bool) (L : List V), vs = [.ref p, .int n] ∧ 0 < n ∧ n.natAbs < 2 ^ 2000 ∧ H p = some (.lst L) ∧ Pile b L ∧
  ∀ (r : Int) (L' : List V) (H' : Hp), 0 ≤ r → r < n → Pile b L' → But p H H' → H' p = some (.lst L') → Q (.int r) H'
section
variable {P : Program} {w : World} {K : PySem.W.Frag} {mg : Str → Option Value} {base : Heap}
theorem scMixed : FnScope ["cell", "k", "figure"] ["cell", "k"] (defScope sMixed) := ⟨rfl, rfl, rfl, by decide +kernel, rfl, by decide +kernel, by decide +kernel⟩
theorem ok_mixed {f : Addr} {fd : FuncData} (F : Fun K "_law_mixed" "_law_mixed" sMixed f fd) (zi : mg "int" = none) : FnOk P w K mg base CX0 1 f fd ["cell", "k"] spMixed := by
  refine F.ok scMixed (fun vs H Q E h => ?_) (fun cdv A outer s H vs Q E hr h => ?_)
  · obtain ⟨c, k, rfl, _⟩ := h
    rfl
  · obtain ⟨c, k, rfl, q⟩ := h
    refine ⟨_, pss_cons (ps_set (i := 2) scMixed.nd rfl (Or.inl rfl) (pe_op op_mod (pe_callTy call_int1 (by rfl) zi bt_int (pa_cons
        (pe_op op_add (pe_op op_add (pe_op op_mul (pe_op op_mod (pe_callTy call_int1 (by rfl) zi bt_int (pa_cons (pv 0) pa_nil)) pe_int) pe_int) (pe_op op_mul (pv 1) pe_int)) pe_int) pa_nil)) pe_int))
      (pss_cons (ps_set (i := 2) scMixed.nd rfl (Or.inl rfl) (pe_op op_mod (pe_callTy call_int1 (by rfl) zi bt_int (pa_cons (pe_op op_mul (pv 2) (pv 2)) pa_nil)) pe_int))
      (pss_one (ps_ret (pe_op op_fdiv (pe_op op_mod (pe_callTy call_int1 (by rfl) zi bt_int (pa_cons (pe_op op_mul (pv 2) (pv 2)) pa_nil)) pe_int) pe_int)))), ?_⟩
    refine ⟨_, rfl, .inl ⟨_, rfl, _, _, rfl, rfl, (by show (0 : Int) < 2147483647; decide), _, _, rfl, rfl, .inr ⟨by decide, by decide⟩, _, rfl, _, _, rfl, rfl, .inr ⟨by decide, by decide⟩, _, _, rfl, rfl, _, _, rfl, rfl, .inl ⟨_, rfl, _, _, rfl, rfl, (by show (0 : Int) < 2147483647; decide), ?_⟩⟩⟩
    have e1 := Int.emod_nonneg (c % 2147483647 * 48271 + k * 69621 + 11) (by decide : (2147483647 : Int) ≠ 0)
    have e2 := Int.emod_lt_of_pos (c % 2147483647 * 48271 + k * 69621 + 11) (by decide : (0 : Int) < 2147483647)
    refine ⟨_, rfl, _, rfl, _, _, rfl, rfl, .inl ⟨by omega, by omega⟩, .inl ⟨_, rfl, _, _, rfl, rfl, (by show (0 : Int) < 2147483629; decide), ?_⟩⟩
    generalize (c % 2147483647 * 48271 + k * 69621 + 11) % 2147483647 = y at e1 e2 ⊢
    have e3 := Int.emod_nonneg (y * y) (by decide : (2147483629 : Int) ≠ 0)
    have e4 := Int.emod_lt_of_pos (y * y) (by decide : (0 : Int) < 2147483629)
    refine ⟨_, rfl, _, rfl, _, _, rfl, rfl, .inl ⟨by omega, by omega⟩, .inl ⟨_, rfl, _, _, rfl, rfl, (by show (0 : Int) < 2147483587; decide), _, _, rfl, rfl, ⟨by decide, by decide⟩, q _ ?_⟩⟩
    have e5 := Int.emod_nonneg (y * y % 2147483629 * (y * y % 2147483629)) (by decide : (2147483587 : Int) ≠ 0)
    omega
theorem scPile : FnScope ["script", "k", "cell", "digits"] ["script", "k"] (defScope sPile) := ⟨rfl, rfl, rfl, by decide +kernel, rfl, by decide +kernel, by decide +kernel⟩
theorem pow_big : (10 : Int) ^ (50 : Int).toNat * 10 ^ (50 : Int).toNat * 10 ^ (50 : Int).toNat = BIG := by decide +kernel
theorem pow_one : ((10 : Int) ^ (50 : Int).toNat).natAbs < 2 ^ 200 ∧ ((10 : Int) ^ (50 : Int).toNat * 10 ^ (50 : Int).toNat).natAbs < 2 ^ 400 := by decide +kernel
theorem big_mod (c : Int) : 0 ≤ c.fmod BIG ∧ c.fmod BIG < BIG := by
  have h := big_pos
  rw [Int.fmod_eq_emod_of_nonneg c (by omega)]
  exact ⟨Int.emod_nonneg _ (by omega), Int.emod_lt_of_pos _ h⟩
/-- the two ends of digits' menu -/
theorem menu_at (b : Bool) (x : Int) : atI [V.int 0, V.int x] (if b then 1 else 0) = some (.int (if b then x else 0)) := by
  cases b
  · exact atI_nat (j := 0) rfl
  · exact atI_nat (j := 1) rfl
theorem pile_is {c k : Int} {b b2 : Bool} (e : b2 = decide (k < 2)) : Pile (decide (k < 2)) [.int (if b then c.fmod BIG else 0), .int (c % 2147483647), .int (97 * k), .bl b2] := by
  have h := big_mod c
  have h0 := big_pos
  refine ⟨_, _, _, by rw [e], ?_, ?_, Int.emod_nonneg _ (by decide), Int.emod_lt_of_pos _ (by decide)⟩
  · cases b
    · exact Int.le_refl 0
    · exact h.1
  · cases b
    · exact h0
    · exact h.2
theorem ok_pile {f : Addr} {fd : FuncData} (F : Fun K "_law_pile" "_law_pile" sPile f fd) (zi : mg "int" = none) (zl : mg "len" = none) (za : mg "abs" = none) : FnOk P w K mg base CX0 1 f fd ["script", "k"] (spPile K) := by
  refine F.ok scPile (fun vs H Q E h => ?_) (fun cdv A outer s H vs Q E hr h => ?_)
  · obtain ⟨a, ns, k, rfl, _⟩ := h
    rfl
  · obtain ⟨a, ns, k, rfl, hS, q⟩ := h
    refine ⟨_, pss_cons (ps_set (i := 2) scPile.nd rfl (Or.inl rfl) pe_int)
      (pss_cons (ps_if (pt_cmpR op_lt (pv 1) (pe_callB call_len_seq (by rfl) zl bt_len (pa_cons (pv 0) pa_nil)) (nomark _)) (pss_one (ps_set (i := 2) scPile.nd rfl (Or.inl rfl) (pe_ix ix_list (pv 0) (pv 1) (fun _ _ => rfl)))) pss_nil)
      (pss_cons (ps_set (i := 3) scPile.nd rfl (Or.inl rfl) (pe_ix ix_list (pe_lst (pa_cons pe_int (pa_cons (pe_op op_modN (pe_callTy call_int1 (by rfl) zi bt_int (pa_cons (pv 2) pa_nil)) (pe_op op_mulW (pe_op op_mulW (pe_op op_pow pe_int pe_int) (pe_op op_pow pe_int pe_int)) (pe_op op_pow pe_int pe_int))) pa_nil)))
          (pe_callTy call_int1 (by rfl) zi bt_int (pa_cons (pe_cmpR op_ge (pe_callB call_abs (by rfl) za bt_abs (pa_cons (pv 2) pa_nil)) (pe_op op_pow pe_int pe_int) (nomark _)) pa_nil)) (fun _ _ => rfl)))
      (pss_one (ps_ret (pe_lst (pa_cons (pv 3) (pa_cons (pe_op op_mod (pe_callTy call_int1 (by rfl) zi bt_int (pa_cons (pv 2) pa_nil)) pe_int) (pa_cons (pe_op op_mul pe_int (pv 1)) (pa_cons (pe_cmpR op_lt (pv 1) pe_int (nomark _)) pa_nil))))))))), ?_⟩
    refine ⟨_, rfl, _, rfl, a, _, rfl, .inl hS, _, _, rfl, rfl, _, rfl, ?_⟩
    have hk : decide ((k : Int) < ((ns.map V.int).length : Int)) = true → ∃ z : Int, (ns.map V.int)[k]? = some (.int z) := fun h => by
      have e := of_decide_eq_true h
      rw [List.length_map] at e
      have e2 : k < ns.length := by omega
      exact ⟨ns[k], by rw [List.getElem?_map, List.getElem?_eq_getElem e2]; rfl⟩
    refine ite2 (fun h => (hk h).elim fun z hz => ⟨_, rfl, _, rfl, a, _, _, .int z, rfl, rfl, hS, atI_nat hz, ?_⟩) (fun h => ?_)
    all_goals
      refine ⟨_, rfl, .inl ⟨_, rfl, _, _, rfl, rfl, ⟨by decide, by decide, by decide⟩, _, _, rfl, rfl, ⟨by decide, by decide, by decide⟩, _, _, rfl, rfl, wide_mul pow_one.1 pow_one.1 (by decide) (by decide) (by decide), _, _, rfl, rfl, ⟨by decide, by decide, by decide⟩, _, _, rfl, rfl, wide_mul pow_one.2 pow_one.1 (by decide) (by decide) (by decide), _, _, rfl, rfl, (by rw [pow_big]; have := big_pos; omega), (by show 2 ≤ sizeLine; decide), fun l hl => ?_⟩⟩
      rw [pow_big]
      refine ⟨_, rfl, _, rfl, _, _, rfl, rfl, ⟨by decide, by decide, by decide⟩, _, _, rfl, rfl, .inr ⟨_, rfl, l, _, _, _, rfl, rfl, SqL.of upd_same, menu_at _ _, ?_⟩⟩
      refine ⟨_, rfl, _, rfl, .inl ⟨_, rfl, _, _, rfl, rfl, (by show (0 : Int) < 2147483647; decide), _, rfl, _, _, rfl, rfl, .inl ⟨by decide, by decide⟩, _, rfl, _, _, rfl, rfl, (by show 4 ≤ sizeLine; decide), fun p hp => ?_⟩⟩
      have np : p ≠ l := fun z => by
        rw [z, upd_same] at hp
        cases hp
      rw [upd_ne np] at hp
      refine q _ p _ (fun b o e => ?_) hp upd_same (pile_is rfl)
      rw [upd_ne (ne_of_none e hp), upd_ne (ne_of_none e hl)]
      exact e
theorem scTake : FnScope ["pile", "many", "digit"] ["pile", "many"] (defScope sTake) := ⟨rfl, rfl, rfl, by decide +kernel, rfl, by decide +kernel, by decide +kernel⟩
theorem ok_take {f fM : Addr} {fd fdM : FuncData} (F : Fun K "_law_take" "_law_take" sTake f fd) (zi : mg "int" = none) (GM : FnOk P w K mg base CX0 1 fM fdM ["cell", "k"] spMixed) (gM : mg "_law_mixed" = some (.ref fM)) (kM : PySem.W.keepIn K (.ref fM) = true)
    (bM : Binds K fdM ["cell", "k"] []) : FnOk P w K mg base CX0 2 f fd ["pile", "many"] spTake := by
  refine F.ok scTake (fun vs H Q E h => ?_) (fun cdv A outer s H vs Q E hr h => ?_)
  · obtain ⟨p, n, b, L, rfl, _⟩ := h
    rfl
  · obtain ⟨p, n, b, L, rfl, n0, n1, hp, ⟨d, m, c, rfl, d0, d1, m0, m1⟩, q⟩ := h
    refine ⟨_, pss_cons (ps_if (pt_cmpR op_in_seq (pe_ix ix_list (pv 0) pe_int (fun _ _ => rfl)) (pe_lst (pa_cons pe_int (pa_cons (pe_un un_neg pe_int) pa_nil))) (by rfl))
        (pss_cons (ps_asg (pe_op op_add (pe_ix ix_list (pv 0) pe_int (fun _ _ => rfl)) pe_int) (pg_sub (pv 0) pe_int set_list))
        (pss_one (ps_ret (pe_op op_modN (pe_callTy call_int1 (by rfl) zi bt_int (pa_cons (pe_call GM hr rfl gM kM bM .nil pass0 (pa_cons (pe_ix ix_list (pv 0) pe_int (fun _ _ => rfl)) (pa_cons (pe_ix ix_list (pv 0) pe_int (fun _ _ => rfl)) pa_nil))) pa_nil)) (pv 1))))) pss_nil)
      (pss_cons (ps_set (i := 2) scTake.nd rfl (Or.inl rfl) (pe_op op_modN (pe_callTy call_int1 (by rfl) zi bt_int (pa_cons (pe_ix ix_list (pv 0) pe_int (fun _ _ => rfl)) pa_nil)) (pv 1)))
      (pss_cons (ps_asg (pe_op op_fdivW (pe_ix ix_list (pv 0) pe_int (fun _ _ => rfl)) (pv 1)) (pg_sub (pv 0) pe_int set_list))
      (pss_one (ps_ret (pv 2))))), ?_⟩
    refine ⟨_, rfl, p, _, _, _, rfl, rfl, SqL.of hp, atI_nat (j := 0) rfl, _, rfl, (by show 2 ≤ sizeLine; decide), fun l hl => ?_⟩
    have npl : p ≠ l := ne_of_none hp hl
    have keep : ∀ b o, b ≠ p → H b = some o → (upd H l (.lst [.int 0, .int (-1)])) b = some o := fun b o _ e => by
      rw [upd_ne (ne_of_none e hl)]
      exact e
    refine ⟨l, _, rfl, .inl (SqL.of upd_same), rfl, rfl, _, rfl, ?_⟩
    refine ite2 (fun h => ?_) (fun h => ?_)
    · refine ⟨_, rfl, p, _, _, _, rfl, rfl, SqL.of ((upd_ne npl).trans hp), atI_nat (j := 2) rfl, _, _, rfl, rfl, _, rfl, p, _, _, 2, rfl, rfl, (upd_ne npl).trans hp, rfl, ?_⟩
      refine ⟨_, rfl, p, _, _, _, rfl, rfl, SqL.of upd_same, atI_nat (j := 1) rfl, _, rfl, p, _, _, _, rfl, rfl, SqL.of upd_same, atI_nat (j := 2) rfl, _, _, rfl, fun r r0 => .inl ⟨_, rfl, _, rfl, _, _, rfl, rfl, (by omega), ?_⟩⟩
      refine q _ [.int d, .int m, .int (c + 1), .bl b] _ ?_ ?_ ⟨d, m, c + 1, rfl, d0, d1, m0, m1⟩ (fun b o nb e => ?_) upd_same
      · rw [Int.fmod_eq_emod_of_nonneg r (by omega)]
        exact Int.emod_nonneg _ (by omega)
      · rw [Int.fmod_eq_emod_of_nonneg r (by omega)]
        exact Int.emod_lt_of_pos _ n0
      · rw [upd_ne nb]
        exact keep b o nb e
    · refine ⟨_, rfl, p, _, _, _, rfl, rfl, SqL.of ((upd_ne npl).trans hp), atI_nat (j := 0) rfl, .inl ⟨_, rfl, _, rfl, _, _, rfl, rfl, (by omega), ?_⟩⟩
      refine ⟨_, rfl, p, _, _, _, rfl, rfl, SqL.of ((upd_ne npl).trans hp), atI_nat (j := 0) rfl, _, rfl, _, _, rfl, rfl, wide_div n0 n1 (by decide) (by decide), _, rfl, p, _, _, 0, rfl, rfl, (upd_ne npl).trans hp, rfl, _, rfl, ?_⟩
      have nn : (0 : Int) ≤ n := by omega
      refine q _ [.int (d / n), .int m, .int c, .bl b] _ ?_ ?_ ⟨d / n, m, c, rfl, Int.ediv_nonneg d0 nn, ?_, m0, m1⟩ (fun b o nb e => ?_) upd_same
      · rw [Int.fmod_eq_emod_of_nonneg d nn]
        exact Int.emod_nonneg _ (by omega)
      · rw [Int.fmod_eq_emod_of_nonneg d nn]
        exact Int.emod_lt_of_pos _ n0
      · exact Int.lt_of_le_of_lt (Int.ediv_le_self n d0) d1
      · rw [upd_ne nb]
        exact keep b o nb e
end
end Paw

set_option maxRecDepth 100000
set_option maxHeartbeats 2000000
namespace Paw
open PySem PySem.Spec PyProof.Rows L2

/-! ### heaps -/
theorem same_new {H : Hp} {p : Addr} {o : HO} (h : H p = none) : Same H (upd H p o) := fun b u e => (upd_ne (ne_of_none e h)).trans e
theorem fresh {H : Hp} {a b : Addr} {o : HO} (h : upd H a o b = none) : b ≠ a ∧ H b = none := by
  have n : b ≠ a := fun z => by
    rw [z, upd_same] at h
    cases h
  exact ⟨n, (upd_ne n).symm.trans h⟩
theorem But.refl {p : Addr} {H : Hp} : But p H H := fun _ _ _ e => e
theorem But.trans {p : Addr} {H1 H2 H3 : Hp} (a : But p H1 H2) (b : But p H2 H3) : But p H1 H3 := fun c o n e => b c o n (a c o n e)
theorem same_but {p : Addr} {H1 H2 : Hp} (a : Same H1 H2) : But p H1 H2 := fun c o _ e => a c o e

end Paw

set_option maxRecDepth 100000
set_option maxHeartbeats 4000000
namespace Paw
open PySem PySem.Spec PyProof.Rows L2
theorem sqt_mono {K : PySem.W.Frag} {H H' : Hp} {a : Addr} {xs : List V} (e : Same H H') (h : SqT K H a xs) : SqT K H' a xs := by
  rcases h with (h | ⟨o, h⟩) | h
  · exact Or.inl (Or.inl (e _ _ h))
  · exact Or.inl (Or.inr ⟨o, e _ _ h⟩)
  · exact Or.inr h
mutual
theorem RD.mono {K : PySem.W.Frag} {H H' : Hp} (e : Same H H') : ∀ (d : PyData) (v : V), RD K H v d → RD K H' v d
  | .none, _, h => by cases h; exact .non
  | .bool b, _, h => by cases h; exact .bl b
  | .int i, _, h => by cases h; exact .int i
  | .str x, _, h => by cases h; exact .str x
  | .list ds, _, h => by
    cases h with
    | lst h hs => exact .lst (Same.seq e h) (RDs.mono e ds _ hs)
  | .tuple ds, _, h => by
    cases h with
    | tup h hs => exact .tup (sqt_mono e h) (RDs.mono e ds _ hs)
  | .dict ds, _, h => by
    cases h with
    | dic h hs => exact .dic (e _ _ h) (RDk.mono e ds _ hs)
theorem RDs.mono {K : PySem.W.Frag} {H H' : Hp} (e : Same H H') : ∀ (ds : List PyData) (vs : List V), RDs K H vs ds → RDs K H' vs ds
  | [], _, h => by cases h; exact .nil
  | d :: ds, _, h => by
    cases h with
    | cons h hs => exact .cons (RD.mono e d _ h) (RDs.mono e ds _ hs)
theorem RDk.mono {K : PySem.W.Frag} {H H' : Hp} (e : Same H H') : ∀ (ds : List (PyData × PyData)) (vs : List (Key × V)), RDk K H vs ds → RDk K H' vs ds
  | [], _, h => by cases h; exact .nil
  | (k, d) :: ds, _, h => by
    cases h with
    | cons h hs => exact .cons (RD.mono e d _ h) (RDk.mono e ds _ hs)
end
/-- small data: may stand in lists of data that are shown -/
def tinyD (d : PyData) : Bool := plainD d && d.showable && decide (siz d ≤ 200) && decide (d.depth ≤ 5)
end Paw

set_option maxRecDepth 100000
set_option maxHeartbeats 4000000
namespace Paw
open PySem PySem.Spec PyProof.Rows L2
theorem it_t {c : Bool} {A B : Prop} (hc : c = true) (h : A) : if c = true then A else B := by
  rw [if_pos hc]
  exact h
theorem it_f {c : Bool} {A B : Prop} (hc : c = false) (h : B) : if c = true then A else B := by
  rw [hc, if_neg Bool.false_ne_true]
  exact h
/-- a sign a to z -/
def okc (c : Nat) : Bool := decide (97 ≤ c) && decide (c ≤ 122)
def isS : PyData → Bool
  | .str _ => true
  | _ => false
def nameS (x : Str) : Bool := decide (1 ≤ x.length) && decide (x.length ≤ 8) && x.cps.toList.all okc
def isN : PyData → Bool
  | .str x => nameS x
  | _ => false
theorem kit_str {K : PySem.W.Frag} (d : PyData) : PySem.W.kitOne K (.type (kindOf d)) (.type "str") = some (isS d) := by
  cases d
  · exact kit_ty (a := "NoneType") (r := false) (by decide +kernel)
  · exact kit_ty (a := "bool") (r := false) (by decide +kernel)
  · exact kit_ty (a := "int") (r := false) (by decide +kernel)
  · exact kit_ty (a := "str") (r := true) (by decide +kernel)
  · exact kit_ty (a := "list") (r := false) (by decide +kernel)
  · exact kit_ty (a := "tuple") (r := false) (by decide +kernel)
  · exact kit_ty (a := "dict") (r := false) (by decide +kernel)
theorem sign_a : (("a" : Str)).cps.toList = [97] ∧ (("z" : Str)).cps.toList = [122] := by decide +kernel
theorem lt_one {a b : Nat} : decide (([a] : List Nat) < [b]) = decide (a < b) := by
  apply decide_eq_decide.mpr
  rw [List.cons_lt_cons_iff]
  constructor
  · rintro (h | ⟨_, h⟩)
    · exact h
    · exact absurd h (by simp)
  · exact fun h => .inl h
theorem okc_eq {c : Nat} : okc c = (!decide (((⟨#[c]⟩ : Str)).cps.toList < (("a" : Str)).cps.toList) && !decide ((("z" : Str)).cps.toList < ((⟨#[c]⟩ : Str)).cps.toList)) := by
  rw [sign_a.1, sign_a.2]
  show okc c = (!decide (([c] : List Nat) < [97]) && !decide (([122] : List Nat) < [c]))
  rw [lt_one, lt_one]
  unfold okc
  by_cases h1 : c < 97 <;> by_cases h2 : 122 < c <;> simp [h1, h2] <;> omega
theorem take_next {α : Type} {l : List α} {i : Nat} {v : α} (h : l[i]? = some v) : l.take (i + 1) = l.take i ++ [v] := by
  rw [List.take_succ, h]
  rfl
def spIsInt (K : PySem.W.Frag) : Sp := fun vs H Q _ => ∃ (x : V) (d : PyData), vs = [x] ∧ RD K H x d ∧ Q (.bl (isI d)) H
def LenOk (d : PyData) : Prop := ∀ z, d = .str z → z.length ≤ sizeLine
def spIsName (K : PySem.W.Frag) : Sp := fun vs H Q _ => ∃ (x : V) (d : PyData), vs = [x] ∧ RD K H x d ∧ LenOk d ∧ ∀ H', Same H H' → Q (.bl (isN d)) H'
section
variable {P : Program} {w : World} {K : PySem.W.Frag} {mg : Str → Option Value} {base : Heap}
theorem scIsInt : FnScope ["value"] ["value"] (defScope sIsInt) := ⟨rfl, rfl, rfl, by decide +kernel, rfl, by decide +kernel, by decide +kernel⟩
theorem ok_is_int {f : Addr} {fd : FuncData} (F : Fun K "is_int" "is_int" sIsInt f fd) (zs : mg "isinstance" = none) (zi : mg "int" = none) (zb : mg "bool" = none) : FnOk P w K mg base CX0 1 f fd ["value"] (spIsInt K) := by
  refine F.ok scIsInt (fun vs H Q E h => ?_) (fun cdv A outer s H vs Q E hr h => ?_)
  · obtain ⟨x, d, rfl, _⟩ := h
    rfl
  · obtain ⟨x, d, rfl, hd, q⟩ := h
    refine ⟨_, pss_one (ps_ret (pe_and (pe_callB call_isi (by rfl) zs bt_isinstance (pa_cons (pv 0) (pa_cons (pe_bltn (v := .ty "int") (by rfl) zi bt_int rfl) pa_nil)))
      (pe_one (pe_not (pe_callB call_isi (by rfl) zs bt_isinstance (pa_cons (pv 0) (pa_cons (pe_bltn (v := .ty "bool") (by rfl) zb bt_bool rfl) pa_nil))))))), ?_⟩
    refine ⟨_, rfl, x, .ty "int", _, _, _, rfl, .ty _, hd.ty, kit_int d, _, rfl, ?_⟩
    refine ite2 (fun h => ⟨_, rfl, x, .ty "bool", _, _, _, rfl, .ty _, hd.ty, kit_bool d, _, rfl, ?_⟩) (fun h => ?_)
    · have e : (!isB d) = isI d := by cases d <;> first | rfl | cases h
      rw [e]
      exact q
    · have e : false = isI d := by cases d <;> first | rfl | exact absurd rfl h
      rw [e]
      exact q
end
end Paw

set_option maxRecDepth 100000
set_option maxHeartbeats 4000000
namespace Paw
open PySem PySem.Spec PyProof.Rows L2
/-- the first one that is not as it must be -/
def firstNo (ok : PyData → Bool) : List V → List PyData → Option V
  | v :: vs, d :: ds => if ok d then firstNo ok vs ds else some v
  | _, _ => none
theorem firstNo_at {ok : PyData → Bool} {xs : List V} {ds : List PyData} {i : Nat} {x : V} {d : PyData} (hx : xs[i]? = some x) (hd : ds[i]? = some d) : firstNo ok (xs.drop i) (ds.drop i) = if ok d then firstNo ok (xs.drop (i + 1)) (ds.drop (i + 1)) else some x := by
  obtain ⟨h1, e1⟩ := List.getElem?_eq_some_iff.mp hx
  obtain ⟨h2, e2⟩ := List.getElem?_eq_some_iff.mp hd
  rw [List.drop_eq_getElem_cons h1, List.drop_eq_getElem_cons h2, e1, e2]
  rfl
theorem firstNo_all {ok : PyData → Bool} : ∀ {xs : List V} {ds : List PyData}, xs.length = ds.length → firstNo ok xs ds = none → ∀ d ∈ ds, ok d = true
  | [], [], _, _ => fun _ z => nomatch z
  | x :: xs, d :: ds, hl, h => by
    have e : firstNo ok (x :: xs) (d :: ds) = if ok d then firstNo ok xs ds else some x := rfl
    rw [e] at h
    cases hd : ok d with
    | false =>
      rw [hd] at h
      cases h
    | true =>
      rw [hd, if_pos rfl] at h
      intro y hy
      rcases List.mem_cons.mp hy with rfl | hy
      · exact hd
      · exact firstNo_all (Nat.succ.inj hl) h y hy
/-- the first name that stands before it, too -/
def dup : List Str → List Str → Option Str
  | _, [] => none
  | seen, s :: r => if decide (s ∈ seen) then some s else dup (seen ++ [s]) r
theorem dup_at {ss : List Str} {i : Nat} {s : Str} (h : ss[i]? = some s) : dup (ss.take i) (ss.drop i) = if decide (s ∈ ss.take i) then some s else dup (ss.take (i + 1)) (ss.drop (i + 1)) := by
  obtain ⟨h1, e1⟩ := List.getElem?_eq_some_iff.mp h
  rw [List.drop_eq_getElem_cons h1, e1, take_next h]
  rfl
theorem inV_str {s : Str} : ∀ ss : List Str, inV (.str s) (ss.map V.str) = decide (s ∈ ss)
  | [] => by
    show false = _
    simp
  | t :: ss => by
    have e : inV (.str s) ((t :: ss).map V.str) = (eqV (.str t) (.str s) || inV (.str s) (ss.map V.str)) := rfl
    have e2 : eqV (.str t) (.str s) = (t == s) := rfl
    rw [e, inV_str ss, e2]
    by_cases h : t = s
    · subst h
      simp
    · have n : (t == s) = false := by simpa using h
      rw [n, Bool.false_or]
      apply decide_eq_decide.mpr
      constructor
      · exact fun z => List.mem_cons_of_mem _ z
      · intro z
        rcases List.mem_cons.mp z with z | z
        · exact absurd z.symm h
        · exact z
theorem flat_strs (ss : List Str) : (ss.map V.str).all flatV = true := by
  rw [List.all_eq_true]
  intro x hx
  obtain ⟨s, _, rfl⟩ := List.mem_map.mp hx
  rfl
theorem cut_take {xs : List V} {i : Nat} (h : i ≤ xs.length) : cutV xs none (some (i : Int)) = xs.take i := by
  unfold cutV
  rw [HT.sIx_none, HT.sIx_nat, List.drop_zero, Nat.sub_zero, Nat.min_eq_left h]
def spChkN (K : PySem.W.Frag) (C : Addr) : Sp := fun vs H Q E => ∃ (p : Addr) (xs : List V) (ds : List PyData), vs = [.ref p] ∧ SqT K H p xs ∧ RDs K H xs ds ∧ (∀ d ∈ ds, LenOk d) ∧ (∀ v, firstNo isN xs ds = some v → Thrown "name" C v H E) ∧ (firstNo isN xs ds = none → ∀ H', Same H H' → Q .non H')
def spChkD (K : PySem.W.Frag) (C : Addr) : Sp := fun vs H Q E => ∃ (p : Addr) (ss : List Str), vs = [.ref p] ∧ SqT K H p (ss.map V.str) ∧ (∀ s, dup [] ss = some s → Thrown "name" C (.str s) H E) ∧ (dup [] ss = none → ∀ H', Same H H' → Q .non H')
theorem sqt_mono' {K : PySem.W.Frag} {H H' : Hp} {a : Addr} {xs : List V} (e : Same H H') (h : SqT K H a xs) : SqT K H' a xs := sqt_mono e h
theorem one_le {x : V} : [x].length ≤ 1000 := by
  show 1 ≤ 1000
  decide
theorem RDs.length {K : PySem.W.Frag} {H : Hp} : ∀ {xs : List V} {ds : List PyData}, RDs K H xs ds → xs.length = ds.length
  | [], _, h => by
    cases h
    rfl
  | x :: xs, _, h => by
    cases h with
    | cons h1 h2 => rw [List.length_cons, List.length_cons, RDs.length h2]
theorem RDs.at_ {K : PySem.W.Frag} {H : Hp} : ∀ {xs : List V} {ds : List PyData} {i : Nat} {x : V}, RDs K H xs ds → xs[i]? = some x → ∃ d, ds[i]? = some d ∧ RD K H x d
  | [], _, i, x, h, e => by
    cases i <;> cases e
  | y :: xs, _, i, x, h, e => by
    cases h with
    | @cons _ _ d ds h1 h2 =>
      cases i with
      | zero =>
        cases e
        exact ⟨d, rfl, h1⟩
      | succ i => exact RDs.at_ (i := i) h2 e
section
variable {P : Program} {w : World} {K : PySem.W.Frag} {mg : Str → Option Value} {base : Heap}
end
end Paw

set_option maxRecDepth 100000
set_option maxHeartbeats 4000000
namespace Paw
open PySem PySem.Spec PyProof.Rows L2
def okT : PyData → Bool
  | .int i => decide (1 ≤ i)
  | _ => false
theorem strs_of {K : PySem.W.Frag} {H : Hp} : ∀ {xs : List V} {ds : List PyData}, RDs K H xs ds → (∀ d ∈ ds, isN d = true) → ∃ ss : List Str, xs = ss.map V.str
  | [], _, _, _ => ⟨[], rfl⟩
  | x :: xs, _, h, ok => by
    cases h with
    | @cons _ _ d ds h1 h2 =>
      obtain ⟨ss, e⟩ := strs_of h2 fun y hy => ok y (List.mem_cons_of_mem _ hy)
      have z := ok d List.mem_cons_self
      cases h1 with
      | str s => exact ⟨s :: ss, by rw [e]; rfl⟩
      | _ => cases z
theorem ints_of {K : PySem.W.Frag} {H : Hp} : ∀ {xs : List V} {ds : List PyData}, RDs K H xs ds → (∀ d ∈ ds, okT d = true) → ∃ ns : List Int, xs = ns.map V.int
  | [], _, _, _ => ⟨[], rfl⟩
  | x :: xs, _, h, ok => by
    cases h with
    | @cons _ _ d ds h1 h2 =>
      obtain ⟨ss, e⟩ := ints_of h2 fun y hy => ok y (List.mem_cons_of_mem _ hy)
      have z := ok d List.mem_cons_self
      cases h1 with
      | int s => exact ⟨s :: ss, by rw [e]; rfl⟩
      | _ => cases z
/-- .. of what a def with a star gets -/
def spCN (K : PySem.W.Frag) (C1 C2 : Addr) : Sp := fun vs H Q E => ∃ ds : List PyData, RDs K H vs ds ∧ (∀ d ∈ ds, LenOk d) ∧ vs.length ≤ 10 ∧ (∀ v, firstNo isN vs ds = some v → Thrown "name" C1 v H E) ∧
  (firstNo isN vs ds = none → ∀ ss : List Str, vs = ss.map V.str → (∀ s, dup [] ss = some s → Thrown "name" C2 (.str s) H E) ∧ (dup [] ss = none → ∀ q H', Same H H' → H q = none → H' q = some (.tup vs) → Q (.ref q) H'))
def spCNi (K : PySem.W.Frag) (C1 C2 : Addr) : Sp := fun vs H Q E => ∃ (p : Addr) (xs : List V) (ds : List PyData), vs = [.ref p] ∧ H p = some (.tup xs) ∧ RDs K H xs ds ∧ (∀ d ∈ ds, LenOk d) ∧ xs.length ≤ 10 ∧ (∀ v, firstNo isN xs ds = some v → Thrown "name" C1 v H E) ∧
  (firstNo isN xs ds = none → ∀ ss : List Str, xs = ss.map V.str → (∀ s, dup [] ss = some s → Thrown "name" C2 (.str s) H E) ∧ (dup [] ss = none → ∀ q H', Same H H' → H q = none → H' q = some (.tup xs) → Q (.ref q) H'))
def spCT (K : PySem.W.Frag) (C : Addr) : Sp := fun vs H Q E => ∃ ds : List PyData, RDs K H vs ds ∧ vs.length ≤ 10 ∧ (∀ v, firstNo okT vs ds = some v → Thrown "value" C v H E) ∧
  (firstNo okT vs ds = none → ∀ q H', Same H H' → H q = none → H' q = some (.tup vs) → Q (.ref q) H')
def spCTi (K : PySem.W.Frag) (C : Addr) : Sp := fun vs H Q E => ∃ (p : Addr) (xs : List V) (ds : List PyData), vs = [.ref p] ∧ H p = some (.tup xs) ∧ RDs K H xs ds ∧ xs.length ≤ 10 ∧ (∀ v, firstNo okT xs ds = some v → Thrown "value" C v H E) ∧
  (firstNo okT xs ds = none → ∀ q H', Same H H' → H q = none → H' q = some (.tup xs) → Q (.ref q) H')
section
variable {P : Program} {w : World} {K : PySem.W.Frag} {mg : Str → Option Value} {base : Heap}
theorem FnR.weaken {CX : CXT} {k : Nat} {f : Addr} {sp sp' : Sp} (F : FnR P w K mg base CX k f sp) (h : ∀ vs H Q E, sp' vs H Q E → sp vs H Q E) : FnR P w K mg base CX k f sp' :=
  fun A outer s H us vs Q E hr e0 r q => F A outer s H us vs Q E hr e0 r (h vs H Q E q)
theorem cn_in {C1 C2 : Addr} : ∀ vs H Q E, spCN K C1 C2 vs H Q E → ∃ ws rest, vs = ws ++ rest ∧ ws.length = ([] : List Str).length ∧ rest.length ≤ sizeLine ∧ ∀ p, H p = none → spCNi K C1 C2 (ws ++ [V.ref p]) (upd H p (.tup rest)) Q E := by
  rintro vs H Q E ⟨ds, hds, lens, many, bad, q⟩
  refine ⟨[], vs, rfl, rfl, Nat.le_trans many (by decide), fun p hp => ?_⟩
  have s := same_new (o := .tup vs) hp
  refine ⟨p, vs, ds, rfl, upd_same, RDs.mono s ds vs hds, lens, many, fun v hv => (bad v hv).mono s, fun hb ss e => ?_⟩
  obtain ⟨q1, q2⟩ := q hb ss e
  exact ⟨fun z hz => (q1 z hz).mono s, fun hd q1 H' s' h1 h2 => q2 hd q1 H' (s.trans s') (s.free h1) h2⟩
theorem ct_in {C : Addr} : ∀ vs H Q E, spCT K C vs H Q E → ∃ ws rest, vs = ws ++ rest ∧ ws.length = ([] : List Str).length ∧ rest.length ≤ sizeLine ∧ ∀ p, H p = none → spCTi K C (ws ++ [V.ref p]) (upd H p (.tup rest)) Q E := by
  rintro vs H Q E ⟨ds, hds, many, bad, q⟩
  refine ⟨[], vs, rfl, rfl, Nat.le_trans many (by decide), fun p hp => ?_⟩
  have s := same_new (o := .tup vs) hp
  exact ⟨p, vs, ds, rfl, upd_same, RDs.mono s ds vs hds, many, fun v hv => (bad v hv).mono s, fun hb q1 H' s' h1 h2 => q hb q1 H' (s.trans s') (s.free h1) h2⟩
end
end Paw

set_option maxRecDepth 100000
set_option maxHeartbeats 4000000
namespace Paw
open PySem PySem.Spec PyProof.Rows L2
/-- an object just made, its class, and the heap G ahead of it -/
structure SelfAt (K : PySem.W.Frag) (G H : Hp) (x C dx : Addr) : Prop where
  s : Same G H
  n : G x = none
  at_ : H x = some (.ins C dx [])
  c : Cls K C
  a1 : NoAttr K C "_names"
  a2 : NoAttr K C "_teeth"
/-- names are as they must be, or an error says why not -/
def NamesGo (C1 C2 : Addr) (G : Hp) (E : XK) (xs : List V) (ds : List PyData) (k : Prop) : Prop := (∀ v, firstNo isN xs ds = some v → Thrown "name" C1 v G E) ∧
  (firstNo isN xs ds = none → ∀ ss : List Str, xs = ss.map V.str → (∀ s, dup [] ss = some s → Thrown "name" C2 (.str s) G E) ∧ (dup [] ss = none → k))
theorem put_len {f : Str} {v : V} : (putF f v []).length < 1000 := by
  show 1 < 1000
  decide
theorem same_self {K : PySem.W.Frag} {G H H1 : Hp} {x C dx : Addr} {o : HO} (h : SelfAt K G H x C dx) (s : Same H H1) : Same G (upd H1 x o) := fun b u e => (upd_ne (ne_of_none e h.n)).trans (s b u (h.s b u e))

def spMesh (K : PySem.W.Frag) (C1 C2 C3 : Addr) : Sp := fun vs H Q E => ∃ (G : Hp) (x C dx : Addr) (v0 v1 t0 t1 : V) (ds es : List PyData), vs = [.ref x, v0, v1, t0, t1] ∧ SelfAt K G H x C dx ∧ RDs K G [v0, v1] ds ∧ (∀ d ∈ ds, LenOk d) ∧ RDs K G [t0, t1] es ∧ 
  NamesGo C1 C2 G E [v0, v1] ds ((∀ v, firstNo okT [t0, t1] es = some v → Thrown "value" C3 v G E) ∧ (firstNo okT [t0, t1] es = none → ∀ (H2 : Hp) (p1 p2 : Addr), Same G H2 → H2 x = some (.ins C dx (putF "_teeth" (.ref p2) (putF "_names" (.ref p1) []))) → H2 p1 = some (.tup [v0, v1]) → H2 p2 = some (.tup [t0, t1]) → Q .non H2))

def spDiff (K : PySem.W.Frag) (C1 C2 C3 : Addr) : Sp := fun vs H Q E => ∃ (G : Hp) (x C dx : Addr) (v0 v1 v2 t0 t1 : V) (ds es : List PyData), vs = [.ref x, v0, v1, v2, t0, t1] ∧ SelfAt K G H x C dx ∧ RDs K G [v0, v1, v2] ds ∧ (∀ d ∈ ds, LenOk d) ∧ RDs K G [t0, t1] es ∧ 
  NamesGo C1 C2 G E [v0, v1, v2] ds ((∀ v, firstNo okT [t0, t1] es = some v → Thrown "value" C3 v G E) ∧ (firstNo okT [t0, t1] es = none → ∀ (H2 : Hp) (p1 p2 : Addr), Same G H2 → H2 x = some (.ins C dx (putF "_teeth" (.ref p2) (putF "_names" (.ref p1) []))) → H2 p1 = some (.tup [v0, v1, v2]) → H2 p2 = some (.tup [t0, t1]) → Q .non H2))

def spBrake (K : PySem.W.Frag) (C1 C2 : Addr) : Sp := fun vs H Q E => ∃ (G : Hp) (x C dx : Addr) (v0 : V) (ds : List PyData), vs = [.ref x, v0] ∧ SelfAt K G H x C dx ∧ RDs K G [v0] ds ∧ (∀ d ∈ ds, LenOk d) ∧ 
  NamesGo C1 C2 G E [v0] ds (∀ (H2 : Hp) (p1 : Addr), Same G H2 → H2 x = some (.ins C dx (putF "_names" (.ref p1) [])) → H2 p1 = some (.tup [v0]) → Q .non H2)

def spFree (K : PySem.W.Frag) (C1 C2 : Addr) : Sp := fun vs H Q E => ∃ (G : Hp) (x C dx : Addr) (v0 v1 : V) (ds : List PyData), vs = [.ref x, v0, v1] ∧ SelfAt K G H x C dx ∧ RDs K G [v0, v1] ds ∧ (∀ d ∈ ds, LenOk d) ∧ 
  NamesGo C1 C2 G E [v0, v1] ds (∀ (H2 : Hp) (p1 : Addr), Same G H2 → H2 x = some (.ins C dx (putF "_names" (.ref p1) [])) → H2 p1 = some (.tup [v0, v1]) → Q .non H2)

section
variable {P : Program} {w : World} {K : PySem.W.Frag} {mg : Str → Option Value} {base : Heap}

end
end Paw

set_option maxRecDepth 100000
set_option maxHeartbeats 4000000
namespace Paw
open PySem PySem.Spec PyProof.Rows L2
/-! ### x is not True -/
def okIs : V → Bool
  | .non => true
  | .bl _ => true
  | .int _ => true
  | .str _ => true
  | .ref _ => true
  | _ => false
def rNotBA : R2 := fun x y H Q => ∃ b : Bool, y = .bl b ∧ okIs x = true ∧ Q (.bl (!decide (x = .bl b))) H
theorem op_notBA {X : Cx} : OpR X (compareOp .IsNot) rNotBA := by
  intro pins s σ H x y v u Q I rx ry h
  obtain ⟨b, rfl, ok, q⟩ := h
  cases (show u = Value.bool b from ry)
  cases x with
  | non =>
    cases (show v = Value.none from rx)
    exact wpAny_isNot_other rfl (fun z => nomatch z) ⟨.bl true, H, I, rfl, by simpa using q⟩
  | bl a =>
    cases (show v = Value.bool a from rx)
    by_cases e : a = b
    · subst e
      exact wpAny_isNot_self rfl ⟨.bl false, H, I, rfl, by simpa using q⟩
    · exact wpAny_isNot_other rfl (fun z => e (Value.bool.inj z)) ⟨.bl true, H, I, rfl, by simpa [e] using q⟩
  | int i =>
    obtain ⟨t, rfl⟩ := rx
    exact wpAny_isNot_other rfl (fun z => nomatch z) ⟨.bl true, H, I, rfl, by simpa using q⟩
  | str i =>
    obtain ⟨t, rfl⟩ := rx
    exact wpAny_isNot_other rfl (fun z => nomatch z) ⟨.bl true, H, I, rfl, by simpa using q⟩
  | ref a =>
    cases (show v = Value.ref a from rx)
    exact wpAny_isNot_other rfl (fun z => nomatch z) ⟨.bl true, H, I, rfl, by simpa using q⟩
  | _ => cases ok
theorem RD.ok {K : PySem.W.Frag} {H : Hp} {x : V} {d : PyData} (h : RD K H x d) : okIs x = true := by cases h <;> rfl
def spRat (K : PySem.W.Frag) (C1 C2 C3 : Addr) : Sp := fun vs H Q E => ∃ (G : Hp) (x C dx : Addr) (v0 bk : V) (ds : List PyData) (dk : PyData), vs = [.ref x, v0, bk] ∧ SelfAt K G H x C dx ∧ NoAttr K C "_backward" ∧ RDs K G [v0] ds ∧ (∀ d ∈ ds, LenOk d) ∧ RD K G bk dk ∧
  NamesGo C1 C2 G E [v0] ds ((isB dk = false → Thrown "value" C3 bk G E) ∧ (isB dk = true → ∀ (H2 : Hp) (p1 : Addr), Same G H2 → H2 x = some (.ins C dx (putF "_backward" bk (putF "_names" (.ref p1) []))) → H2 p1 = some (.tup [v0]) → Q .non H2))
section
variable {P : Program} {w : World} {K : PySem.W.Frag} {mg : Str → Option Value} {base : Heap}
end
end Paw

set_option maxRecDepth 100000
set_option maxHeartbeats 4000000
namespace Paw
open PySem PySem.Spec PyProof.Rows L2
/-! ### the heap without some places -/
def cut (S : List Addr) (H : Hp) : Hp := fun b => if b ∈ S then none else H b
theorem cut_in {S : List Addr} {H : Hp} {b : Addr} (h : b ∈ S) : cut S H b = none := if_pos h
theorem cut_out {S : List Addr} {H : Hp} {b : Addr} (h : b ∉ S) : cut S H b = H b := if_neg h
theorem cut_same {S : List Addr} {H : Hp} : Same (cut S H) H := fun b o e => by
  by_cases h : b ∈ S
  · rw [cut_in h] at e
    cases e
  · rw [cut_out h] at e
    exact e
theorem cut1 {p b : Addr} {H : Hp} (h : b ≠ p) : cut [p] H b = H b := cut_out (by simp [h])
theorem cut_but {p : Addr} {H H' : Hp} (h : But p H H') : Same (cut [p] H) (cut [p] H') := fun b o e => by
  have n : b ≠ p := fun z => by
    rw [z, cut_in List.mem_cons_self] at e
    cases e
  rw [cut1 n] at e ⊢
  exact h b o n e
/-- what was not there -/
def newer (H H' : Hp) : Hp := fun b => match H b with
  | none => H' b
  | some _ => none
theorem newer_at {H H' : Hp} {b : Addr} (h : H b = none) : newer H H' b = H' b := by
  unfold newer
  rw [h]
theorem newer_some {H H' : Hp} {b : Addr} {o : HO} (e : newer H H' b = some o) : H b = none ∧ H' b = some o := by
  cases h : H b with
  | none =>
    rw [newer_at h] at e
    exact ⟨rfl, e⟩
  | some u =>
    unfold newer at e
    rw [h] at e
    cases e
theorem newer_cut {S : List Addr} {H H' : Hp} (h : ∀ b ∈ S, H b ≠ none) : Same (newer H H') (cut S H') := fun b o e => by
  obtain ⟨h1, h2⟩ := newer_some e
  rw [cut_out (fun z => h b z h1)]
  exact h2
/-- a draw: a value made of new things, tiny data -/
def spDraw (K : PySem.W.Frag) : Sp := fun vs H Q _ => ∃ (p : Addr) (b : Bool) (L : List V), vs = [.ref p] ∧ H p = some (.lst L) ∧ Pile b L ∧
  ∀ (v : V) (d : PyData) (L' : List V) (H' : Hp), RD K (newer H H') v d → tinyD d = true → But p H H' → H' p = some (.lst L') → Pile b L' → Q v H'
theorem log_lt {i : Int} {n : Nat} (h : i.natAbs < 2 ^ n) (h0 : 0 < n) : i.natAbs.log2 < n := PySem.Flt.log2_lt_of h0 h
theorem tiny_int {i : Int} (h : i.natAbs < 2 ^ 60) : tinyD (.int i) = true := by
  have := log_lt h (by decide)
  unfold tinyD
  simp only [plainD, PyData.showable, siz, PyData.depth, Bool.and_eq_true, decide_eq_true_eq]
  exact ⟨⟨⟨trivial, by omega⟩, decide_eq_true (by omega)⟩, decide_eq_true (by omega)⟩
theorem abs60 {i : Int} {n : Nat} (h : i.natAbs < n) (g : n ≤ 2 ^ 60) : i.natAbs < 2 ^ 60 := Nat.lt_of_lt_of_le h g
/-! ### xs != [] -/
def rNeNil (K : PySem.W.Frag) : R2 := fun x y H Q => ∃ (a b : Addr) (xs : List V), x = .ref a ∧ y = .ref b ∧ SqL K H a xs ∧ SqL K H b [] ∧ Q (.bl (!xs.isEmpty)) H
theorem op_neNil {X : Cx} (hu : X.A.units < cLine) : OpR X (compareOp .NotEq) (rNeNil X.K) := by
  intro pins s σ H x y v u Q I rx ry h
  obtain ⟨a, b, xs, rfl, rfl, ha, hb, q⟩ := h
  obtain rfl : v = Value.ref a := rx
  obtain rfl : u = Value.ref b := ry
  obtain ⟨its, r1, p1, _⟩ := I.list ha
  obtain ⟨its2, r2, p2, _⟩ := I.list hb
  cases r2
  cases r1 with
  | nil => exact SeqAt.RcNeAt.lists (e := fun _ => true) p1.isList p2.isList rfl hu (fun j h1 _ => absurd h1 (Nat.not_lt_zero _)) _ _ _ _ ⟨.bl _, H, I, rfl, q⟩
  | cons r1 rs => exact SeqAt.RcNeAt.lists_lengths p1.isList p2.isList (by simp) hu _ _ _ _ ⟨.bl _, H, I, rfl, q⟩

section
variable {P : Program} {w : World} {K : PySem.W.Frag} {mg : Str → Option Value} {base : Heap}
/-- a draw of a whole number -/
def spSize : Sp := fun vs H Q _ => ∃ (p : Addr) (b : Bool) (L : List V), vs = [.ref p] ∧ H p = some (.lst L) ∧ Pile b L ∧ ∀ (i : Int) (L' : List V) (H' : Hp), 1 ≤ i → i ≤ 1000000 → But p H H' → H' p = some (.lst L') → Pile b L' → Q (.int i) H'
def spOrder : Sp := fun vs H Q _ => ∃ (p : Addr) (b : Bool) (L : List V) (n : Nat), vs = [.ref p, .int (n : Int)] ∧ n ≤ 100 ∧ H p = some (.lst L) ∧ Pile b L ∧
  ∀ (H' : Hp) (q : Addr) (ks : List Nat) (L' : List V), But p H H' → H q = none → H' q = some (.lst (ks.map fun k : Nat => V.int (k : Int))) → ks.length = n → (∀ k ∈ ks, k < n) → ks.Nodup → H' p = some (.lst L') → Pile b L' → Q (.ref q) H'
def lenAt (H : Hp) (a : Addr) : Nat := match H a with
  | some (.lst xs) => xs.length
  | _ => 0
theorem lenAt_of {H : Hp} {a : Addr} {xs : List V} (h : H a = some (.lst xs)) : lenAt H a = xs.length := by
  unfold lenAt
  rw [h]
theorem map_erase {α β : Type} (g : α → β) : ∀ (l : List α) (k : Nat), (l.map g).eraseIdx k = (l.eraseIdx k).map g
  | [], _ => rfl
  | _ :: _, 0 => rfl
  | a :: l, k + 1 => congrArg (g a :: ·) (map_erase g l k)
theorem erase_pm {α : Type} : ∀ (l : List α) (i : Nat) (h : i < l.length), (l[i] :: l.eraseIdx i).Perm l
  | _ :: _, 0, _ => .refl _
  | a :: l, i + 1, h => (List.Perm.swap _ _ _).trans ((erase_pm l i (Nat.lt_of_succ_lt_succ h)).cons a)
theorem seq_in {i : Int} {n : Nat} (h0 : 0 ≤ i) (h : i < n) : seqIndex? i n = some i.toNat := by
  unfold seqIndex?
  have a : ¬ i < 0 := by omega
  simp [h0, h, a]
end
end Paw

set_option maxRecDepth 100000
set_option maxHeartbeats 4000000
namespace Paw
open PySem PySem.Spec PyProof.Rows L2
def abcS : Str := "abcdefghijklmnopqrstuvwxyz"
theorem abc_signs : abcS.cps.toList = (List.range 26).map (97 + ·) := by decide +kernel
theorem abc_ok {c : Nat} : (!(Builtin.Str.occurrences abcS ⟨#[c]⟩ 0 abcS.length 1).isEmpty) = okc c := by
  rw [StrLaws.found_one, abc_signs]
  unfold okc
  by_cases h : 97 ≤ c ∧ c ≤ 122
  · rw [decide_eq_true h.1, decide_eq_true h.2]
    refine decide_eq_true (List.mem_map.mpr ⟨c - 97, List.mem_range.mpr (by omega), by omega⟩)
  · have e : (decide (97 ≤ c) && decide (c ≤ 122)) = false := by
      by_cases h1 : 97 ≤ c
      · rw [decide_eq_false (fun h2 => h ⟨h1, h2⟩), Bool.and_false]
      · rw [decide_eq_false h1, Bool.false_and]
    rw [e]
    refine decide_eq_false (fun z => ?_)
    obtain ⟨k, hk, rfl⟩ := List.mem_map.mp z
    have := List.mem_range.mp hk
    exact h ⟨by omega, by omega⟩
/-! ### xs == [] -/
def rEqNil (K : PySem.W.Frag) : R2 := fun x y H Q => ∃ (a b : Addr) (xs : List V), x = .ref a ∧ y = .ref b ∧ SqL K H a xs ∧ SqL K H b [] ∧ Q (.bl xs.isEmpty) H
theorem op_eqNil {X : Cx} (hu : X.A.units < cLine) : OpR X (compareOp .Eq) (rEqNil X.K) := by
  intro pins s σ H x y v u Q I rx ry h
  obtain ⟨a, b, xs, rfl, rfl, ha, hb, q⟩ := h
  obtain rfl : v = Value.ref a := rx
  obtain rfl : u = Value.ref b := ry
  obtain ⟨its, r1, p1, _⟩ := I.list ha
  obtain ⟨its2, r2, p2, _⟩ := I.list hb
  cases r2
  cases r1 with
  | nil => exact SeqAt.eq_listAt (e := fun _ => true) p1.isList p2.isList rfl hu (fun j h1 _ => absurd h1 (Nat.not_lt_zero _)) ⟨.bl _, H, I, rfl, q⟩
  | cons r1 rs => exact SeqAt.eq_list_lengthsAt p1.isList p2.isList (by simp) hu ⟨.bl _, H, I, rfl, q⟩
section
variable {P : Program} {w : World} {K : PySem.W.Frag} {mg : Str → Option Value} {base : Heap}
end
end Paw

set_option maxRecDepth 100000
set_option maxHeartbeats 4000000
namespace Paw
open PySem PySem.Spec PyProof.Rows L2
/-- isinstance(e, c), e None or an error that is kept -/
def rKeptIs (K : PySem.W.Frag) : List V → Hp → VK → Prop := fun xs H Q => ∃ (x c : V) (cv : Value) (b : Bool), xs = [x, c] ∧ ClsV c cv ∧ Q (.bl b) H ∧
  ((x = .non ∧ PySem.W.kitOne K (.type "NoneType") cv = some b) ∨ ∃ (a C d : Addr) (fs : List (Str × V)), x = .ref a ∧ ExV K C ∧ H a = some (exr a (.ref C) (some d)) ∧ H d = some (.xd fs) ∧ PySem.W.kitOne K (.ref C) cv = some b)
theorem call_keptIs {X : Cx} : CallR X (.builtin "isinstance") (rKeptIs X.K) := by
  intro pins s σ H xs us Q I r h
  obtain ⟨x, c, cv, b, rfl, hc, q, h⟩ := h
  rcases h with ⟨rfl, ek⟩ | ⟨a, C, d, fs, rfl, T, ea, ed, ek⟩
  · exact call_isi pins s σ H _ us Q I r ⟨.non, c, _, cv, b, rfl, hc, RD.ty .non, ek, q⟩
  · obtain ⟨u1, u2, rfl, r1, r2⟩ := vals2 r
    cases (show u1 = Value.ref a from r1)
    have e2 := hc.eq r2
    subst e2
    obtain ⟨oe, vs, ho, hz, hd⟩ := exr_at I.hok ea
    have hcl : (PySem.W.clsIn X.K C).isSome = true := by
      obtain ⟨cd, hcd, _⟩ := PySem.W.any_some T.hd
      rw [hcd]
      rfl
    have fin : ∀ tk, EP X pins σ Q (.bool b) { s with toks := tk } := fun tk => ⟨.bl b, H, I.tok tk, rfl, q⟩
    obtain ⟨mA, hn, rel⟩ := (show ObjOk X.prog X.w H s.heap d (.xd fs) from I.hok d _ ed)
    obtain ⟨od, hod, hl⟩ := lookIn_ns hn
    have J : PySem.W.InstAt s.heap a oe C (some od) := by
      refine ⟨ho, hz.1, ?_, ?_⟩
      · unfold PySem.W.notCls
        rw [hd]
      · rw [hz.2]
        exact hod
    exact PySem.W.kia_one (PySem.W.kitx_exc hcl T.ga T.gg T.oex.exC T.ca T.cg T.ct T.ob) I.kIn J ek (fun z => nomatch z) fin
/-- the classes of the errors -/
structure Cls7 where
  cN : Addr
  cT : Addr
  cE : Addr
  cP : Addr
  cW : Addr
  cX : Addr
  cF : Addr
structure Kit7 (K : PySem.W.Frag) (mg : Str → Option Value) (c : Cls7) : Prop where
  gN : mg "NoName" = some (.ref c.cN)
  gT : mg "Twice" = some (.ref c.cT)
  gE : mg "NoTeeth" = some (.ref c.cE)
  gP : mg "NoPart" = some (.ref c.cP)
  gW : mg "NoWheel" = some (.ref c.cW)
  gX : mg "NoText" = some (.ref c.cX)
  gF : mg "NoFraction" = some (.ref c.cF)
  nN : PySem.W.kitOne K (.type "NoneType") (.ref c.cN) = some false
  nT : PySem.W.kitOne K (.type "NoneType") (.ref c.cT) = some false
  nE : PySem.W.kitOne K (.type "NoneType") (.ref c.cE) = some false
  nP : PySem.W.kitOne K (.type "NoneType") (.ref c.cP) = some false
  nW : PySem.W.kitOne K (.type "NoneType") (.ref c.cW) = some false
  nX : PySem.W.kitOne K (.type "NoneType") (.ref c.cX) = some false
  nF : PySem.W.kitOne K (.type "NoneType") (.ref c.cF) = some false
  NN : PySem.W.kitOne K (.ref c.cN) (.ref c.cN) = some true
  TN : PySem.W.kitOne K (.ref c.cT) (.ref c.cN) = some false
  TT : PySem.W.kitOne K (.ref c.cT) (.ref c.cT) = some true
  EN : PySem.W.kitOne K (.ref c.cE) (.ref c.cN) = some false
  ET : PySem.W.kitOne K (.ref c.cE) (.ref c.cT) = some false
  EE : PySem.W.kitOne K (.ref c.cE) (.ref c.cE) = some true
  vN : ExV K c.cN
  vT : ExV K c.cT
  vE : ExV K c.cE
  oN : PySem.W.findIn K (.ref c.cN) "name" = some none
  oT : PySem.W.findIn K (.ref c.cT) "name" = some none
  oE : PySem.W.findIn K (.ref c.cE) "value" = some none
/-- the error of the class C with the field f -/
def KeptAt (H : Hp) (x : V) (C : Addr) (f : Str) (v : V) : Prop := ∃ a d, x = .ref a ∧ H a = some (exr a (.ref C) (some d)) ∧ H d = some (.xd [(f, v)])
/-- what is kept: the word that tells it -/
inductive Kept (c : Cls7) (H : Hp) (x : V) : Option (Str × V) → Prop
  | non : x = .non → Kept c H x none
  | name {v : V} : KeptAt H x c.cN "name" v → Kept c H x (some ("name", v))
  | twice {v : V} : KeptAt H x c.cT "name" v → Kept c H x (some ("twice", v))
  | teeth {v : V} : KeptAt H x c.cE "value" v → Kept c H x (some ("teeth", v))
def kindItems : Option (Str × V) → List V
  | some (w, v) => [.str w, v]
  | none => [.str "another"]
def spKind (c : Cls7) : Sp := fun vs H Q _ => ∃ (x : V) (o : Option (Str × V)), vs = [x] ∧ Kept c H x o ∧ ∀ (r : Addr) (H' : Hp), Same H H' → H r = none → H' r = some (.lst (kindItems o)) → Q (.ref r) H'
section
variable {P : Program} {w : World} {K : PySem.W.Frag} {mg : Str → Option Value} {base : Heap}
end
end Paw

set_option maxRecDepth 100000
set_option maxHeartbeats 2000000
namespace Paw
open PySem PySem.Spec PyProof.Rows L2
section
variable {P : Program} {w : World} {K : PySem.W.Frag} {mg : Str → Option Value} {base : Heap}
def spAlike (K : PySem.W.Frag) : Sp := fun vs H Q _ => ∃ (x y : V) (d e : PyData), vs = [x, y] ∧ RD K H x d ∧ RD K H y e ∧ Fit d ∧ Fit e ∧ Q (.bl (decide (V.str d.shown = V.str e.shown))) H
theorem scAlike : FnScope ["one", "other"] ["one", "other"] (defScope sAlike) := ⟨rfl, rfl, rfl, by decide +kernel, rfl, by decide +kernel, by decide +kernel⟩
theorem ok_alike {f : Addr} {fd : FuncData} (F : Fun K "_law_alike" "_law_alike" sAlike f fd) (zr : mg "repr" = none) : FnG P w K mg base CX0 1 f fd ["one", "other"] (spAlike K) := by
  refine funG F scAlike (fun vs H Q E h => ?_) (fun cdv A hG outer s H vs Q E hS hr h => ?_)
  · obtain ⟨x, y, d, e, rfl, _⟩ := h
    rfl
  · obtain ⟨x, y, d, e, rfl, hd, he, fd, fe, q⟩ := h
    have g : Gd (cxOf CX0 P w K mg base ["one", "other"] "_law_alike" (defScope sAlike) f cdv A outer s H E) := ⟨hG, hS, rfl⟩
    refine ⟨_, pss_one (ps_ret (pe_cmpR op_eq (pe_callB (call_reprD g hr) (by rfl) zr bt_repr (pa_cons (pv 0) pa_nil)) (pe_callB (call_reprD g hr) (by rfl) zr bt_repr (pa_cons (pv 1) pa_nil)) (nomark _))), ?_⟩
    exact ⟨_, rfl, x, d, rfl, hd, fd.show_, fd.size, Nat.le_trans fd.depth (by decide), _, rfl, y, e, rfl, he, fe.show_, fe.size, Nat.le_trans fe.depth (by decide), rfl, q⟩
end
end Paw

set_option maxRecDepth 100000
set_option maxHeartbeats 4000000
namespace Paw
open PySem PySem.Spec PyProof.Rows L2
/-! ### parts as data -/
def lensK : Nat → Nat
  | 2 => 3
  | 3 => 1
  | 4 => 1
  | _ => 2
def kindW : Nat → Str
  | 0 => "mesh"
  | 1 => "chain"
  | 2 => "differential"
  | 3 => "brake"
  | 4 => "ratchet"
  | _ => "freewheel"
structure PD where
  kind : Nat
  names : List Str
  near : Int
  far : Int
  back : Bool
/-- what stands behind the names -/
def PD.ending (p : PD) : List (Str ⊕ Int) := if p.kind < 3 then [.inr p.near, .inr p.far] else if p.kind = 4 ∧ p.back = true then [.inl "backward"] else []
def toV : Str ⊕ Int → V
  | .inl s => .str s
  | .inr i => .int i
def toS : Str ⊕ Int → Str
  | .inl s => s
  | .inr i => numS i
def PD.words (p : PD) : List Str := kindW p.kind :: (p.names ++ p.ending.map toS)
def PD.text (p : PD) : Str := Txt.join sp1 p.words
structure PD.Ok (p : PD) : Prop where
  kind : p.kind < 6
  len : p.names.length = lensK p.kind
  name : ∀ s ∈ p.names, nameS s = true
  dup : dup [] p.names = none
  near : p.kind < 3 → 1 ≤ p.near ∧ p.near.natAbs.log2 < 12900
  far : p.kind < 3 → 1 ≤ p.far ∧ p.far.natAbs.log2 < 12900
/-- the fields of the object -/
def PD.fields (p : PD) (n t : Addr) : List (Str × V) := (("_names" : Str), V.ref n) :: (if p.kind < 3 then [(("_teeth" : Str), V.ref t)] else if p.kind = 4 then [(("_backward" : Str), V.bl p.back)] else [])
/-- at a: an object that is this part; c: the classes by kind -/
def PAt (c : Nat → Addr) (H : Hp) (a : Addr) (p : PD) : Prop := ∃ dx n t, H a = some (.ins (c p.kind) dx (p.fields n t)) ∧ H n = some (.tup (p.names.map V.str)) ∧ (p.kind < 3 → H t = some (.tup [.int p.near, .int p.far]))
theorem PAt.mono {c : Nat → Addr} {H H' : Hp} {a : Addr} {p : PD} (h : PAt c H a p) (s : Same H H') : PAt c H' a p := by
  obtain ⟨dx, n, t, h1, h2, h3⟩ := h
  exact ⟨dx, n, t, s _ _ h1, s _ _ h2, fun k => s _ _ (h3 k)⟩
/-- what the classes of the parts must have -/
structure PC (K : PySem.W.Frag) (c : Nat → Addr) : Prop where
  cls : ∀ k < 6, Cls K (c k)
  n1 : ∀ k < 6, NoAttr K (c k) "_names"
  n2 : ∀ k < 6, NoAttr K (c k) "_teeth"
  n3 : ∀ k < 6, NoAttr K (c k) "_backward"
theorem name_len {z : Str} (h : nameS z = true) : 1 ≤ z.length ∧ z.length ≤ 8 ∧ z.cps.toList.all okc = true := by
  unfold nameS at h
  rw [Bool.and_eq_true, Bool.and_eq_true] at h
  exact ⟨of_decide_eq_true h.1.1, of_decide_eq_true h.1.2, h.2⟩
theorem num_len {i : Int} (h : i.natAbs.log2 < 12900) : (numS i).length ≤ 12901 := by
  unfold numS
  rw [PySem.ofString_length]
  exact int_text_length_le (k := 12900) (by decide) h
theorem kindW_len : ∀ k : Nat, (kindW k).length ≤ 12
  | 0 | 1 | 2 | 3 | 4 => by decide +kernel
  | n + 5 => by
    show (("freewheel" : Str)).length ≤ 12
    decide +kernel
theorem lensK_le : ∀ k : Nat, lensK k ≤ 3
  | 0 | 1 | 2 | 3 | 4 => by decide
  | n + 5 => by
    show 2 ≤ 3
    decide
/-- the length of a list of words -/
def wlen (ws : List Str) : Nat := (ws.map (·.length)).sum
theorem wlen_cons {s : Str} {ws : List Str} : wlen (s :: ws) = s.length + wlen ws := by
  unfold wlen
  rw [List.map_cons, List.sum_cons]
theorem wlen_app : ∀ {a b : List Str}, wlen (a ++ b) = wlen a + wlen b
  | [], b => by
    rw [List.nil_append]
    show _ = 0 + _
    omega
  | x :: a, b => by
    rw [List.cons_append, wlen_cons, wlen_cons, wlen_app]
    omega
theorem wlen_le {m : Nat} : ∀ {ws : List Str}, (∀ s ∈ ws, s.length ≤ m) → wlen ws ≤ ws.length * m
  | [], _ => Nat.zero_le _
  | s :: ws, h => by
    have h1 := h s List.mem_cons_self
    have h2 := wlen_le (ws := ws) fun x hx => h x (List.mem_cons_of_mem _ hx)
    rw [wlen_cons, List.length_cons, Nat.succ_mul]
    omega
theorem PD.Ok.ending_len {p : PD} (h : p.Ok) : p.ending.length ≤ 2 ∧ wlen (p.ending.map toS) ≤ 25802 := by
  unfold PD.ending
  by_cases h3 : p.kind < 3
  · rw [if_pos h3]
    refine ⟨Nat.le_refl 2, ?_⟩
    have h1 := num_len (h.near h3).2
    have h2 := num_len (h.far h3).2
    show wlen [numS p.near, numS p.far] ≤ _
    rw [wlen_cons, wlen_cons]
    show _ + (_ + 0) ≤ _
    omega
  · rw [if_neg h3]
    by_cases h4 : p.kind = 4 ∧ p.back = true
    · rw [if_pos h4]
      refine ⟨by decide, ?_⟩
      show wlen [("backward" : Str)] ≤ _
      have e : wlen [("backward" : Str)] = 8 := by decide +kernel
      omega
    · rw [if_neg h4]
      exact ⟨by decide, Nat.zero_le _⟩
theorem PD.Ok.size {p : PD} (h : p.Ok) : p.words.length ≤ 6 ∧ wlen p.words ≤ 26000 := by
  have e := h.ending_len
  have l := h.len
  have l3 := lensK_le p.kind
  have k := kindW_len p.kind
  have n := wlen_le (m := 8) (ws := p.names) fun s hs => (name_len (h.name s hs)).2.1
  unfold PD.words
  rw [List.length_cons, List.length_append, List.length_map, wlen_cons, wlen_app]
  constructor
  · omega
  · have : p.names.length * 8 ≤ 24 := by omega
    omega
/-! ### ' '.join(..) of words -/
def spWritten (K : PySem.W.Frag) : Sp := fun vs H Q _ => ∃ (k : Str) (n e : Addr) (ns : List Str) (es : List (Str ⊕ Int)), vs = [.str k, .ref n, .ref e] ∧ SqT K H n (ns.map V.str) ∧ SqT K H e (es.map toV) ∧
  ns.length + es.length ≤ 100 ∧ (∀ i, Sum.inr i ∈ es → i.natAbs.log2 < 12900) ∧ wlen (k :: (ns ++ es.map toS)) ≤ 1000000 ∧ ∀ H', Same H H' → Q (.str (Txt.join sp1 (k :: (ns ++ es.map toS)))) H'
theorem map_toV_inl (ns : List Str) : (ns.map (Sum.inl : Str → Str ⊕ Int)).map toV = ns.map V.str := by
  rw [List.map_map]
  rfl
theorem map_toS_inl (ns : List Str) : (ns.map (Sum.inl : Str → Str ⊕ Int)).map toS = ns := by
  rw [List.map_map]
  exact List.map_id ns
section
variable {P : Program} {w : World} {K : PySem.W.Frag} {mg : Str → Option Value} {base : Heap}
end
end Paw

set_option maxRecDepth 100000
set_option maxHeartbeats 8000000
namespace Paw
open PySem PySem.Spec PyProof.Rows L2
/-! ### a word that writes a number -/
def digS : Str := "0123456789"
theorem dig_signs : digS.cps.toList = (List.range 10).map (48 + ·) := by decide +kernel
theorem dig_ok {c : Nat} : (!(Builtin.Str.occurrences digS ⟨#[c]⟩ 0 digS.length 1).isEmpty) = digC c := by
  rw [StrLaws.found_one, dig_signs]
  unfold digC
  by_cases h : 48 ≤ c ∧ c ≤ 57
  · rw [decide_eq_true h.1, decide_eq_true h.2]
    refine decide_eq_true (List.mem_map.mpr ⟨c - 48, List.mem_range.mpr (by omega), by omega⟩)
  · have e : (decide (48 ≤ c) && decide (c ≤ 57)) = false := by
      by_cases h1 : 48 ≤ c
      · rw [decide_eq_false (fun h2 => h ⟨h1, h2⟩), Bool.and_false]
      · rw [decide_eq_false h1, Bool.false_and]
    rw [e]
    refine decide_eq_false (fun z => ?_)
    obtain ⟨k, hk, rfl⟩ := List.mem_map.mp z
    have := List.mem_range.mp hk
    exact h ⟨by omega, by omega⟩
theorem first_sign {z : Str} {c : Nat} {cs : List Nat} (h : z.cps.toList = c :: cs) : z.cps[0]? = some c := by
  rw [← Array.getElem?_toList, h]
  rfl
def spWordIn : Sp := fun vs H Q _ => ∃ w : Str, vs = [.str w] ∧ w.length + 2 ≤ sizeLine ∧ ∀ H', Same H H' → Q (.bl (canonW w)) H'
section
variable {P : Program} {w : World} {K : PySem.W.Frag} {mg : Str → Option Value} {base : Heap}
theorem scWordIn : FnScope ["word", "digits", "sign"] ["word"] (defScope sWordIn) := ⟨rfl, rfl, rfl, by decide +kernel, rfl, by decide +kernel, by decide +kernel⟩
theorem ok_wordin {f : Addr} {fd : FuncData} (F : Fun K "_law_word_in" "_law_word_in" sWordIn f fd)
    
     : FnOk P w K mg base CX0 1 f fd ["word"] spWordIn := by
  refine F.ok scWordIn (fun vs H Q E h => ?_) (fun cdv A outer s H vs Q E hr h => ?_)
  · obtain ⟨z, rfl, _⟩ := h
    rfl
  · obtain ⟨z, rfl, lz, q⟩ := h
    refine ⟨_, (pss_cons (ps_set (i := 1) scWordIn.nd rfl (Or.inl rfl) (pe_and (pe_cmpR (op_eqNil (Nat.lt_of_le_of_lt (Nat.le_add_right _ 64) hr.units)) (pe_lc (own := [("sign", 2)]) (g := gName 2) (tt := tTest (tOp (fun x y H Q => ∃ i j, x = .str i ∧ y = .str j ∧ Q (.bl (!(!(Builtin.Str.occurrences j i 0 j.length 1).isEmpty))) H) (tVar 2) (tC (.str digS)))) (te := tVar 2) rfl scWordIn.nd (pi_str (pv 0)) (blkOk_by (N := ["word", "digits", "sign"]) (sc := defScope sWordIn) (by decide +kernel)) (fun _ _ _ _ _ => pg_name (i := 2) scWordIn.nd rfl (Or.inl rfl)) (fun _ _ _ _ _ => (pts_one (pt_cmpR op_notin_str (pv 2) pe_str (by rfl)))) (fun _ _ _ _ _ => (pv 2))) (pe_lst pa_nil) (nomark _)) (pe_one (pe_cmpR op_ne (pv 0) pe_str (nomark _)))))
      (pss_one (ps_ret (pe_and (pv 1) (pe_one (pe_cmpR op_ne (pe_ix ix_str (pv 0) pe_int (fun _ _ => rfl)) pe_str (nomark _))))))), ?_⟩
    refine ⟨_, rfl, z, rfl, fun D hD => ?_⟩
    refine lc_it (walk_str (z := z)) (fun i H' => Same H H' ∧ ∃ bs : List V, H' D = some (.lst bs) ∧ bs.length ≤ i ∧ bs.isEmpty = (z.cps.toList.take i).all digC) ⟨same_new hD, [], upd_same, Nat.le_refl _, rfl⟩ (fun _ _ _ _ => trivial) ?_ ?_
    · rintro i x H1 H2 hi ⟨s1, bs, hD1, hb1, hb2⟩ ⟨rfl, c, hc, rfl⟩
      have hc' : z.cps.toList[i]? = some c := by rw [Array.getElem?_toList, hc]
      have il : i < z.length := by
        have hzz : z.cps.size = z.length := rfl
        have := (Array.getElem?_eq_some_iff.mp hc).1
        omega
      refine ⟨rfl, _, rfl, _, _, rfl, rfl, _, rfl, ?_⟩
      rw [dig_ok]
      cases k : digC c with
      | true =>
        refine it_f rfl ⟨s1, bs, hD1, by omega, ?_⟩
        rw [take_next hc', List.all_append, hb2]
        simp [k]
      | false =>
        refine it_t rfl ⟨_, rfl, _, hD1, by omega, fun b o e => (upd_ne (ne_of_none e hD)).trans (s1 _ _ e), _, upd_same, by rw [List.length_append]; exact Nat.succ_le_succ hb1, ?_⟩
        rw [take_next hc', List.all_append]
        simp [k]
    · rintro H1 ⟨s1, bs, hD1, hb1, hb2⟩
      rw [List.take_of_length_le (Nat.le_of_eq (Array.length_toList))] at hb2
      refine ⟨(by show 0 ≤ sizeLine; decide), fun N hN => ?_⟩
      have sN := same_new (o := .lst []) hN
      refine ⟨D, N, bs, rfl, rfl, SqL.of (sN _ _ hD1), SqL.of upd_same, ?_⟩
      rw [hb2]
      have sA := s1.trans sN
      have ec : canonW z = (decide (0 < z.length) && z.cps.toList.all digC && decide (z.cps.toList.head? ≠ some 48)) := rfl
      have ln : z.length = z.cps.toList.length := Array.length_toList.symm
      refine ⟨_, rfl, ?_⟩
      cases hz : z.cps.toList with
      | nil =>
        have e0 : z = ("" : Str) := str_ext (by rw [hz]; decide +kernel)
        have l0 : ¬ 0 < z.length := by rw [ln, hz]; decide
        rw [decide_eq_false l0, Bool.false_and, Bool.false_and] at ec
        refine it_t rfl ⟨_, rfl, rfl, _, rfl, _, rfl, it_f (by rw [e0]; decide) ?_⟩
        rw [← ec]
        exact q _ sA
      | cons c cs =>
        have l1 : 0 < z.length := by rw [ln, hz]; exact Nat.succ_pos _
        have ne : ¬ V.str z = V.str "" := fun e => by
          injection e with e
          rw [e] at l1
          exact absurd l1 (by decide)
        rw [decide_eq_true l1, Bool.true_and] at ec
        rw [hz] at ec
        cases hd : (c :: cs).all digC with
        | false =>
          rw [hd, Bool.false_and] at ec
          refine it_f (A := True) rfl ⟨_, rfl, _, rfl, it_f (A := True) rfl ?_⟩
          rw [← ec]
          exact q _ sA
        | true =>
          rw [hd, Bool.true_and] at ec
          refine it_t rfl ⟨_, rfl, rfl, _, rfl, _, rfl, it_t (by rw [decide_eq_false ne]; rfl) ⟨_, rfl, z, 0, c, rfl, rfl, Nat.le_trans (Nat.le_add_right _ 2) lz, by rw [hz]; exact atI_nat (j := 0) rfl, rfl, ?_⟩⟩
          have e1 : (!decide (V.str (⟨#[c]⟩ : Str) = V.str ("0" : Str))) = decide ((c :: cs).head? ≠ some 48) := by
            show _ = decide (some c ≠ some 48)
            have z48 : (("0" : Str)).cps.toList = [48] := by decide +kernel
            by_cases h : c = 48
            · subst h
              have : (⟨#[48]⟩ : Str) = ("0" : Str) := str_ext z48.symm
              rw [this]
              simp
            · have : ¬ V.str (⟨#[c]⟩ : Str) = V.str ("0" : Str) := fun e => by
                injection e with e
                have e := congrArg (fun x : Str => x.cps.toList) e
                rw [z48] at e
                exact h (List.cons.inj e).1
              rw [decide_eq_false this]
              simp [h]
          rw [e1, ← ec]
          exact q _ sA
end
end Paw

set_option maxRecDepth 100000
set_option maxHeartbeats 4000000
namespace Paw
open PySem PySem.Spec PyProof.Rows L2
/-! ### isinstance(e, c), e None or a kept error: what it is first -/
def KeptIs (K : PySem.W.Frag) (H : Hp) (x : V) (cv : Value) (b : Bool) : Prop := (x = .non ∧ PySem.W.kitOne K (.type "NoneType") cv = some b) ∨ ∃ (a C d : Addr) (fs : List (Str × V)), x = .ref a ∧ ExV K C ∧ H a = some (exr a (.ref C) (some d)) ∧ H d = some (.xd fs) ∧ PySem.W.kitOne K (.ref C) cv = some b
theorem KeptIs.none {K : PySem.W.Frag} {H : Hp} {cv : Value} {b : Bool} (h : PySem.W.kitOne K (.type "NoneType") cv = some b) : KeptIs K H .non cv b := .inl ⟨rfl, h⟩
theorem KeptIs.exc {K : PySem.W.Frag} {H : Hp} {cv : Value} {b : Bool} {a C d : Addr} {fs : List (Str × V)} (h1 : H a = some (exr a (.ref C) (some d))) (h2 : H d = some (.xd fs)) (T : ExV K C) (h : PySem.W.kitOne K (.ref C) cv = some b) : KeptIs K H (.ref a) cv b := .inr ⟨a, C, d, fs, rfl, T, h1, h2, h⟩
def rKept2 (K : PySem.W.Frag) : List V → Hp → VK → Prop := fun xs H Q => ∃ (x c : V) (cv : Value) (b : Bool), xs = [x, c] ∧ ClsV c cv ∧ KeptIs K H x cv b ∧ Q (.bl b) H
theorem call_kept2 {X : Cx} : CallR X (.builtin "isinstance") (rKept2 X.K) := by
  intro pins s σ H xs us Q I r h
  obtain ⟨x, c, cv, b, e, hc, hk, q⟩ := h
  exact call_keptIs pins s σ H xs us Q I r ⟨x, c, cv, b, e, hc, q, hk⟩
/-- e.f of a kept error: where it stands first -/
def tExcFld2 (K : PySem.W.Frag) (nm : Str) (te : TE) : TE := fun σ H Q => te σ H fun x H1 => ∃ (a C d : Addr) (fs : List (Str × V)) (v : V), x = .ref a ∧ H1 a = some (exr a (.ref C) (some d)) ∧ H1 d = some (.xd fs) ∧ ExV K C ∧ PySem.W.findIn K (.ref C) nm = some none ∧ fs.lookup nm = some v ∧ Q v H1
theorem pe_excFld2 {X : Cx} {e : Expr} {te : TE} {pos : Pos} {nm : Str} (he : PE X e te) (hb : attributeBase e nm X.env (eval e X.env) = eval e X.env := by rfl) : PE X (.Attribute e nm pos) (tExcFld2 X.K nm te) := by
  constructor
  intro pins s σ H Q I h
  apply attr_of hb
  apply thn (he.run pins s σ H _ I h)
  rintro u s1 ⟨x, H1, I1, rx, a, C, d, fs, v, rfl, ea, ed, T, no, l, q⟩
  cases (show u = Value.ref a from rx)
  obtain ⟨oe, vs, ho, hz, hd⟩ := exr_at I1.hok ea
  obtain ⟨mA, hn, rel⟩ := (show ObjOk X.prog X.w H1 s1.heap d (.xd fs) from I1.hok d _ ed)
  obtain ⟨od, hod, hl⟩ := lookIn_ns hn
  obtain ⟨u, hu, ru⟩ := RelO.some_of (v := v) (o := mA nm) (by rw [← l]; exact rel nm)
  have J : PySem.W.InstAt s1.heap a oe C (some od) := by
    refine ⟨ho, hz.1, ?_, ?_⟩
    · unfold PySem.W.notCls
      rw [hd]
    · rw [hz.2]
      exact hod
  exact HandSPX.exc_get I1.kIn J T.ga T.gg T.oex.exC (PySem.W.findObj_own T.hd no rfl (by rw [hl, hu])) (handed_of ru) ⟨v, H1, I1.tok _, ru, q⟩
/-! ### ==, != of data, by what stands there -/
mutual
theorem RD.dp {K : PySem.W.Frag} {H : Hp} : ∀ (d : PyData) (v : V), d.canLay0 = true → RD K H v d → Dp K H v d
  | .none, _, _, h => by cases h; exact .non
  | .bool b, _, _, h => by cases h; exact .bl b
  | .int i, _, _, h => by cases h; exact .int i
  | .str x, _, _, h => by cases h; exact .str x
  | .list ds, _, c, h => by
    cases h with
    | lst h hs => exact .lst h (RDs.dp ds _ c hs)
  | .tuple ds, _, c, h => by
    cases h with
    | tup h hs => exact .tup h (RDs.dp ds _ c hs)
  | .dict _, _, c, _ => by cases c
theorem RDs.dp {K : PySem.W.Frag} {H : Hp} : ∀ (ds : List PyData) (vs : List V), PyData.canLayAll0 ds = true → RDs K H vs ds → DpAll K H vs ds
  | [], _, _, h => by cases h; exact .nil
  | d :: ds, _, c, h => by
    cases h with
    | cons h1 h2 =>
      have c' : (d.canLay0 && PyData.canLayAll0 ds) = true := c
      rw [Bool.and_eq_true] at c'
      exact .cons (RD.dp d _ c'.1 h1) (RDs.dp ds _ c'.2 h2)
end
def rEqR (K : PySem.W.Frag) : R2 := fun x y H Q => ∃ d e, RD K H x d ∧ RD K H y e ∧ SeqAt.shaped d = true ∧ SeqAt.shaped e = true ∧ Q (.bl (PyData.eqv d e)) H
def rNeR (K : PySem.W.Frag) : R2 := fun x y H Q => ∃ d e, RD K H x d ∧ RD K H y e ∧ SeqAt.shaped d = true ∧ SeqAt.shaped e = true ∧ Q (.bl (!PyData.eqv d e)) H
theorem shaped_lay {d : PyData} (h : SeqAt.shaped d = true) : d.canLay0 = true := by
  unfold SeqAt.shaped at h
  rw [Bool.and_eq_true] at h
  exact h.1
theorem op_eqR {X : Cx} (hu : X.A.units + 64 < cLine) : OpR X (compareOp .Eq) (rEqR X.K) := by
  intro pins s σ H x y v u Q I rx ry h
  obtain ⟨d, e, hd, he, sd, se, q⟩ := h
  exact op_eqD hu pins s σ H x y v u Q I rx ry ⟨d, e, RD.dp d _ (shaped_lay sd) hd, RD.dp e _ (shaped_lay se) he, sd, se, q⟩
theorem op_neR {X : Cx} (hu : X.A.units + 64 < cLine) : OpR X (compareOp .NotEq) (rNeR X.K) := by
  intro pins s σ H x y v u Q I rx ry h
  obtain ⟨d, e, hd, he, sd, se, q⟩ := h
  exact op_neD hu pins s σ H x y v u Q I rx ry ⟨d, e, RD.dp d _ (shaped_lay sd) hd, RD.dp e _ (shaped_lay se) he, sd, se, q⟩
theorem eqv_self {d : PyData} (h : SeqAt.shaped d = true) : PyData.eqv d d = true := SeqAt.eqv_refl d (shaped_lay h)
theorem nev_self {d : PyData} (h : SeqAt.shaped d = true) : (!PyData.eqv d d) = false := by
  rw [eqv_self h]
  rfl
theorem strOk_ascii {z : Str} (h : asciiW z) : PyData.strOk z = true := by
  unfold PyData.strOk
  rw [← Array.all_toList, List.all_eq_true]
  intro c hc
  have := h c hc
  exact decide_eq_true (by omega)
theorem fracL_signs {t b : Int} {c : Nat} (h : c ∈ fracL t b) : c < 128 := by
  unfold fracL at h
  rcases List.mem_append.mp h with h | h
  · rcases numL_signs h with h | h <;> omega
  · split at h
    · cases h
    · rcases List.mem_cons.mp h with h | h
      · omega
      · rcases numL_signs h with h | h <;> omega
theorem fracS_ascii {t b : Int} : asciiW (fracS t b) := fun c hc => fracL_signs (t := t) (b := b) (by rw [← fracS_tl]; exact hc)
theorem shaped_pair {w z : Str} (h : asciiW w) (g : asciiW z) : SeqAt.shaped (.list [.str w, .str z]) = true := by
  unfold SeqAt.shaped
  have e : (PyData.list [.str w, .str z]).canLay0 = (PyData.strOk w && (PyData.strOk z && true)) := rfl
  rw [e, strOk_ascii h, strOk_ascii g]
  rfl
theorem shaped_frac {w : Str} {t b : Int} (h : asciiW w) : SeqAt.shaped (.list [.str w, .tuple [.int t, .int b]]) = true := by
  unfold SeqAt.shaped
  have e : (PyData.list [.str w, .tuple [.int t, .int b]]).canLay0 = (PyData.strOk w && ((true && (true && true)) && true)) := rfl
  rw [e, strOk_ascii h]
  rfl
theorem told_ascii : asciiW "told" := by unfold asciiW; decide +kernel
end Paw

set_option maxRecDepth 100000
set_option maxHeartbeats 4000000
namespace Paw
open PySem PySem.Spec PyProof.Rows L2
/-! ### the program's numbers -/
def spIsFrac (K : PySem.W.Frag) : Sp := fun vs H Q _ => ∃ (x : V) (d : PyData), vs = [x] ∧ RD K H x d ∧ Q (.bl (isF d)) H
def spLowest : Sp := fun vs H Q _ => ∃ t b : Int, vs = [.int t, .int b] ∧ b ≠ 0 ∧ b.natAbs < 2 ^ 8000 ∧ ∀ p, H p = none → Q (.ref p) (upd H p (.tup [.int (low t b).1, .int (low t b).2]))
def spFraction (K : PySem.W.Frag) (C : Addr) : Sp := fun vs H Q E => ∃ (x y : V) (dx dy : PyData), vs = [x, y] ∧ RD K H x dx ∧ RD K H y dy ∧ (isI dx = false → Thrown "value" C x H E) ∧ (isI dx = true → okB dy = false → Thrown "value" C y H E) ∧
  ∀ t b : Int, dx = .int t → dy = .int b → b ≠ 0 → b.natAbs < 2 ^ 8000 ∧ ∀ p, H p = none → Q (.ref p) (upd H p (.tup [.int (low t b).1, .int (low t b).2]))
def spCheck (K : PySem.W.Frag) (C : Addr) : Sp := fun vs H Q E => ∃ (p : Addr) (xs : List V) (ds : List PyData), vs = [.ref p] ∧ SqT K H p xs ∧ RDs K H xs ds ∧ (∀ v, firstBad xs ds = some v → Thrown "value" C v H E) ∧ (firstBad xs ds = none → Q .non H)
section
variable {P : Program} {w : World} {K : PySem.W.Frag} {mg : Str → Option Value} {base : Heap}
theorem scIsFrac : FnScope ["value", "top", "bottom"] ["value"] (defScope sIsFrac) := ⟨rfl, rfl, rfl, by decide +kernel, rfl, by decide +kernel, by decide +kernel⟩
theorem ok_is_fraction {f fI : Addr} {fd fdI : FuncData} (F : Fun K "is_fraction" "is_fraction" sIsFrac f fd) (zs : mg "isinstance" = none) (zt : mg "tuple" = none) (zl : mg "len" = none) (gg : mg "gcd" = some (.builtin "math.gcd"))
    (GI : FnOk P w K mg base CX0 1 fI fdI ["value"] (spIsInt K)) (gI : mg "is_int" = some (.ref fI)) (kI : PySem.W.keepIn K (.ref fI) = true) (bI : Binds K fdI ["value"] []) : FnOk P w K mg base CX0 2 f fd ["value"] (spIsFrac K) := by
  refine F.ok scIsFrac (fun vs H Q E h => ?_) (fun cdv A outer s H vs Q E hr h => ?_)
  · obtain ⟨x, d, rfl, _⟩ := h
    rfl
  · obtain ⟨x, d, rfl, hd, q⟩ := h
    refine ⟨_, pss_cons (ps_if (PW.pt (pw_or (pt_not (pt_val (pe_callB call_isi (by rfl) zs bt_isinstance (pa_cons (pv 0) (pa_cons (pe_bltn (v := .ty "tuple") (by rfl) zt bt_tuple rfl) pa_nil)))))
        (pw_or1 (pt_cmpR op_ne (pe_callB call_len_seq (by rfl) zl bt_len (pa_cons (pv 0) pa_nil)) pe_int (nomark _))))) (pss_one (ps_ret pe_bl)) pss_nil)
      (pss_cons (ps_asg (pv 0) (pg_tup rfl (pgs_cons (pg_name (i := 1) scIsFrac.nd rfl (Or.inl rfl)) (pgs_cons (pg_name (i := 2) scIsFrac.nd rfl (Or.inl rfl)) pgs_nil))))
      (pss_one (ps_ret (pe_and (pe_call GI hr rfl gI kI bI .nil pass0 (pa_cons (pv 1) pa_nil)) (pe_and (pe_call GI hr rfl gI kI bI .nil pass0 (pa_cons (pv 2) pa_nil))
        (pe_and (pe_cmpR op_ge (pv 2) pe_int (nomark _)) (pe_one (pe_cmpR op_eq (pe_callBfun cr_gcd rfl gg (pa_cons (pv 1) (pa_cons (pv 2) pa_nil))) pe_int (nomark _))))))))), ?_⟩
    refine ⟨_, rfl, x, .ty "tuple", _, _, _, rfl, .ty _, hd.ty, kit_tuple d, _, rfl, ?_⟩
    by_cases ht : isT d = true
    · obtain ⟨ds, rfl⟩ : ∃ ds, d = .tuple ds := by
        cases d with
        | tuple ds => exact ⟨ds, rfl⟩
        | _ => cases ht
      obtain ⟨a, xs, rfl, hx, hds⟩ : ∃ a xs, x = .ref a ∧ SqT K H a xs ∧ RDs K H xs ds := by
        cases hd with
        | tup h hs => exact ⟨_, _, rfl, h, hs⟩
      by_cases h2 : ∃ da db, ds = [da, db]
      · obtain ⟨da, db, rfl⟩ := h2
        cases hds with
        | @cons va _ _ _ ha hds =>
          cases hds with
          | @cons vb _ _ _ hb hds =>
            cases hds
            refine ⟨_, rfl, a, _, rfl, .inr hx, rfl, _, rfl, ?_⟩
            refine it_f (by show (!decide (V.int ((2 : Nat) : Int) = V.int 2)) = false; decide +kernel) ?_
            refine ⟨_, rfl, a, _, rfl, hx, rfl, va, _, rfl, vb, _, rfl, rfl, ?_⟩
            refine ⟨_, rfl, va, da, rfl, ha, _, rfl, ?_⟩
            refine ite2 (fun hI => ?_) (fun hI => ?_)
            · refine ⟨_, rfl, vb, db, rfl, hb, _, rfl, ?_⟩
              refine ite2 (fun hJ => ?_) (fun hJ => ?_)
              · obtain ⟨t, rfl⟩ : ∃ t, da = .int t := by
                  cases da with
                  | int t => exact ⟨t, rfl⟩
                  | _ => cases hI
                obtain ⟨n, rfl⟩ : ∃ t, db = .int t := by
                  cases db with
                  | int t => exact ⟨t, rfl⟩
                  | _ => cases hJ
                cases ha
                cases hb
                have e : isF (.tuple [.int t, .int n]) = (decide (1 ≤ n) && decide (gz t n = 1)) := rfl
                rw [e] at q
                refine ⟨_, rfl, _, _, rfl, rfl, _, rfl, ?_⟩
                refine ite2 (fun hg => ?_) (fun hg => ?_)
                · refine ⟨_, rfl, _, rfl, _, _, rfl, rfl, ?_⟩
                  rw [hg, Bool.true_and] at q
                  have e2 : decide (V.int ((Nat.gcd t.natAbs n.natAbs : Nat) : Int) = V.int 1) = decide (gz t n = 1) := by
                    apply decide_eq_decide.mpr
                    unfold gz
                    exact ⟨fun z => by injection z, fun z => by rw [z]⟩
                  rw [e2]
                  exact q
                · rw [show decide (1 ≤ n) = false from Bool.eq_false_iff.mpr hg, Bool.false_and] at q
                  exact q
              · have e : isF (.tuple [da, db]) = false := by
                  cases db <;> first | exact absurd rfl hJ | (cases da <;> rfl)
                rw [e] at q
                exact q
            · have e : isF (.tuple [da, db]) = false := by
                cases da <;> first | exact absurd rfl hI | rfl
              rw [e] at q
              exact q
      · have hlen := hds.length
        have e : isF (.tuple ds) = false := by
          match ds, h2 with
          | [], _ => rfl
          | [_], _ => rfl
          | [da, db], h2 => exact absurd ⟨da, db, rfl⟩ h2
          | _ :: _ :: _ :: _, _ => rfl
        have n2 : xs.length ≠ 2 := by
          rw [hlen]
          intro z
          match ds, h2, z with
          | [da, db], h2, _ => exact h2 ⟨da, db, rfl⟩
        rw [e] at q
        refine ⟨_, rfl, a, _, rfl, .inr hx, rfl, _, rfl, ?_⟩
        refine it_t ?_ q
        have z : ¬ (V.int ((xs.length : Nat) : Int) = V.int 2) := fun z => n2 (by injection z with z; omega)
        simp [z]
    · have e : isF d = false := by cases d <;> first | exact absurd rfl ht | rfl
      have e2 : isT d = false := Bool.eq_false_iff.mpr ht
      rw [e] at q
      rw [e2]
      exact q
theorem scLowest : FnScope ["top", "bottom", "divisor"] ["top", "bottom"] (defScope sLowest) := ⟨rfl, rfl, rfl, by decide +kernel, rfl, by decide +kernel, by decide +kernel⟩
theorem ok_lowest {f : Addr} {fd : FuncData} (F : Fun K "_lowest" "_lowest" sLowest f fd) (gg : mg "gcd" = some (.builtin "math.gcd")) : FnOk P w K mg base CX0 1 f fd ["top", "bottom"] spLowest := by
  refine F.ok scLowest (fun vs H Q E h => ?_) (fun cdv A outer s H vs Q E hr h => ?_)
  · obtain ⟨t, b, rfl, _⟩ := h
    rfl
  · obtain ⟨t, b, rfl, b0, bs, q⟩ := h
    refine ⟨_, pss_cons (ps_set (i := 2) scLowest.nd rfl (Or.inl rfl) (pe_callBfun cr_gcd rfl gg (pa_cons (pv 0) (pa_cons (pv 1) pa_nil))))
      (pss_cons (ps_if (pt_cmpR op_lt (pv 1) pe_int (nomark _)) (pss_one (ps_set (i := 2) scLowest.nd rfl (Or.inl rfl) (pe_un un_neg (pv 2)))) pss_nil)
      (pss_one (ps_ret (pe_tup (pa_cons (pe_op op_fdivZ (pv 0) (pv 2)) (pa_cons (pe_op op_fdivZ (pv 1) (pv 2)) pa_nil)))))), ?_⟩
    refine ⟨_, rfl, _, rfl, _, _, rfl, _, rfl, _, _, rfl, rfl, _, rfl, ?_⟩
    have hs := sg_ne (t := t) b0
    have hz : CDivZ t (sg t b) ∧ CDivZ b (sg t b) := by
      have := sg_le (t := t) b0
      exact ⟨div_any hs (b := 8000) (by omega) (by decide) (by decide), div_any hs (b := 8000) (by omega) (by decide) (by decide)⟩
    refine ite2 (fun h => ?_) (fun h => ?_)
    · have e : sg t b = -(gz t b) := if_pos h
      have d1 := hz.1
      have d2 := hz.2
      unfold low at q
      rw [e] at d1 d2 q
      exact ⟨_, rfl, _, rfl, _, rfl, _, rfl, _, _, rfl, rfl, d1, _, rfl, _, rfl, _, _, rfl, rfl, d2, (by show 2 ≤ sizeLine; decide), q⟩
    · have e : sg t b = gz t b := if_neg h
      have d1 := hz.1
      have d2 := hz.2
      unfold low at q
      rw [e] at d1 d2 q
      exact ⟨_, rfl, _, rfl, _, _, rfl, rfl, d1, _, rfl, _, rfl, _, _, rfl, rfl, d2, (by show 2 ≤ sizeLine; decide), q⟩
theorem scFraction : FnScope ["top", "bottom"] ["top", "bottom"] (defScope sFraction) := ⟨rfl, rfl, rfl, by decide +kernel, rfl, by decide +kernel, by decide +kernel⟩
theorem ok_fraction {C f fI fL : Addr} {fd fdI fdL : FuncData} (F : FunD K "fraction" "fraction" (defArgs sFraction) (defBody sFraction) (defScope sFraction) [.int 1] [] f fd) (T : Kv P w K mg base "NoFraction" "value" C)
    (GI : FnOk P w K mg base CX0 1 fI fdI ["value"] (spIsInt K)) (gI : mg "is_int" = some (.ref fI)) (kI : PySem.W.keepIn K (.ref fI) = true) (bI : Binds K fdI ["value"] [])
    (GL : FnOk P w K mg base CX0 1 fL fdL ["top", "bottom"] spLowest) (gL : mg "_lowest" = some (.ref fL)) (kL : PySem.W.keepIn K (.ref fL) = true) (bL : Binds K fdL ["top", "bottom"] []) : FnOk P w K mg base (L2.CX P w) 3 f fd ["top", "bottom"] (spFraction K C) := by
  refine F.ok scFraction (fun vs H Q E h => ?_) (fun cdv A outer s H vs Q E hr h => ?_)
  · obtain ⟨x, y, dx, dy, rfl, _⟩ := h
    rfl
  · obtain ⟨x, y, dx, dy, rfl, hx, hy, bx, by_, q⟩ := h
    have hr1 := hr.mono (show 1 ≤ 2 by decide)
    refine ⟨_, pss_cons (ps_if (pt_not (pt_val (pe_call GI hr1 rfl gI kI bI .nil pass0 (pa_cons (pv 0) pa_nil)))) (pss_one (ps_throw T hr rfl (takes_of rfl rfl rfl rfl) rfl (pv 0))) pss_nil)
      (pss_cons (ps_if (PW.pt (pw_or (pt_not (pt_val (pe_call GI hr1 rfl gI kI bI .nil pass0 (pa_cons (pv 1) pa_nil)))) (pw_or1 (pt_cmpR op_eq (pv 1) pe_int (nomark _))))) (pss_one (ps_throw T hr rfl (takes_of rfl rfl rfl rfl) rfl (pv 1))) pss_nil)
      (pss_one (ps_ret (pe_call GL hr1 rfl gL kL bL .nil pass0 (pa_cons (pv 0) (pa_cons (pv 1) pa_nil)))))), ?_⟩
    refine ⟨_, rfl, x, dx, rfl, hx, _, rfl, ?_⟩
    cases hI : isI dx with
    | false => exact ⟨_, rfl, one_le, thrown_mk T.v.oex T.no (bx hI)⟩
    | true =>
      refine ⟨_, rfl, y, dy, rfl, hy, _, rfl, ?_⟩
      cases hJ : isI dy with
      | false => exact ⟨_, rfl, one_le, thrown_mk T.v.oex T.no (by_ hI (by cases dy <;> first | rfl | cases hJ))⟩
      | true =>
        obtain ⟨t, rfl⟩ : ∃ t, dx = .int t := by
          cases dx with
          | int t => exact ⟨t, rfl⟩
          | _ => cases hI
        obtain ⟨b, rfl⟩ : ∃ t, dy = .int t := by
          cases dy with
          | int t => exact ⟨t, rfl⟩
          | _ => cases hJ
        cases hx
        cases hy
        refine ⟨_, rfl, rfl, _, rfl, ?_⟩
        by_cases hb : b = 0
        · refine it_t (by rw [hb]; decide) ?_
          exact ⟨_, rfl, one_le, thrown_mk T.v.oex T.no (by_ rfl (by rw [hb]; rfl))⟩
        · refine it_f (decide_eq_false fun z => hb (by injection z)) ?_
          obtain ⟨q1, q2⟩ := q t b rfl rfl hb
          exact ⟨_, rfl, _, rfl, t, b, rfl, hb, q1, q2⟩
theorem scCheck : FnScope ["values", "value"] ["values"] (defScope sCheck) := ⟨rfl, rfl, rfl, by decide +kernel, rfl, by decide +kernel, by decide +kernel⟩
theorem ok_check {C f fI : Addr} {fd fdI : FuncData} (F : Fun K "_check_fractions" "_check_fractions" sCheck f fd) (T : Kv P w K mg base "NoFraction" "value" C)
    (GI : FnOk P w K mg base CX0 2 fI fdI ["value"] (spIsFrac K)) (gI : mg "is_fraction" = some (.ref fI)) (kI : PySem.W.keepIn K (.ref fI) = true) (bI : Binds K fdI ["value"] []) : FnOk P w K mg base (L2.CX P w) 3 f fd ["values"] (spCheck K C) := by
  refine F.okX scCheck (fun vs H Q E h => ?_) (fun cdv A outer s H vs Q E hr h => ?_)
  · obtain ⟨p, xs, ds, rfl, _⟩ := h
    rfl
  · obtain ⟨p, xs, ds, rfl, hS, hds, bad, q⟩ := h
    refine ⟨_, pss_one (ps_for (passes_of rfl) rfl (pi_tup (pv 0)) (pg_name (i := 1) scCheck.nd rfl (Or.inl rfl)) (pss_one (ps_if (pt_not (pt_val (pe_call GI hr rfl gI kI bI .nil pass0 (pa_cons (pv 1) pa_nil)))) (pss_one (ps_throw T hr rfl (takes_of rfl rfl rfl rfl) rfl (pv 1))) pss_nil))), ?_⟩
    have hl := hds.length
    refine ⟨_, rfl, p, rfl, ⟨xs, hS⟩, for_tup (xs := xs) (fun i σ H' => H' = H ∧ (∃ v1 : Option V, σ = [some (.ref p), v1]) ∧ ∀ j d, j < i → ds[j]? = some d → isF d = true) ⟨rfl, ⟨none, rfl⟩, fun _ _ z => absurd z (Nat.not_lt_zero _)⟩ (fun i σ H' _ hP => by rw [hP.1]; exact hS) ?_ ?_⟩
    · rintro i x σ H' hx ⟨rfl, ⟨v1, rfl⟩, ok⟩
      obtain ⟨d, hd, rd⟩ := hds.at_ hx
      refine ⟨_, rfl, x, d, rfl, rd, _, rfl, ?_⟩
      cases hF : isF d with
      | false => exact ⟨_, rfl, one_le, thrown_mk T.v.oex T.no (bad x (firstBad_at ok hl hx hd hF))⟩
      | true =>
        refine ⟨rfl, ⟨some x, rfl⟩, fun j e hj he => ?_⟩
        by_cases z : j = i
        · rw [z, hd] at he
          cases he
          exact hF
        · exact ok j e (by omega) he
    · rintro σ H' ⟨rfl, _, ok⟩
      refine q (firstBad_none (fun j d e => ok j d ?_ e) hl)
      rw [hl]
      exact (List.getElem?_eq_some_iff.mp e).1
end
/-- total, product, from a promise of one step -/
def spSum (K : PySem.W.Frag) (C : Addr) (step : Int → Int → Int → Int → Int × Int) (t0 : Int) : Sp := fun vs H Q E => ∃ ds : List PyData, RDs K H vs ds ∧ vs.length ≤ 4 ∧ (∀ d ∈ ds, szD d) ∧ (∀ v, firstBad vs ds = some v → Thrown "value" C v H E) ∧
  (firstBad vs ds = none → ∀ (q : Addr) (H' : Hp), Same H H' → H q = none → H' q = some (.tup [.int (foldS step ds t0 1).1, .int (foldS step ds t0 1).2]) → Q (.ref q) H')
def spSumIn (K : PySem.W.Frag) (C : Addr) (step : Int → Int → Int → Int → Int × Int) (t0 : Int) : Sp := fun vs H Q E => ∃ (p : Addr) (xs : List V) (ds : List PyData), vs = [.ref p] ∧ H p = some (.tup xs) ∧ RDs K H xs ds ∧ xs.length ≤ 4 ∧ (∀ d ∈ ds, szD d) ∧ (∀ v, firstBad xs ds = some v → Thrown "value" C v H E) ∧
  (firstBad xs ds = none → ∀ (q : Addr) (H' : Hp), Same H H' → H q = none → H' q = some (.tup [.int (foldS step ds t0 1).1, .int (foldS step ds t0 1).2]) → Q (.ref q) H')
def SzN (i : Nat) (t : Int) : Prop := t.natAbs < 2 ^ (1101 * i + 1)
theorem szn_mul {i : Nat} {t m : Int} (h : SzN i t) (g : m.natAbs < 2 ^ 1100) : (t * m).natAbs < 2 ^ (1101 * i + 1101) := by
  have := wide_lt h g
  exact this
theorem szn_step {i : Nat} {a b : Int} (h : a.natAbs < 2 ^ (1101 * i + 1101)) (g : b.natAbs < 2 ^ (1101 * i + 1101)) : SzN (i + 1) (a + b) := by
  have e : (2 : Nat) ^ (1101 * (i + 1) + 1) = 2 ^ (1101 * i + 1101) * 2 := by
    rw [show 1101 * (i + 1) + 1 = 1101 * i + 1101 + 1 by omega, Nat.pow_succ]
  have := Int.natAbs_add_le a b
  unfold SzN
  rw [e]
  omega
theorem szn_up {i : Nat} {a : Int} (h : a.natAbs < 2 ^ (1101 * i + 1101)) : SzN (i + 1) a := by
  have e : (2 : Nat) ^ (1101 * (i + 1) + 1) = 2 ^ (1101 * i + 1101) * 2 := by
    rw [show 1101 * (i + 1) + 1 = 1101 * i + 1101 + 1 by omega, Nat.pow_succ]
  unfold SzN
  rw [e]
  omega
theorem szn_le {i j : Nat} {a : Int} (h : SzN i a) (hj : 1101 * i + 1 ≤ j) : a.natAbs < 2 ^ j := Nat.lt_of_lt_of_le h (Nat.pow_le_pow_right (by decide) hj)
theorem szn_low {i : Nat} {t b : Int} (h : SzN i t) (g : SzN i b) : SzN i (low t b).1 ∧ SzN i (low t b).2 := ⟨Nat.lt_of_le_of_lt low_abs1 h, Nat.lt_of_le_of_lt low_abs2 g⟩
section
variable {P : Program} {w : World} {K : PySem.W.Frag} {mg : Str → Option Value} {base : Heap}
theorem scProduct : FnScope ["fractions", "top", "bottom", "times", "below"] ["fractions"] (defScope sProduct) := ⟨rfl, rfl, rfl, by decide +kernel, rfl, by decide +kernel, by decide +kernel⟩
/-- one fraction of those that are summed up -/
theorem frac_at {H H' : Hp} {xs : List V} {ds : List PyData} {i : Nat} {x : V} (hds : RDs K H xs ds) (s : Same H H') (hb : firstBad xs ds = none) (sm : ∀ d ∈ ds, szD d) (hx : xs[i]? = some x) :
    ∃ (a : Addr) (m c : Int), x = .ref a ∧ SqT K H' a [.int m, .int c] ∧ 1 ≤ c ∧ m.natAbs < 2 ^ 1100 ∧ c.natAbs < 2 ^ 1100 ∧ ds.drop i = .tuple [.int m, .int c] :: ds.drop (i + 1) := by
  obtain ⟨d, hd, rd⟩ := hds.at_ hx
  have hm : d ∈ ds := List.mem_of_getElem? hd
  obtain ⟨m, c, rfl, c1, _⟩ := isF_shape (firstBad_all hds.length hb d hm)
  cases rd with
  | @tup a ys _ h hs =>
    have e : ys = [.int m, .int c] := by
      cases hs with
      | cons h1 hs =>
        cases hs with
        | cons h2 hs =>
          cases hs
          cases h1
          cases h2
          rfl
    subst e
    have z := sm _ hm
    refine ⟨a, m, c, rfl, sqt_mono s h, c1, z.1, z.2, ?_⟩
    obtain ⟨hi, e⟩ := List.getElem?_eq_some_iff.mp hd
    rw [List.drop_eq_getElem_cons hi, e]
theorem ok_productIn {C f fC fL : Addr} {fdC fdL : FuncData} {cdv : Value} {k : Nat}
    (GC : FnOk P w K mg base (L2.CX P w) 3 fC fdC ["values"] (spCheck K C)) (gC : mg "_check_fractions" = some (.ref fC)) (kC : PySem.W.keepIn K (.ref fC) = true) (bC : Binds K fdC ["values"] [])
    (GL : FnOk P w K mg base CX0 1 fL fdL ["top", "bottom"] spLowest) (gL : mg "_lowest" = some (.ref fL)) (kL : PySem.W.keepIn K (.ref fL) = true) (bL : Binds K fdL ["top", "bottom"] []) :
    ∀ (A : Around) (outer : List Env) (s : Shared) (H : Hp) (vs : List V) (Q : VK) (E : XK), Room 3 (A.deeper (envOfC "product" (defScope sProduct) s.heap.objs.size f cdv)) → spSumIn K C stepP 1 vs H Q E →
      ∃ t, PSs (cxOf (L2.CX P w) P w K mg base ["fractions", "top", "bottom", "times", "below"] "product" (defScope sProduct) f cdv A outer s H E) (defBody sProduct) t ∧ t { nx := fun _ H' => Q .non H', rt := Q } (start ["fractions", "top", "bottom", "times", "below"] vs) H := by
  rintro A outer s H vs Q E hr ⟨p, xs, ds, rfl, hp, hds, many, sm, bad, q⟩
  have hr1 := hr.mono (show 1 ≤ 3 by decide)
  refine ⟨_, pss_cons (ps_expr (pe_callS GC hr rfl gC kC bC (fun σ => passAt (takes_of rfl rfl rfl rfl) σ) (pa_cons (pv 0) pa_nil)))
    (pss_cons (ps_asg (pe_tup (pa_cons pe_int (pa_cons pe_int pa_nil))) (pg_tup rfl (pgs_cons (pg_name (i := 1) scProduct.nd rfl (Or.inl rfl)) (pgs_cons (pg_name (i := 2) scProduct.nd rfl (Or.inl rfl)) pgs_nil))))
    (pss_cons (ps_for (passes_of rfl) rfl (pi_tup (pv 0)) (pg_tup rfl (pgs_cons (pg_name (i := 3) scProduct.nd rfl (Or.inl rfl)) (pgs_cons (pg_name (i := 4) scProduct.nd rfl (Or.inl rfl)) pgs_nil)))
      (pss_one (ps_asg (pe_call GL hr1 rfl gL kL bL .nil pass0 (pa_cons (pe_op op_mulW (pv 1) (pv 3)) (pa_cons (pe_op op_mulW (pv 2) (pv 4)) pa_nil)))
        (pg_tup rfl (pgs_cons (pg_name (i := 1) scProduct.nd rfl (Or.inl rfl)) (pgs_cons (pg_name (i := 2) scProduct.nd rfl (Or.inl rfl)) pgs_nil))))))
    (pss_one (ps_ret (pe_tup (pa_cons (pv 1) (pa_cons (pv 2) pa_nil))))))), ?_⟩
  refine ⟨_, rfl, p, xs, ds, rfl, SqT.of hp, hds, bad, fun hb => ?_⟩
  have qq := q hb
  refine ⟨(by show 2 ≤ sizeLine; decide), fun t0 ht0 => ⟨t0, _, rfl, SqT.of upd_same, rfl, _, _, rfl, _, _, rfl, rfl, _, rfl, p, rfl, ⟨xs, sqt_mono (same_new ht0) (SqT.of hp)⟩, for_tup (xs := xs) (fun i σ H' => ∃ (t b : Int) (v3 v4 : Option V), σ = [some (.ref p), some (.int t), some (.int b), v3, v4] ∧ Same H H' ∧ b ≠ 0 ∧ SzN i t ∧ SzN i b ∧ foldS stepP ds 1 1 = foldS stepP (ds.drop i) t b)
    ⟨1, 1, none, none, rfl, same_new ht0, by decide, by unfold SzN; decide, by unfold SzN; decide, rfl⟩ (fun i σ H' _ hP => ?_) ?_ ?_⟩⟩
  · obtain ⟨_, _, _, _, _, s', _⟩ := hP
    exact sqt_mono s' (SqT.of hp)
  · rintro i x σ H' hx ⟨t, b, v3, v4, rfl, s', b0, zt, zb, e⟩
    obtain ⟨a, m, c, rfl, ha, c1, zm, zc, ed⟩ := frac_at hds s' hb sm hx
    have hi : i < 4 := Nat.lt_of_lt_of_le (List.getElem?_eq_some_iff.mp hx).1 many
    have st : t.natAbs < 2 ^ 4500 := szn_le zt (by omega)
    have sb : b.natAbs < 2 ^ 4500 := szn_le zb (by omega)
    have nb : b * c ≠ 0 := Int.mul_ne_zero b0 (by omega)
    have zb2 : SzN (i + 1) (b * c) := szn_up (szn_mul zb zc)
    have zt2 : SzN (i + 1) (t * m) := szn_up (szn_mul zt zm)
    have zl := szn_low zt2 zb2
    have bc : CMulW b c := wide_mul sb zc (by decide) (by decide) (by decide)
    have tm : CMulW t m := wide_mul st zm (by decide) (by decide) (by decide)
    have fold : foldS stepP ds 1 1 = foldS stepP (ds.drop (i + 1)) (low (t * m) (b * c)).1 (low (t * m) (b * c)).2 := by
      rw [e, ed]
      rfl
    refine ⟨a, _, rfl, ha, rfl, _, _, rfl, _, _, rfl, rfl, ?_⟩
    refine ⟨_, rfl, _, rfl, _, _, rfl, rfl, tm, _, rfl, _, rfl, _, _, rfl, rfl, bc, t * m, b * c, rfl, nb, szn_le zb2 (by omega), fun q1 hq1 => ?_⟩
    exact ⟨q1, _, rfl, SqT.of upd_same, rfl, _, _, rfl, _, _, rfl, rfl, _, _, _, _, rfl, s'.trans (same_new hq1), low_ne nb, zl.1, zl.2, fold⟩
  · rintro σ H' ⟨t, b, v3, v4, rfl, s', b0, zt, zb, e⟩
    have e2 : foldS stepP ds 1 1 = (t, b) := by
      rw [e, List.drop_eq_nil_of_le (Nat.le_of_eq hds.length.symm)]
      rfl
    refine ⟨_, rfl, _, rfl, (by show 2 ≤ sizeLine; decide), fun q1 hq1 => qq q1 _ (s'.trans (same_new hq1)) (s'.free hq1) ?_⟩
    rw [e2]
    exact upd_same
theorem sum_in {C : Addr} {step : Int → Int → Int → Int → Int × Int} {t0 : Int} : ∀ vs H Q E, spSum K C step t0 vs H Q E → ∃ ws rest, vs = ws ++ rest ∧ ws.length = ([] : List Str).length ∧ rest.length ≤ sizeLine ∧ ∀ p, H p = none → spSumIn K C step t0 (ws ++ [V.ref p]) (upd H p (.tup rest)) Q E := by
  rintro vs H Q E ⟨ds, hds, many, sm, bad, q⟩
  refine ⟨[], vs, rfl, rfl, Nat.le_trans many (by decide), fun p hp => ?_⟩
  have s := same_new (o := .tup vs) hp
  exact ⟨p, vs, ds, rfl, upd_same, RDs.mono s ds vs hds, many, sm, fun v hv => (bad v hv).mono s, fun hb q1 H' s' h1 h2 => q hb q1 H' (s.trans s') (s.free h1) h2⟩
theorem ok_product {C f fC fL : Addr} {fd fdC fdL : FuncData} (F : Fun K "product" "product" sProduct f fd)
    (GC : FnOk P w K mg base (L2.CX P w) 3 fC fdC ["values"] (spCheck K C)) (gC : mg "_check_fractions" = some (.ref fC)) (kC : PySem.W.keepIn K (.ref fC) = true) (bC : Binds K fdC ["values"] [])
    (GL : FnOk P w K mg base CX0 1 fL fdL ["top", "bottom"] spLowest) (gL : mg "_lowest" = some (.ref fL)) (kL : PySem.W.keepIn K (.ref fL) = true) (bL : Binds K fdL ["top", "bottom"] []) : FnR P w K mg base (L2.CX P w) 4 f (spSum K C stepP 1) := by
  obtain ⟨oc, od, kV, doc, pm, an, cdv, ct, osl, rfl, lk, hcd⟩ := F.ex
  refine FnR.weaken (StX.fn_star (ps := []) (pv := "fractions") (sp := spSumIn K C stepP 1) lk hcd scProduct StX.cxUp (fun us rest hl => ?_) (ok_productIn (k := 3) GC gC kC bC GL gL kL bL)) sum_in
  match us, rest, hl with
  | [], [], _ => rfl
  | [], _ :: _, _ => rfl
end
end Paw

set_option maxRecDepth 100000
set_option maxHeartbeats 4000000
namespace Paw
open PySem PySem.Spec PyProof.Rows L2
/-! ### the product of at most two great fractions -/
def szG : PyData → Prop
  | .tuple [.int t, .int b] => t.natAbs < 2 ^ 3600 ∧ b.natAbs < 2 ^ 3600
  | _ => True
def spSumG (K : PySem.W.Frag) (C : Addr) (step : Int → Int → Int → Int → Int × Int) (t0 : Int) : Sp := fun vs H Q E => ∃ ds : List PyData, RDs K H vs ds ∧ vs.length ≤ 2 ∧ (∀ d ∈ ds, szG d) ∧ (∀ v, firstBad vs ds = some v → Thrown "value" C v H E) ∧
  (firstBad vs ds = none → ∀ (q : Addr) (H' : Hp), Same H H' → H q = none → H' q = some (.tup [.int (foldS step ds t0 1).1, .int (foldS step ds t0 1).2]) → Q (.ref q) H')
def spSumGi (K : PySem.W.Frag) (C : Addr) (step : Int → Int → Int → Int → Int × Int) (t0 : Int) : Sp := fun vs H Q E => ∃ (p : Addr) (xs : List V) (ds : List PyData), vs = [.ref p] ∧ H p = some (.tup xs) ∧ RDs K H xs ds ∧ xs.length ≤ 2 ∧ (∀ d ∈ ds, szG d) ∧ (∀ v, firstBad xs ds = some v → Thrown "value" C v H E) ∧
  (firstBad xs ds = none → ∀ (q : Addr) (H' : Hp), Same H H' → H q = none → H' q = some (.tup [.int (foldS step ds t0 1).1, .int (foldS step ds t0 1).2]) → Q (.ref q) H')
def SzG (i : Nat) (t : Int) : Prop := t.natAbs < 2 ^ (3601 * i + 1)
theorem szg_mul {i : Nat} {t m : Int} (h : SzG i t) (g : m.natAbs < 2 ^ 3600) : (t * m).natAbs < 2 ^ (3601 * i + 3601) := by
  have := wide_lt h g
  exact this
theorem szg_step {i : Nat} {a b : Int} (h : a.natAbs < 2 ^ (3601 * i + 3601)) (g : b.natAbs < 2 ^ (3601 * i + 3601)) : SzG (i + 1) (a + b) := by
  have e : (2 : Nat) ^ (3601 * (i + 1) + 1) = 2 ^ (3601 * i + 3601) * 2 := by
    rw [show 3601 * (i + 1) + 1 = 3601 * i + 3601 + 1 by omega, Nat.pow_succ]
  have := Int.natAbs_add_le a b
  unfold SzG
  rw [e]
  omega
theorem szg_up {i : Nat} {a : Int} (h : a.natAbs < 2 ^ (3601 * i + 3601)) : SzG (i + 1) a := by
  have e : (2 : Nat) ^ (3601 * (i + 1) + 1) = 2 ^ (3601 * i + 3601) * 2 := by
    rw [show 3601 * (i + 1) + 1 = 3601 * i + 3601 + 1 by omega, Nat.pow_succ]
  unfold SzG
  rw [e]
  omega
theorem szg_le {i j : Nat} {a : Int} (h : SzG i a) (hj : 3601 * i + 1 ≤ j) : a.natAbs < 2 ^ j := Nat.lt_of_lt_of_le h (Nat.pow_le_pow_right (by decide) hj)
theorem szg_low {i : Nat} {t b : Int} (h : SzG i t) (g : SzG i b) : SzG i (low t b).1 ∧ SzG i (low t b).2 := ⟨Nat.lt_of_le_of_lt low_abs1 h, Nat.lt_of_le_of_lt low_abs2 g⟩
section
variable {P : Program} {w : World} {K : PySem.W.Frag} {mg : Str → Option Value} {base : Heap}
theorem frac_atG {H H' : Hp} {xs : List V} {ds : List PyData} {i : Nat} {x : V} (hds : RDs K H xs ds) (s : Same H H') (hb : firstBad xs ds = none) (sm : ∀ d ∈ ds, szG d) (hx : xs[i]? = some x) :
    ∃ (a : Addr) (m c : Int), x = .ref a ∧ SqT K H' a [.int m, .int c] ∧ 1 ≤ c ∧ m.natAbs < 2 ^ 3600 ∧ c.natAbs < 2 ^ 3600 ∧ ds.drop i = .tuple [.int m, .int c] :: ds.drop (i + 1) := by
  obtain ⟨d, hd, rd⟩ := hds.at_ hx
  have hm : d ∈ ds := List.mem_of_getElem? hd
  obtain ⟨m, c, rfl, c1, _⟩ := isF_shape (firstBad_all hds.length hb d hm)
  cases rd with
  | @tup a ys _ h hs =>
    have e : ys = [.int m, .int c] := by
      cases hs with
      | cons h1 hs =>
        cases hs with
        | cons h2 hs =>
          cases hs
          cases h1
          cases h2
          rfl
    subst e
    have z := sm _ hm
    refine ⟨a, m, c, rfl, sqt_mono s h, c1, z.1, z.2, ?_⟩
    obtain ⟨hi, e⟩ := List.getElem?_eq_some_iff.mp hd
    rw [List.drop_eq_getElem_cons hi, e]
theorem ok_productGi {C f fC fL : Addr} {fdC fdL : FuncData} {cdv : Value} {k : Nat}
    (GC : FnOk P w K mg base (L2.CX P w) 3 fC fdC ["values"] (spCheck K C)) (gC : mg "_check_fractions" = some (.ref fC)) (kC : PySem.W.keepIn K (.ref fC) = true) (bC : Binds K fdC ["values"] [])
    (GL : FnOk P w K mg base CX0 1 fL fdL ["top", "bottom"] spLowest) (gL : mg "_lowest" = some (.ref fL)) (kL : PySem.W.keepIn K (.ref fL) = true) (bL : Binds K fdL ["top", "bottom"] []) :
    ∀ (A : Around) (outer : List Env) (s : Shared) (H : Hp) (vs : List V) (Q : VK) (E : XK), Room 3 (A.deeper (envOfC "product" (defScope sProduct) s.heap.objs.size f cdv)) → spSumGi K C stepP 1 vs H Q E →
      ∃ t, PSs (cxOf (L2.CX P w) P w K mg base ["fractions", "top", "bottom", "times", "below"] "product" (defScope sProduct) f cdv A outer s H E) (defBody sProduct) t ∧ t { nx := fun _ H' => Q .non H', rt := Q } (start ["fractions", "top", "bottom", "times", "below"] vs) H := by
  rintro A outer s H vs Q E hr ⟨p, xs, ds, rfl, hp, hds, many, sm, bad, q⟩
  have hr1 := hr.mono (show 1 ≤ 3 by decide)
  refine ⟨_, pss_cons (ps_expr (pe_callS GC hr rfl gC kC bC (fun σ => passAt (takes_of rfl rfl rfl rfl) σ) (pa_cons (pv 0) pa_nil)))
    (pss_cons (ps_asg (pe_tup (pa_cons pe_int (pa_cons pe_int pa_nil))) (pg_tup rfl (pgs_cons (pg_name (i := 1) scProduct.nd rfl (Or.inl rfl)) (pgs_cons (pg_name (i := 2) scProduct.nd rfl (Or.inl rfl)) pgs_nil))))
    (pss_cons (ps_for (passes_of rfl) rfl (pi_tup (pv 0)) (pg_tup rfl (pgs_cons (pg_name (i := 3) scProduct.nd rfl (Or.inl rfl)) (pgs_cons (pg_name (i := 4) scProduct.nd rfl (Or.inl rfl)) pgs_nil)))
      (pss_one (ps_asg (pe_call GL hr1 rfl gL kL bL .nil pass0 (pa_cons (pe_op op_mulW (pv 1) (pv 3)) (pa_cons (pe_op op_mulW (pv 2) (pv 4)) pa_nil)))
        (pg_tup rfl (pgs_cons (pg_name (i := 1) scProduct.nd rfl (Or.inl rfl)) (pgs_cons (pg_name (i := 2) scProduct.nd rfl (Or.inl rfl)) pgs_nil))))))
    (pss_one (ps_ret (pe_tup (pa_cons (pv 1) (pa_cons (pv 2) pa_nil))))))), ?_⟩
  refine ⟨_, rfl, p, xs, ds, rfl, SqT.of hp, hds, bad, fun hb => ?_⟩
  have qq := q hb
  refine ⟨(by show 2 ≤ sizeLine; decide), fun t0 ht0 => ⟨t0, _, rfl, SqT.of upd_same, rfl, _, _, rfl, _, _, rfl, rfl, _, rfl, p, rfl, ⟨xs, sqt_mono (same_new ht0) (SqT.of hp)⟩, for_tup (xs := xs) (fun i σ H' => ∃ (t b : Int) (v3 v4 : Option V), σ = [some (.ref p), some (.int t), some (.int b), v3, v4] ∧ Same H H' ∧ b ≠ 0 ∧ SzG i t ∧ SzG i b ∧ foldS stepP ds 1 1 = foldS stepP (ds.drop i) t b)
    ⟨1, 1, none, none, rfl, same_new ht0, by decide, by unfold SzG; decide, by unfold SzG; decide, rfl⟩ (fun i σ H' _ hP => ?_) ?_ ?_⟩⟩
  · obtain ⟨_, _, _, _, _, s', _⟩ := hP
    exact sqt_mono s' (SqT.of hp)
  · rintro i x σ H' hx ⟨t, b, v3, v4, rfl, s', b0, zt, zb, e⟩
    obtain ⟨a, m, c, rfl, ha, c1, zm, zc, ed⟩ := frac_atG hds s' hb sm hx
    have hi : i < 2 := Nat.lt_of_lt_of_le (List.getElem?_eq_some_iff.mp hx).1 many
    have st : t.natAbs < 2 ^ 3700 := szg_le zt (by omega)
    have sb : b.natAbs < 2 ^ 3700 := szg_le zb (by omega)
    have nb : b * c ≠ 0 := Int.mul_ne_zero b0 (by omega)
    have zb2 : SzG (i + 1) (b * c) := szg_up (szg_mul zb zc)
    have zt2 : SzG (i + 1) (t * m) := szg_up (szg_mul zt zm)
    have zl := szg_low zt2 zb2
    have bc : CMulW b c := wide_mul sb zc (by decide) (by decide) (by decide)
    have tm : CMulW t m := wide_mul st zm (by decide) (by decide) (by decide)
    have fold : foldS stepP ds 1 1 = foldS stepP (ds.drop (i + 1)) (low (t * m) (b * c)).1 (low (t * m) (b * c)).2 := by
      rw [e, ed]
      rfl
    refine ⟨a, _, rfl, ha, rfl, _, _, rfl, _, _, rfl, rfl, ?_⟩
    refine ⟨_, rfl, _, rfl, _, _, rfl, rfl, tm, _, rfl, _, rfl, _, _, rfl, rfl, bc, t * m, b * c, rfl, nb, szg_le zb2 (by omega), fun q1 hq1 => ?_⟩
    exact ⟨q1, _, rfl, SqT.of upd_same, rfl, _, _, rfl, _, _, rfl, rfl, _, _, _, _, rfl, s'.trans (same_new hq1), low_ne nb, zl.1, zl.2, fold⟩
  · rintro σ H' ⟨t, b, v3, v4, rfl, s', b0, zt, zb, e⟩
    have e2 : foldS stepP ds 1 1 = (t, b) := by
      rw [e, List.drop_eq_nil_of_le (Nat.le_of_eq hds.length.symm)]
      rfl
    refine ⟨_, rfl, _, rfl, (by show 2 ≤ sizeLine; decide), fun q1 hq1 => qq q1 _ (s'.trans (same_new hq1)) (s'.free hq1) ?_⟩
    rw [e2]
    exact upd_same
theorem sumG_in {C : Addr} {step : Int → Int → Int → Int → Int × Int} {t0 : Int} : ∀ vs H Q E, spSumG K C step t0 vs H Q E → ∃ ws rest, vs = ws ++ rest ∧ ws.length = ([] : List Str).length ∧ rest.length ≤ sizeLine ∧ ∀ p, H p = none → spSumGi K C step t0 (ws ++ [V.ref p]) (upd H p (.tup rest)) Q E := by
  rintro vs H Q E ⟨ds, hds, many, sm, bad, q⟩
  refine ⟨[], vs, rfl, rfl, Nat.le_trans many (by decide), fun p hp => ?_⟩
  have s := same_new (o := .tup vs) hp
  exact ⟨p, vs, ds, rfl, upd_same, RDs.mono s ds vs hds, many, sm, fun v hv => (bad v hv).mono s, fun hb q1 H' s' h1 h2 => q hb q1 H' (s.trans s') (s.free h1) h2⟩
theorem ok_productG {C f fC fL : Addr} {fd fdC fdL : FuncData} (F : Fun K "product" "product" sProduct f fd)
    (GC : FnOk P w K mg base (L2.CX P w) 3 fC fdC ["values"] (spCheck K C)) (gC : mg "_check_fractions" = some (.ref fC)) (kC : PySem.W.keepIn K (.ref fC) = true) (bC : Binds K fdC ["values"] [])
    (GL : FnOk P w K mg base CX0 1 fL fdL ["top", "bottom"] spLowest) (gL : mg "_lowest" = some (.ref fL)) (kL : PySem.W.keepIn K (.ref fL) = true) (bL : Binds K fdL ["top", "bottom"] []) : FnR P w K mg base (L2.CX P w) 4 f (spSumG K C stepP 1) := by
  obtain ⟨oc, od, kV, doc, pm, an, cdv, ct, osl, rfl, lk, hcd⟩ := F.ex
  refine FnR.weaken (StX.fn_star (ps := []) (pv := "fractions") (sp := spSumGi K C stepP 1) lk hcd scProduct StX.cxUp (fun us rest hl => ?_) (ok_productGi (k := 3) GC gC kC bC GL gL kL bL)) sumG_in
  match us, rest, hl with
  | [], [], _ => rfl
  | [], _ :: _, _ => rfl
end
end Paw

set_option maxRecDepth 100000
set_option maxHeartbeats 4000000
namespace Paw
open PySem PySem.Spec PyProof.Rows L2 PySem.NumText
local macro_rules | `(tactic| walk_at "ne") => `(tactic| first | assumption | exact Ne.symm (by assumption) | exact ne_of_none (by assumption) (by assumption) | exact (ne_of_none (by assumption) (by assumption)).symm | exact (fresh (by assumption)).1 | exact (fresh (by assumption)).1.symm | exact (fresh (fresh (by assumption)).2).1 | exact (fresh (fresh (by assumption)).2).1.symm | exact (fresh (fresh (fresh (by assumption)).2).2).1.symm)
local macro_rules | `(tactic| walk_at "hp") => `(tactic| first | with_reducible assumption | with_reducible exact upd_same | ((with_reducible refine Eq.trans (upd_ne (by walk_at "ne")) ?_); walk_at "hp") | ((with_reducible refine Same.at (by assumption) ?_); walk_at "hp"))
local macro_rules | `(tactic| walk_at "g2") => `(tactic| first | ((with_reducible show _ = some _); walk_at "hp") | ((with_reducible apply SqT.of); walk_at "hp") | ((with_reducible apply SqL.of); walk_at "hp") | ((with_reducible show SqT _ _ _ _); first | assumption | exact sqt_mono (same_new (by assumption)) (by assumption)) | ((with_reducible show SqL _ _ _ _); first | assumption | exact Same.seq (same_new (by assumption)) (by assumption)) | ((with_reducible show (SqL _ _ _ _ ∨ SqT _ _ _ _)); first | exact Or.inl (SqL.of (by walk_at "hp")) | exact Or.inr (SqT.of (by walk_at "hp")) | exact Or.inl (by assumption) | exact Or.inr (by assumption)) | ((with_reducible show tyV _ _ _ _); first | exact rfl | exact Or.inl ⟨rfl, _, SqL.of (by walk_at "hp")⟩) | ((with_reducible apply RD.tupH); (walk_at "hp"); walk_at "rds") | ((with_reducible apply RD.lstH); (walk_at "hp"); walk_at "rds") | ((with_reducible show TruV _ _ _ _); exact rfl) | with_reducible exact RD.int _ | with_reducible exact RD.str _ | with_reducible exact RD.bl _ | with_reducible exact RD.non | with_reducible exact ClsV.ty _ | with_reducible exact ClsV.own _ | ((with_reducible show ExV _ _); assumption) | ((with_reducible show KeptIs _ _ _ _ _); first | exact KeptIs.none (by assumption) | exact KeptIs.exc (by walk_at "hp") (by walk_at "hp") (by assumption) (by assumption)) | ((with_reducible show TyX _ _ _ _); exact RD.ty (by assumption)))
local macro_rules | `(tactic| walk_at "rds") => `(tactic| repeat' (first | with_reducible exact RDs.nil | with_reducible apply RDs.cons | with_reducible assumption | walk_at "g2"))
local macro_rules | `(tactic| walk_at "g1") => `(tactic| (fail_if_success (with_reducible refine it_t ?_ ?_)); first | (with_reducible rfl) | ((with_reducible show (_ : Prop)); with_reducible assumption) | with_reducible exact trivial | with_reducible exact upd_same | walk_at "g2" | ((with_reducible show _ = _); (fail_if_success (with_reducible show PySem.intText? _ = _)); law_purse 4000 => exact rfl) | ((with_reducible show _ ≤ _); first | law_purse 300 => exact Nat.le_of_ble_eq_true rfl | decide +kernel) | ((with_reducible show _ < _); first | decide +kernel | law_purse 500 => decide) | ((with_reducible show _ ≠ _); law_purse 500 => decide) | ((with_reducible show _ = _); law_purse 500 => first | assumption | decide) | law_purse 2000 => ((fail_if_success (show (∃ W : Nat → Nat → L2.St → Hp → Prop, _))); (fail_if_success (show (∃ W : Nat → Nat → Hp → Prop, _))); apply Exists.intro) | law_purse 1000 => apply And.intro | (law_purse 1000 => ((apply Or.inl); (apply Exists.intro); (apply And.intro); (with_reducible rfl))) | (law_purse 1000 => ((apply Or.inr); (apply Exists.intro); (apply And.intro); (with_reducible rfl))))
local macro_rules | `(tactic| walk_at "go") => `(tactic| repeat' (walk_at "g1"))
local macro_rules | `(tactic| walk_at "yes") => `(tactic| ((with_reducible apply it_t); first | exact rfl | exact decide_eq_true rfl))
local macro_rules | `(tactic| walk_at "no") => `(tactic| ((with_reducible apply it_f); first | exact rfl | (refine decide_eq_false fun e => ?_; injection e with e; simp at e; done)))
/-! ### fractions as texts: the program -/
def spFText (K : PySem.W.Frag) (C : Addr) : Sp := fun vs H Q E => ∃ (x : V) (d : PyData), vs = [x] ∧ RD K H x d ∧ (isF d = false → Thrown "value" C x H E) ∧
  ∀ t b : Int, d = .tuple [.int t, .int b] → IsFr t b → t.natAbs.log2 < 12900 ∧ (b ≠ 1 → t.natAbs.log2 < 1920 ∧ b.natAbs.log2 < 1920) ∧ Q (.str (fracS t b)) H
def spFON : Sp := fun vs H Q _ => ∃ z : Str, vs = [.str z] ∧ TxtOk z ∧ (readL (TL.tl z) = none → ∀ H', Same H H' → Q .non H') ∧
  ∀ t b : Int, readL (TL.tl z) = some (t, b) → ∀ (r : Addr) (H' : Hp), Same H H' → H r = none → H' r = some (.tup [.int t, .int b]) → Q (.ref r) H'
def spRFrac (K : PySem.W.Frag) (C : Addr) : Sp := fun vs H Q E => ∃ (x : V) (d : PyData), vs = [x] ∧ RD K H x d ∧ (∀ z, d = .str z → TxtOk z) ∧ (readD0 d = none → Thrown "value" C x H E) ∧
  ∀ t b : Int, readD0 d = some (t, b) → ∀ (r : Addr) (H' : Hp), Same H H' → H r = none → H' r = some (.tup [.int t, .int b]) → Q (.ref r) H'
section
variable {P : Program} {w : World} {K : PySem.W.Frag} {mg : Str → Option Value} {base : Heap}
theorem noI {t : Int} {X : Prop} : isI (.int t) = false → X := fun h => by cases h
theorem noB {t b : Int} {X : Prop} (b0 : b ≠ 0) : isI (.int t) = true → okB (.int b) = false → X := fun _ h => absurd (show (!decide (b = 0)) = false from h) (by simp [b0])
theorem int2 {X : Int → Int → Prop} {t b : Int} (h : X t b) : ∀ t' b' : Int, PyData.int t = .int t' → PyData.int b = .int b' → b' ≠ 0 → X t' b' := fun t' b' e1 e2 _ => by
  injection e1 with e1
  injection e2 with e2
  subst e1
  subst e2
  exact h
theorem fr_isF {t b : Int} (h : IsFr t b) : isF (.tuple [.int t, .int b]) = true := by
  show (decide (1 ≤ b) && decide (gz t b = 1)) = true
  rw [decide_eq_true h.pos, decide_eq_true h.low_]
  rfl
theorem fr_low {t b : Int} (h : b ≠ 0) : IsFr (low t b).1 (low t b).2 := ⟨(gz_low h).2, (gz_low h).1⟩
theorem scFText : FnScope ["value", "top", "bottom"] ["value"] (defScope sFText) := ⟨rfl, rfl, rfl, by decide +kernel, rfl, by decide +kernel, by decide +kernel⟩
theorem fr_le {a b : Int} {n : Nat} (h : (a.natAbs).log2 < n) (hn : n ≤ 12900) : (numS a).length ≤ 12901 := num_len (by omega)
theorem ok_ftext {C f : Addr} {fd : FuncData} (F : Fun K "fraction_text" "fraction_text" sFText f fd) (TF : Kv P w K mg base "NoFraction" "value" C)
    (dIsF : Df P w K mg base CX0 2 "is_fraction" (spIsFrac K)) (zx : mg "str" = none) (n0 : PySem.W.nsIn K cStatics "sys.int_max_str_digits" = some none) : FnOk P w K mg base (_root_.L2.CX P w) 3 f fd ["value"] (spFText K C) := by
  refine F.okX scFText (fun vs H Q E h => ?_) (fun cdv A outer s H vs Q E hr h => ?_)
  · obtain ⟨x, d, rfl, _⟩ := h
    rfl
  · obtain ⟨x, d, rfl, hd, bad, q⟩ := h
    refine ⟨_, (pss_cons (ps_if (pt_not (pt_val (pe_d dIsF hr rfl (pa_cons (pv 0) pa_nil)))) (pss_one (ps_throw TF (hr.mono (by decide)) rfl (takes_of rfl rfl rfl rfl) rfl (pv 0))) pss_nil)
      (pss_cons (ps_asg (pv 0) (pg_tup rfl (pgs_cons (pg_name (i := 1) scFText.nd rfl (Or.inl rfl)) (pgs_cons (pg_name (i := 2) scFText.nd rfl (Or.inl rfl)) pgs_nil))))
      (pss_one (ps_ret (pe_ifExp (pt_cmpR op_eq (pv 2) pe_int (nomark _)) (pe_callTy (call_strA n0) (by rfl) zx bt_str (pa_cons (pv 1) pa_nil)) (pe_joined (PJ.cons (pe_fmt (pv 1)) (PJ.cons pe_str (PJ.cons (pe_fmt (pv 2)) PJ.nil))))))))), ?_⟩
    refine ⟨_, rfl, x, d, rfl, hd, _, rfl, ?_⟩
    cases hF : isF d with
    | false => exact ⟨_, rfl, one_le, thrown_mk TF.v.oex TF.no (bad hF)⟩
    | true =>
      obtain ⟨t, b, rfl, b1, g1⟩ := isF_shape hF
      obtain ⟨q1, q2, q3⟩ := q t b rfl ⟨b1, g1⟩
      cases hd with
      | @tup a xs _ hx hds =>
        have e : xs = [.int t, .int b] := by
          cases hds with
          | cons h1 hs =>
            cases hs with
            | cons h2 hs =>
              cases hs
              cases h1
              cases h2
              rfl
        subst e
        refine ⟨_, rfl, a, _, rfl, hx, rfl, _, _, rfl, _, _, rfl, rfl, ?_⟩
        unfold fracS at q3
        by_cases hb : b = 1
        · rw [if_pos hb] at q3
          refine ⟨_, rfl, rfl, _, rfl, it_t (by rw [hb]; rfl) ?_⟩
          exact ⟨_, rfl, .inr ⟨t, rfl, q1, q3⟩⟩
        · rw [if_neg hb] at q3
          obtain ⟨q4, q5⟩ := q2 hb
          have l1 : (numS t).length ≤ 12901 := num_len q1
          have l2 : (numS b).length ≤ 12901 := num_len (by omega)
          refine ⟨_, rfl, rfl, _, rfl, it_f (decide_eq_false fun z => hb (by injection z)) ?_⟩
          have len2 : (numS t ++ slS).length = (numS t).length + 1 := by rw [Str.length_append]; rfl
          refine ⟨_, rfl, .inr ⟨t, rfl, q4, _, rfl, ?_, _, rfl, ?_, _, rfl, .inr ⟨b, rfl, q5, _, rfl, ?_, ?_⟩⟩⟩
          · show (Str.empty ++ numS t).length ≤ sizeLine
            rw [Str.length_append, sizeLine_eq]
            have : Str.empty.length = 0 := rfl
            omega
          · show (Str.empty ++ numS t ++ slS).length ≤ sizeLine
            rw [Str.length_append, Str.length_append, sizeLine_eq]
            have : Str.empty.length = 0 := rfl
            have : slS.length = 1 := rfl
            omega
          · show (Str.empty ++ numS t ++ slS ++ numS b).length ≤ sizeLine
            rw [Str.length_append, Str.length_append, Str.length_append, sizeLine_eq]
            have : Str.empty.length = 0 := rfl
            have : slS.length = 1 := rfl
            omega
          · have e2 : Str.empty ++ numS t ++ slS ++ numS b = numS t ++ slS ++ numS b := tl_ext (by
              rw [tl_app, tl_app, tl_app, tl_app, tl_app]
              rfl)
            show Q (.str (Str.empty ++ numS t ++ slS ++ numS b)) _
            rw [e2]
            exact q3
theorem scFON : FnScope ["text", "top", "slash", "bottom", "value"] ["text"] (defScope sFON) := ⟨rfl, rfl, rfl, by decide +kernel, rfl, by decide +kernel, by decide +kernel⟩
theorem one_tl : TL.tl ("1" : Str) = [49] := by decide +kernel
/-- the part behind the stroke, as a text -/
def botS : Option (List Nat) → Str
  | none => "1"
  | some r => ofL r
theorem botS_tl (o : Option (List Nat)) : TL.tl (botS o) = botL o := by
  cases o with
  | none => exact one_tl
  | some r => rfl
theorem ok_fon {C C2 f : Addr} {fd : FuncData} (F : Fun K "_fraction_or_none" "_fraction_or_none" sFON f fd) (dFr : Df P w K mg base (_root_.L2.CX P w) 3 "fraction" (spFraction K C)) (dFT : Df P w K mg base (_root_.L2.CX P w) 3 "fraction_text" (spFText K C2))
    (zi : mg "int" = none) (n0 : PySem.W.nsIn K cStatics "sys.int_max_str_digits" = some none) : FnOk P w K mg base CX0 4 f fd ["text"] spFON := by
  refine F.ok scFON (fun vs H Q E h => ?_) (fun cdv A outer s H vs Q E hr h => ?_)
  · obtain ⟨z, rfl, _⟩ := h
    rfl
  · obtain ⟨z, rfl, zok, qn, qs⟩ := h
    refine ⟨_, (pss_cons (ps_asg (pe_bm PySem.F.plainAttrs_str PySem.F.slot_str_partition PySem.F.type_str_partition mt_partition (pv 0) (pa_cons pe_str pa_nil)) (pg_tup rfl (pgs_cons (pg_name (i := 1) scFON.nd rfl (Or.inl rfl)) (pgs_cons (pg_name (i := 2) scFON.nd rfl (Or.inl rfl)) (pgs_cons (pg_name (i := 3) scFON.nd rfl (Or.inl rfl)) pgs_nil)))))
      (pss_cons (ps_if (pt_not (pt_truth (pv 2) (by intro _; rfl))) (pss_one (ps_set (i := 3) scFON.nd rfl (Or.inl rfl) pe_str)) pss_nil)
      (pss_cons (ps_if (PW.pt (pw_or (pt_not (pt_val (pe_bm0 PySem.F.plainAttrs_str PySem.F.slot_str_isdecimal PySem.F.type_str_isdecimal mt_isdecimal (pe_bm PySem.F.plainAttrs_str PySem.F.slot_str_removeprefix PySem.F.type_str_removeprefix mt_removeprefix (pv 1) (pa_cons pe_str pa_nil))))) (pw_or (pt_not (pt_val (pe_bm0 PySem.F.plainAttrs_str PySem.F.slot_str_isdecimal PySem.F.type_str_isdecimal mt_isdecimal (pv 3)))) (pw_or1 (pt_cmpR op_eq (pe_callTy (call_int_strW n0) (by rfl) zi bt_int (pa_cons (pv 3) pa_nil)) pe_int (nomark _)))))) (pss_one (ps_ret pe_non)) pss_nil)
      (pss_cons (ps_set (i := 4) scFON.nd rfl (Or.inl rfl) (pe_dx dFr hr rfl (fun σ => calmAt σ) (pa_cons (pe_callTy (call_int_strW n0) (by rfl) zi bt_int (pa_cons (pv 1) pa_nil)) (pa_cons (pe_callTy (call_int_strW n0) (by rfl) zi bt_int (pa_cons (pv 3) pa_nil)) pa_nil))))
      (pss_one (ps_ret (pe_ifExp (pt_cmpR op_eq (pe_dx dFT hr rfl (fun σ => calmAt σ) (pa_cons (pv 4) pa_nil)) (pv 0) (nomark _)) (pv 4) pe_non))))))), ?_⟩
    have hz : z.length ≤ 3000 := by rcases zok.len with h | ⟨h, _⟩ <;> omega
    have zs : z.length ≤ sizeLine := by rw [sizeLine_eq]; omega
    walk_at "go"
    intro p0 hp0
    have s0 := same_new (o := .tup [.str (Txt.partition z slS).1, .str (Txt.partition z slS).2.1, .str (Txt.partition z slS).2.2]) hp0
    obtain ⟨top, o, ec⟩ : ∃ top o, cutL (TL.tl z) = (top, o) := ⟨_, _, rfl⟩
    have sg : ∀ c ∈ top, c < 128 := fun c hc => zok.asc c (by
      rcases cutL_cases (TL.tl z) with ⟨_, e⟩ | ⟨p, r, e1, _, e⟩
      · rw [ec] at e
        cases e
        exact hc
      · rw [ec] at e
        cases e
        show c ∈ TL.tl z
        rw [e1]
        exact List.mem_append_left _ hc)
    have sgb : ∀ c ∈ botL o, c < 128 := fun c hc => by
      rcases cutL_cases (TL.tl z) with ⟨_, e⟩ | ⟨p, r, e1, _, e⟩
      · rw [ec] at e
        cases e
        rw [List.mem_singleton.mp hc]
        decide
      · rw [ec] at e
        cases e
        refine zok.asc c ?_
        show c ∈ TL.tl z
        rw [e1]
        exact List.mem_append_right _ (List.mem_cons_of_mem _ hc)
    have lens : top.length ≤ z.length ∧ (botL o).length ≤ z.length + 1 ∧ (o ≠ none → z.length ≤ 500) := by
      rcases cutL_cases (TL.tl z) with ⟨_, e⟩ | ⟨p, r, e1, _, e⟩
      · rw [ec] at e
        cases e
        rw [tl_len]
        exact ⟨Nat.le_refl _, by show 1 ≤ _; omega, fun h => absurd rfl h⟩
      · rw [ec] at e
        cases e
        have hl := tl_len z
        rw [e1, List.length_append, List.length_cons] at hl
        refine ⟨by omega, by show r.length ≤ _; omega, fun _ => ?_⟩
        rcases zok.len with h | ⟨_, h⟩
        · exact h
        · exact absurd (by rw [e1]; exact List.mem_append_right _ List.mem_cons_self) h
    have et : (Txt.partition z "/").1 = ofL top ∧ (if o = none then ("1" : Str) else (Txt.partition z "/").2.2) = botS o ∧ (((((Txt.partition z "/").2.1.length : Nat) : Int) != 0) = !decide (o = none)) ∧ (Txt.partition z "/").2.1.length ≤ sizeLine := by
      have pe := part_is z
      rw [ec] at pe
      rw [show (("/" : Str)) = slS from rfl, pe, sizeLine_eq]
      rcases cutL_cases (TL.tl z) with ⟨_, e⟩ | ⟨p, r, e1, _, e⟩
      · rw [ec] at e
        cases e
        exact ⟨(ofL_eq z).symm, rfl, rfl, by show 0 ≤ _; omega⟩
      · rw [ec] at e
        cases e
        exact ⟨rfl, rfl, rfl, by show 1 ≤ _; omega⟩
    obtain ⟨et1, et2, et3, et4⟩ := et
    have d1 : Txt.isdecimal (Txt.removeprefix (ofL top) "-") = decL (stripL top) := by
      rw [rmpre_is, ofL_tl]
      exact isdec_ofL fun c hc => sg c (mem_strip hc)
    have d2 : Txt.isdecimal (botS o) = decL (botL o) := by
      rw [← ofL_eq (botS o), botS_tl]
      exact isdec_ofL sgb
    have l1 : (ofL top).length ≤ sizeLine := by
      rw [ofL_len, sizeLine_eq]
      omega
    have rd : readL (TL.tl z) = if (decL (stripL top) && decL (botL o) && !decide (digitsVal (botL o) = 0)) = true then
        if fracL (low (valL top) (digitsVal (botL o) : Nat)).1 (low (valL top) (digitsVal (botL o) : Nat)).2 = TL.tl z then some (low (valL top) (digitsVal (botL o) : Nat)) else none else none := by
      unfold readL
      rw [ec]
    have l2 : (ofL top).length ≤ 4300 := by rw [ofL_len]; omega
    have l3 : (botS o).length ≤ 4300 := by
      rw [← ofL_eq (botS o), botS_tl, ofL_len]
      omega
    walk_at "go"
    rw [et1]
    by_cases ho : o = none
    case' pos =>
      refine it_t (by rw [et3, decide_eq_true ho]; rfl) ?_
      rw [show (("1" : Str)) = botS o by rw [ho]; rfl]
    case' neg =>
      refine it_f (by rw [et3, decide_eq_false ho]; rfl) ?_
      rw [show (Txt.partition z "/").2.2 = botS o from (if_neg ho).symm.trans et2]
    all_goals
      walk_at "go"
      rw [d1]
      cases hd1 : decL (stripL top) with
      | false =>
        rw [hd1, Bool.false_and, Bool.false_and, if_neg Bool.false_ne_true] at rd
        exact qn rd _ (same_new hp0)
      | true =>
        walk_at "no"
        walk_at "go"
        rw [d2]
        cases hd2 : decL (botL o) with
        | false =>
          rw [hd1, hd2, Bool.and_false, Bool.false_and, if_neg Bool.false_ne_true] at rd
          exact qn rd _ (same_new hp0)
        | true =>
          have it1 : PySem.intText? (ofL top) = some (valL top) := int_top hd1 (by rw [ofL_len] at l2; exact l2)
          have ib : PySem.intText? (botS o) = some ((digitsVal (botL o) : Nat) : Int) := by
            have d := decL_of hd2
            have e := intText_digits (x := botS o) (by rw [show (botS o).cps.toList = botL o from botS_tl o]; exact d.1) (by rw [show (botS o).cps.toList = botL o from botS_tl o]; exact d.2) l3
            rw [show (botS o).cps.toList = botL o from botS_tl o] at e
            exact e
          walk_at "no"
          walk_at "go"
          by_cases h0 : digitsVal (botL o) = 0
          · rw [hd1, hd2, decide_eq_true h0] at rd
            refine it_t (by rw [h0]; rfl) ?_
            exact qn (rd.trans (if_neg (by decide))) _ (same_new hp0)
          · rw [hd1, hd2, decide_eq_false h0] at rd
            have rd' := rd.trans (if_pos rfl)
            have b0 : ((digitsVal (botL o) : Nat) : Int) ≠ 0 := by omega
            have fr := fr_low (t := valL top) b0
            have tz : (valL top).natAbs < 10 ^ top.length := valL_lt hd1
            have bz : digitsVal (botL o) < 10 ^ (botL o).length := val_lt _ (decL_of hd2).1
            have a1 := low_abs1 (t := valL top) (b := ((digitsVal (botL o) : Nat) : Int))
            have a2 := low_abs2 (t := valL top) (b := ((digitsVal (botL o) : Nat) : Int))
            have bz2 : ((digitsVal (botL o) : Nat) : Int).natAbs < 2 ^ 1900 := by
              by_cases ho : o = none
              · have : ((digitsVal (botL o) : Nat) : Int).natAbs = 1 := by rw [ho]; rfl
                rw [this]
                decide
              · exact lt500 (n := (botL o).length) (by omega) (by
                  have := lens.2.2 ho
                  rcases cutL_cases (TL.tl z) with ⟨_, e⟩ | ⟨p, r, e1, _, e⟩
                  · rw [ec] at e
                    cases e
                    exact absurd rfl ho
                  · rw [ec] at e
                    cases e
                    have hl := tl_len z
                    rw [e1, List.length_append, List.length_cons] at hl
                    show r.length ≤ 500
                    omega)
            refine it_f (decide_eq_false fun z => h0 (by injection z with z; omega)) ?_
            walk_at "go"
            · exact noI
            · exact noB b0
            intro t' b' e1 e2 _
            injection e1 with e1
            injection e2 with e2
            subst e1
            subst e2
            refine ⟨Nat.lt_of_lt_of_le bz2 (Nat.pow_le_pow_right (by decide) (by decide)), fun p hp => ?_⟩
            have b1 : o = none → (low (valL top) ((digitsVal (botL o) : Nat) : Int)).2 = 1 := fun ho => by
              have e : ((digitsVal (botL o) : Nat) : Int) = 1 := by rw [ho]; rfl
              have f := low_id (m := valL top) (c := 1) (by decide) gz_one
              rw [e, f]
            have sz : (low (valL top) ((digitsVal (botL o) : Nat) : Int)).1.natAbs.log2 < 12900 ∧ ((low (valL top) ((digitsVal (botL o) : Nat) : Int)).2 ≠ 1 → (low (valL top) ((digitsVal (botL o) : Nat) : Int)).1.natAbs.log2 < 1920 ∧ (low (valL top) ((digitsVal (botL o) : Nat) : Int)).2.natAbs.log2 < 1920) := by
              refine ⟨Nat.lt_of_lt_of_le (lg (n := 10000) (Nat.lt_of_le_of_lt a1 (lt3000 tz (by omega))) (by decide)) (by decide), fun h1 => ?_⟩
              have zl := lens.2.2 fun h => h1 (b1 h)
              exact ⟨Nat.lt_of_lt_of_le (lg (n := 1900) (Nat.lt_of_le_of_lt a1 (lt500 tz (by omega))) (by decide)) (by decide), Nat.lt_of_lt_of_le (lg (n := 1900) (Nat.lt_of_le_of_lt a2 bz2) (by decide)) (by decide)⟩
            generalize low (valL top) ((digitsVal (botL o) : Nat) : Int) = v at *
            obtain ⟨v1, v2⟩ := v
            walk_at "go"
            · intro h
              rw [fr_isF fr] at h
              cases h
            intro t' b' e1 _
            injection e1 with e1
            injection e1 with e1 e2
            injection e2 with e2 _
            injection e1 with e1
            injection e2 with e2
            subst e1
            subst e2
            refine ⟨sz.1, sz.2, ?_⟩
            walk_at "go"
            by_cases he : fracL v1 v2 = TL.tl z
            · refine it_t (decide_eq_true (congrArg V.str (tl_ext (fracS_tl.trans he)))) ?_
              walk_at "go"
              exact qs v1 v2 (rd'.trans (if_pos he)) p _ ((same_new hp0).trans (same_new hp)) ((same_new hp0).free hp) upd_same
            · refine it_f (decide_eq_false fun h => he (by injection h with h; rw [← fracS_tl, h])) ?_
              exact qn (rd'.trans (if_neg he)) _ ((same_new hp0).trans (same_new hp))
theorem scRFrac : FnScope ["text", "value"] ["text"] (defScope sRFrac) := ⟨rfl, rfl, rfl, by decide +kernel, rfl, by decide +kernel, by decide +kernel⟩
theorem ok_rfrac {C f : Addr} {fd : FuncData} (F : Fun K "read_fraction" "read_fraction" sRFrac f fd) (TX : Kv P w K mg base "NoText" "value" C)
    (dFON : Df P w K mg base CX0 4 "_fraction_or_none" spFON) (zx : mg "str" = none) (zs : mg "isinstance" = none) : FnOk P w K mg base (_root_.L2.CX P w) 5 f fd ["text"] (spRFrac K C) := by
  refine F.okX scRFrac (fun vs H Q E h => ?_) (fun cdv A outer s H vs Q E hr h => ?_)
  · obtain ⟨x, d, rfl, _⟩ := h
    rfl
  · obtain ⟨x, d, rfl, hd, zok, bad, q⟩ := h
    refine ⟨_, (pss_cons (ps_set (i := 1) scRFrac.nd rfl (Or.inl rfl) (pe_ifExp (pt_val (pe_callB call_isi (by rfl) zs bt_isinstance (pa_cons (pv 0) (pa_cons (pe_bltn (v := .ty "str") (by rfl) zx bt_str rfl) pa_nil)))) (pe_d dFON hr rfl (pa_cons (pv 0) pa_nil)) pe_non))
      (pss_cons (ps_if (pt_cmpR op_isN (pv 1) pe_non (nomark _)) (pss_one (ps_throw TX (hr.mono (by decide)) rfl (takes_of rfl rfl rfl rfl) rfl (pv 0))) pss_nil)
      (pss_one (ps_ret (pv 1))))), ?_⟩
    refine ⟨_, rfl, x, .ty "str", _, _, _, rfl, .ty _, hd.ty, kit_str d, ?_⟩
    cases d with
    | str z =>
      cases hd
      walk_at "go"
      walk_at "yes"
      have zo := zok z rfl
      walk_at "go"
      · intro hn H' s'
        walk_at "go"
        walk_at "yes"
        walk_at "go"
        exact thrown_mk TX.v.oex TX.no ((bad hn).mono s')
      · intro t b hs r H' s' hr' e'
        walk_at "go"
        walk_at "no"
        walk_at "go"
        exact q t b hs r H' s' hr' e'
    | _ =>
      walk_at "go"
      walk_at "no"
      walk_at "go"
      walk_at "yes"
      walk_at "go"
      exact thrown_mk TX.v.oex TX.no (bad rfl)
end
end Paw

set_option maxRecDepth 100000
set_option maxHeartbeats 4000000
namespace Paw
open PySem PySem.Spec PyProof.Rows L2 PySem.NumText
local macro_rules | `(tactic| walk_at "ne") => `(tactic| first | assumption | exact Ne.symm (by assumption) | exact ne_of_none (by assumption) (by assumption) | exact (ne_of_none (by assumption) (by assumption)).symm | exact (fresh (by assumption)).1 | exact (fresh (by assumption)).1.symm | exact (fresh (fresh (by assumption)).2).1 | exact (fresh (fresh (by assumption)).2).1.symm | exact (fresh (fresh (fresh (by assumption)).2).2).1.symm)
local macro_rules | `(tactic| walk_at "hp") => `(tactic| first | with_reducible assumption | with_reducible exact upd_same | ((with_reducible refine Eq.trans (upd_ne (by walk_at "ne")) ?_); walk_at "hp") | ((with_reducible refine Same.at (by assumption) ?_); walk_at "hp"))
local macro_rules | `(tactic| walk_at "g2") => `(tactic| first | ((with_reducible show _ = some _); walk_at "hp") | ((with_reducible apply SqT.of); walk_at "hp") | ((with_reducible apply SqL.of); walk_at "hp") | ((with_reducible show SqT _ _ _ _); first | assumption | exact sqt_mono (same_new (by assumption)) (by assumption)) | ((with_reducible show SqL _ _ _ _); first | assumption | exact Same.seq (same_new (by assumption)) (by assumption)) | ((with_reducible show (SqL _ _ _ _ ∨ SqT _ _ _ _)); first | exact Or.inl (SqL.of (by walk_at "hp")) | exact Or.inr (SqT.of (by walk_at "hp")) | exact Or.inl (by assumption) | exact Or.inr (by assumption)) | ((with_reducible show tyV _ _ _ _); first | exact rfl | exact Or.inl ⟨rfl, _, SqL.of (by walk_at "hp")⟩) | ((with_reducible apply RD.tupH); (walk_at "hp"); walk_at "rds") | ((with_reducible apply RD.lstH); (walk_at "hp"); walk_at "rds") | ((with_reducible show TruV _ _ _ _); exact rfl) | with_reducible exact RD.int _ | with_reducible exact RD.str _ | with_reducible exact RD.bl _ | with_reducible exact RD.non | with_reducible exact ClsV.ty _ | with_reducible exact ClsV.own _ | ((with_reducible show ExV _ _); assumption) | ((with_reducible show KeptIs _ _ _ _ _); first | exact KeptIs.none (by assumption) | exact KeptIs.exc (by walk_at "hp") (by walk_at "hp") (by assumption) (by assumption)) | ((with_reducible show TyX _ _ _ _); exact RD.ty (by assumption)))
local macro_rules | `(tactic| walk_at "rds") => `(tactic| repeat' (first | with_reducible exact RDs.nil | with_reducible apply RDs.cons | with_reducible assumption | walk_at "g2"))
local macro_rules | `(tactic| walk_at "g1") => `(tactic| (fail_if_success (with_reducible refine it_t ?_ ?_)); first | (with_reducible rfl) | ((with_reducible show (_ : Prop)); with_reducible assumption) | with_reducible exact trivial | with_reducible exact upd_same | walk_at "g2" | ((with_reducible show _ = _); (fail_if_success (with_reducible show PySem.intText? _ = _)); law_purse 4000 => exact rfl) | ((with_reducible show _ ≤ _); first | law_purse 300 => exact Nat.le_of_ble_eq_true rfl | decide +kernel) | ((with_reducible show _ < _); first | decide +kernel | law_purse 500 => decide) | ((with_reducible show _ ≠ _); law_purse 500 => decide) | ((with_reducible show _ = _); law_purse 500 => first | assumption | decide) | law_purse 2000 => ((fail_if_success (show (∃ W : Nat → Nat → L2.St → Hp → Prop, _))); (fail_if_success (show (∃ W : Nat → Nat → Hp → Prop, _))); apply Exists.intro) | law_purse 1000 => apply And.intro | (law_purse 1000 => ((apply Or.inl); (apply Exists.intro); (apply And.intro); (with_reducible rfl))) | (law_purse 1000 => ((apply Or.inr); (apply Exists.intro); (apply And.intro); (with_reducible rfl))))
local macro_rules | `(tactic| walk_at "go") => `(tactic| repeat' (walk_at "g1"))
local macro_rules | `(tactic| walk_at "yes") => `(tactic| ((with_reducible apply it_t); first | exact rfl | exact decide_eq_true rfl))
local macro_rules | `(tactic| walk_at "no") => `(tactic| ((with_reducible apply it_f); first | exact rfl | (refine decide_eq_false fun e => ?_; injection e with e; simp at e; done)))
/-! ### the law's fractions -/
def spDivisor : Sp := fun vs H Q _ => ∃ a b : Int, vs = [.int a, .int b] ∧ Q (.int (gz a b)) H
/-- a drawn fraction -/
def spFra : Sp := fun vs H Q _ => ∃ (p : Addr) (b : Bool) (L : List V), vs = [.ref p] ∧ H p = some (.lst L) ∧ Pile b L ∧
  ∀ (r : Addr) (t c : Int) (L' : List V) (H' : Hp), H r = none → H' r = some (.tup [.int t, .int c]) → IsFr t c → t.natAbs ≤ 1000000 → c ≤ 9 → But p H H' → H' p = some (.lst L') → Pile b L' → Q (.ref r) H'
section
variable {P : Program} {w : World} {K : PySem.W.Frag} {mg : Str → Option Value} {base : Heap}
theorem scDivisor : FnScope ["one", "other"] ["one", "other"] (defScope sDivisor) := ⟨rfl, rfl, rfl, by decide +kernel, rfl, by decide +kernel, by decide +kernel⟩
theorem ok_divisor {f : Addr} {fd : FuncData} (F : Fun K "_law_divisor" "_law_divisor" sDivisor f fd) (zi : mg "int" = none) (za : mg "abs" = none) : FnOk P w K mg base CX0 1 f fd ["one", "other"] spDivisor := by
  refine F.ok scDivisor (fun vs H Q E h => ?_) (fun cdv A outer s H vs Q E hr h => ?_)
  · obtain ⟨a, b, rfl, _⟩ := h
    rfl
  · obtain ⟨a, b, rfl, q⟩ := h
    refine ⟨_, pss_cons (ps_while PassesOwn.never (pt_cmpR op_ne (pv 1) pe_int (nomark _)) (pss_one (ps_par (i := 0) (j := 1) rfl scDivisor.nd rfl rfl (by decide) rfl rfl (pa_cons (pv 1) (pa_cons (pe_op op_modN (pe_callTy call_int1 (by rfl) zi bt_int (pa_cons (pv 0) pa_nil)) (pv 1)) pa_nil)) (by rfl))))
      (pss_one (ps_ret (pe_callB call_abs (by rfl) za bt_abs (pa_cons (pv 0) pa_nil)))), ?_⟩
    refine while_by (fun σ H' => H' = H ∧ ∃ x y : Int, σ = [some (.int x), some (.int y)] ∧ gz x y = gz a b) (fun σ _ => match σ with | [_, some (.int y)] => y.natAbs | _ => 0) ⟨rfl, a, b, rfl, rfl⟩ ?_ ?_
    · rintro σ H' ⟨rfl, x, y, rfl, e⟩
      refine ⟨_, rfl, rfl, _, rfl, ?_⟩
      by_cases hy : y = 0
      · subst hy
        refine it_f (by decide) ?_
        rw [gz_zero] at e
        rw [← e, show ((x.natAbs : Nat) : Int) = if x < 0 then -x else x by split <;> omega] at q
        exact ⟨_, rfl, _, rfl, q⟩
      · refine it_t (by simp [hy]) ?_
        refine ⟨_, rfl, _, rfl, .inl ⟨_, rfl, _, rfl, _, _, rfl, rfl, hy, _, _, rfl, ⟨rfl, _, _, rfl, gz_step.trans e⟩, fmod_abs hy⟩⟩
    · rintro σ H' Q1 Q2 hq ⟨v, hv, e, c, ec, k⟩
      exact ⟨v, hv, e, c, ec, hq _ _ k⟩
theorem scLLow : FnScope ["top", "bottom", "common"] ["top", "bottom"] (defScope sLLow) := ⟨rfl, rfl, rfl, by decide +kernel, rfl, by decide +kernel, by decide +kernel⟩
theorem ok_llow {f fD : Addr} {fd fdD : FuncData} (F : Fun K "_law_lowest" "_law_lowest" sLLow f fd) (GD : FnOk P w K mg base CX0 1 fD fdD ["one", "other"] spDivisor) (gD : mg "_law_divisor" = some (.ref fD)) (kD : PySem.W.keepIn K (.ref fD) = true) (bD : Binds K fdD ["one", "other"] []) :
    FnOk P w K mg base CX0 2 f fd ["top", "bottom"] spLowest := by
  refine F.ok scLLow (fun vs H Q E h => ?_) (fun cdv A outer s H vs Q E hr h => ?_)
  · obtain ⟨t, b, rfl, _⟩ := h
    rfl
  · obtain ⟨t, b, rfl, b0, bs, q⟩ := h
    refine ⟨_, pss_cons (ps_set (i := 2) scLLow.nd rfl (Or.inl rfl) (pe_call GD hr rfl gD kD bD .nil pass0 (pa_cons (pv 0) (pa_cons (pv 1) pa_nil))))
      (pss_cons (ps_if (pt_cmpR op_lt (pv 1) pe_int (nomark _)) (pss_one (ps_set (i := 2) scLLow.nd rfl (Or.inl rfl) (pe_op op_sub pe_int (pv 2)))) pss_nil)
      (pss_one (ps_ret (pe_tup (pa_cons (pe_op op_fdivZ (pv 0) (pv 2)) (pa_cons (pe_op op_fdivZ (pv 1) (pv 2)) pa_nil)))))), ?_⟩
    refine ⟨_, rfl, _, rfl, _, _, rfl, _, rfl, _, _, rfl, rfl, _, rfl, ?_⟩
    have hs := sg_ne (t := t) b0
    have hz : CDivZ t (sg t b) ∧ CDivZ b (sg t b) := by
      have := sg_le (t := t) b0
      exact ⟨div_any hs (b := 8000) (by omega) (by decide) (by decide), div_any hs (b := 8000) (by omega) (by decide) (by decide)⟩
    refine ite2 (fun h => ?_) (fun h => ?_)
    · have e : sg t b = 0 - gz t b := (if_pos h).trans (Int.zero_sub _).symm
      have d1 := hz.1
      have d2 := hz.2
      unfold low at q
      rw [e] at d1 d2 q
      exact ⟨_, rfl, _, _, rfl, rfl, _, rfl, _, rfl, _, _, rfl, rfl, d1, _, rfl, _, rfl, _, _, rfl, rfl, d2, (by show 2 ≤ sizeLine; decide), q⟩
    · have e : sg t b = gz t b := if_neg h
      have d1 := hz.1
      have d2 := hz.2
      unfold low at q
      rw [e] at d1 d2 q
      exact ⟨_, rfl, _, rfl, _, _, rfl, rfl, d1, _, rfl, _, rfl, _, _, rfl, rfl, d2, (by show 2 ≤ sizeLine; decide), q⟩

theorem scLFra : FnScope ["pile", "kind", "top"] ["pile"] (defScope sLFra) := ⟨rfl, rfl, rfl, by decide +kernel, rfl, by decide +kernel, by decide +kernel⟩
theorem but_new {p q : Addr} {H H' : Hp} {o u : HO} (hp : H p = some o) (hp' : H' p = some u) (b : But p H H') (hq : H' q = none) : H q = none := by
  cases z : H q with
  | none => rfl
  | some o =>
    by_cases e : q = p
    · rw [e, hp'] at hq
      cases hq
    · rw [b _ _ e z] at hq
      cases hq
theorem ok_fra {f : Addr} {fd : FuncData} (F : Fun K "_law_fraction" "_law_fraction" sLFra f fd) (dTake : Df P w K mg base CX0 2 "_law_take" spTake) (dLL : Df P w K mg base CX0 2 "_law_lowest" spLowest) : FnOk P w K mg base CX0 3 f fd ["pile"] spFra := by
  refine F.ok scLFra (fun vs H Q E h => ?_) (fun cdv A outer s H vs Q E hr h => ?_)
  · obtain ⟨p, b, L, rfl, _⟩ := h
    rfl
  · obtain ⟨p, b, L, rfl, hp, hL, q⟩ := h
    refine ⟨_, (pss_cons (ps_set (i := 1) scLFra.nd rfl (Or.inl rfl) (pe_d dTake hr rfl (pa_cons (pv 0) (pa_cons pe_int pa_nil))))
      (pss_cons (ps_set (i := 2) scLFra.nd rfl (Or.inl rfl) (pe_op op_sub (pe_d dTake hr rfl (pa_cons (pv 0) (pa_cons pe_int pa_nil))) pe_int))
      (pss_cons (ps_if (PW.pt (pw_and (pt_truth (pe_ix ix_list (pv 0) pe_int (fun _ _ => rfl)) (by intro _; rfl)) (pw_and1 (pt_cmpR op_eq (pv 1) pe_int (nomark _))))) (pss_one (ps_set (i := 2) scLFra.nd rfl (Or.inl rfl) (pe_op op_sub (pe_d dTake hr rfl (pa_cons (pv 0) (pa_cons (pe_op op_pow pe_int pe_int) pa_nil))) (pe_op op_mul pe_int (pe_op op_pow pe_int pe_int))))) pss_nil)
      (pss_one (ps_ret (pe_d dLL hr rfl (pa_cons (pv 2) (pa_cons (pe_ix ix_list (pe_lst (pa_cons pe_int (pa_cons pe_int (pa_cons pe_int (pa_cons pe_int (pa_cons (pe_op op_add pe_int (pe_d dTake hr rfl (pa_cons (pv 0) (pa_cons pe_int pa_nil)))) (pa_cons (pe_op op_add pe_int (pe_d dTake hr rfl (pa_cons (pv 0) (pa_cons pe_int pa_nil)))) pa_nil))))))) (pv 1) (fun _ _ => rfl)) pa_nil)))))))), ?_⟩
    walk_at "go"
    intro r L1 H1 r0 r1 hL1 b1 hp1
    walk_at "go"
    intro u L2 H2 u0 u1 hL2 b2 hp2
    obtain ⟨j, rfl⟩ : ∃ j : Nat, r = (j : Int) := ⟨r.toNat, by omega⟩
    have hL2' := hL2
    obtain ⟨d, m, c, eL2, d0, d1, m0, m1⟩ := hL2'
    have tail : ∀ {H3 H4 : Hp} {L4 : List V} {t n : Int} {l : Addr} {zs : List V}, t.natAbs ≤ 1000000 → 1 ≤ n → n ≤ 9 → But p H2 H3 → But p H3 H4 → H4 p = some (.lst L4) → Pile b L4 → H4 l = none →
        n ≠ 0 ∧ n.natAbs < 2 ^ 8000 ∧ ∀ q1, (upd H4 l (.lst zs)) q1 = none → Q (.ref q1) (upd (upd H4 l (.lst zs)) q1 (.tup [.int (low t n).1, .int (low t n).2])) := by
      intro H3 H4 L4 t n l zs ht n1 n2 b3 b4 hp4 hL4 hl
      have n0 : n ≠ 0 := by omega
      refine ⟨n0, Nat.lt_of_lt_of_le (m := 2 ^ 10) (by omega) (Nat.pow_le_pow_right (by decide) (by decide)), fun q1 hq1 => ?_⟩
      have s5 := (same_new (o := .lst zs) hl).trans (same_new (o := .tup [.int (low t n).1, .int (low t n).2]) hq1)
      have a1 := low_abs1 (t := t) (b := n)
      have a2 := low_abs2 (t := t) (b := n)
      have bb := (b1.trans b2).trans (b3.trans b4)
      refine q q1 _ _ L4 _ (but_new hp hp4 bb ((same_new (o := .lst zs) hl).free hq1)) upd_same (fr_low n0) (by omega) ?_ (bb.trans (same_but s5)) (s5 _ _ hp4) hL4
      have := (fr_low (t := t) n0).pos
      omega
    have pick : ∀ (x y : Int), 0 ≤ x → x < 9 → 0 ≤ y → y < 9 → ∃ n : Int, ([V.int 1, .int 1, .int 1, .int 2, .int (1 + x), .int (1 + y)])[j]? = some (.int n) ∧ 1 ≤ n ∧ n ≤ 9 := by
      intro x y x0 x1 y0 y1
      match j, r1 with
      | 0, _ => exact ⟨1, rfl, by decide, by decide⟩
      | 1, _ => exact ⟨1, rfl, by decide, by decide⟩
      | 2, _ => exact ⟨1, rfl, by decide, by decide⟩
      | 3, _ => exact ⟨2, rfl, by decide, by decide⟩
      | 4, _ => exact ⟨1 + x, rfl, by omega, by omega⟩
      | 5, _ => exact ⟨1 + y, rfl, by omega, by omega⟩
      | k + 6, h => exact absurd h (by omega)
    have e3 : atI L2 3 = some (.bl b) := by rw [eL2]; exact atI_nat (j := 3) rfl
    walk_at "go"
    cases b with
    | false =>
      walk_at "no"
      walk_at "no"
      walk_at "go"
      intro x L4 H4 x0 x1 hL4 b4 hp4
      walk_at "go"
      intro y L5 H5 y0 y1 hL5 b5 hp5
      walk_at "go"
      intro l hl
      obtain ⟨n, en, n1, n2⟩ := pick x y x0 x1 y0 y1
      have en' := atI_nat en
      obtain ⟨z1, z2, z3⟩ := tail (t := u - 9) (zs := [V.int 1, .int 1, .int 1, .int 2, .int (1 + x), .int (1 + y)]) (by omega) n1 n2 b4 b5 hp5 hL5 hl
      walk_at "go"
    | true =>
      walk_at "yes"
      walk_at "go"
      refine ite2 (fun h => ?_) (fun h => ?_)
      · walk_at "go"
        intro t L3 H3 t0 t1 hL3 b3 hp3
        have e12 : (10 : Int) ^ (6 : Int).toNat = 1000000 := by decide +kernel
        have e11 : (5 : Int) * (10 : Int) ^ (5 : Int).toNat = 500000 := by decide +kernel
        rw [e12] at t1
        have cm : CMul 5 ((10 : Int) ^ (5 : Int).toNat) := .inl ⟨by decide, by decide⟩
        walk_at "go"
        intro x L4 H4 x0 x1 hL4 b4 hp4
        walk_at "go"
        intro y L5 H5 y0 y1 hL5 b5 hp5
        walk_at "go"
        intro l hl
        obtain ⟨n, en, n1, n2⟩ := pick x y x0 x1 y0 y1
        have en' := atI_nat en
        obtain ⟨z1, z2, z3⟩ := tail (t := t - 5 * (10 : Int) ^ (5 : Int).toNat) (zs := [V.int 1, .int 1, .int 1, .int 2, .int (1 + x), .int (1 + y)]) (by rw [e11]; omega) n1 n2 (b3.trans b4) b5 hp5 hL5 hl
        walk_at "go"
      · walk_at "go"
        intro x L4 H4 x0 x1 hL4 b4 hp4
        walk_at "go"
        intro y L5 H5 y0 y1 hL5 b5 hp5
        walk_at "go"
        intro l hl
        obtain ⟨n, en, n1, n2⟩ := pick x y x0 x1 y0 y1
        have en' := atI_nat en
        obtain ⟨z1, z2, z3⟩ := tail (t := u - 9) (zs := [V.int 1, .int 1, .int 1, .int 2, .int (1 + x), .int (1 + y)]) (by omega) n1 n2 b4 b5 hp5 hL5 hl
        walk_at "go"
end
end Paw

set_option maxRecDepth 100000
set_option maxHeartbeats 4000000
namespace Paw
open PySem PySem.Spec PyProof.Rows L2 PySem.NumText
local macro_rules | `(tactic| walk_at "ne") => `(tactic| first | assumption | exact Ne.symm (by assumption) | exact ne_of_none (by assumption) (by assumption) | exact (ne_of_none (by assumption) (by assumption)).symm | exact (fresh (by assumption)).1 | exact (fresh (by assumption)).1.symm | exact (fresh (fresh (by assumption)).2).1 | exact (fresh (fresh (by assumption)).2).1.symm | exact (fresh (fresh (fresh (by assumption)).2).2).1.symm)
local macro_rules | `(tactic| walk_at "hp") => `(tactic| first | with_reducible assumption | with_reducible exact upd_same | ((with_reducible refine Eq.trans (upd_ne (by walk_at "ne")) ?_); walk_at "hp") | ((with_reducible refine Same.at (by assumption) ?_); walk_at "hp"))
local macro_rules | `(tactic| walk_at "g2") => `(tactic| first | ((with_reducible show _ = some _); walk_at "hp") | ((with_reducible apply SqT.of); walk_at "hp") | ((with_reducible apply SqL.of); walk_at "hp") | ((with_reducible show SqT _ _ _ _); first | assumption | exact sqt_mono (same_new (by assumption)) (by assumption)) | ((with_reducible show SqL _ _ _ _); first | assumption | exact Same.seq (same_new (by assumption)) (by assumption)) | ((with_reducible show (SqL _ _ _ _ ∨ SqT _ _ _ _)); first | exact Or.inl (SqL.of (by walk_at "hp")) | exact Or.inr (SqT.of (by walk_at "hp")) | exact Or.inl (by assumption) | exact Or.inr (by assumption)) | ((with_reducible show tyV _ _ _ _); first | exact rfl | exact Or.inl ⟨rfl, _, SqL.of (by walk_at "hp")⟩) | ((with_reducible apply RD.tupH); (walk_at "hp"); walk_at "rds") | ((with_reducible apply RD.lstH); (walk_at "hp"); walk_at "rds") | ((with_reducible show TruV _ _ _ _); exact rfl) | with_reducible exact RD.int _ | with_reducible exact RD.str _ | with_reducible exact RD.bl _ | with_reducible exact RD.non | with_reducible exact ClsV.ty _ | with_reducible exact ClsV.own _ | ((with_reducible show ExV _ _); assumption) | ((with_reducible show KeptIs _ _ _ _ _); first | exact KeptIs.none (by assumption) | exact KeptIs.exc (by walk_at "hp") (by walk_at "hp") (by assumption) (by assumption)) | ((with_reducible show TyX _ _ _ _); exact RD.ty (by assumption)))
local macro_rules | `(tactic| walk_at "rds") => `(tactic| repeat' (first | with_reducible exact RDs.nil | with_reducible apply RDs.cons | with_reducible assumption | walk_at "g2"))
local macro_rules | `(tactic| walk_at "g1") => `(tactic| (fail_if_success (with_reducible refine it_t ?_ ?_)); first | (with_reducible rfl) | ((with_reducible show (_ : Prop)); with_reducible assumption) | with_reducible exact trivial | with_reducible exact upd_same | walk_at "g2" | ((with_reducible show _ = _); (fail_if_success (with_reducible show PySem.intText? _ = _)); law_purse 4000 => exact rfl) | ((with_reducible show _ ≤ _); first | law_purse 300 => exact Nat.le_of_ble_eq_true rfl | decide +kernel) | ((with_reducible show _ < _); first | decide +kernel | law_purse 500 => decide) | ((with_reducible show _ ≠ _); law_purse 500 => decide) | ((with_reducible show _ = _); law_purse 500 => first | assumption | decide) | law_purse 2000 => ((fail_if_success (show (∃ W : Nat → Nat → L2.St → Hp → Prop, _))); (fail_if_success (show (∃ W : Nat → Nat → Hp → Prop, _))); apply Exists.intro) | law_purse 1000 => apply And.intro | (law_purse 1000 => ((apply Or.inl); (apply Exists.intro); (apply And.intro); (with_reducible rfl))) | (law_purse 1000 => ((apply Or.inr); (apply Exists.intro); (apply And.intro); (with_reducible rfl))))
local macro_rules | `(tactic| walk_at "go") => `(tactic| repeat' (walk_at "g1"))
local macro_rules | `(tactic| walk_at "yes") => `(tactic| ((with_reducible apply it_t); first | exact rfl | exact decide_eq_true rfl))
local macro_rules | `(tactic| walk_at "no") => `(tactic| ((with_reducible apply it_f); first | exact rfl | (refine decide_eq_false fun e => ?_; injection e with e; simp at e; done)))
/-! ### the law's view of texts -/
def spFWritten (K : PySem.W.Frag) : Sp := fun vs H Q _ => ∃ (p : Addr) (t b : Int), vs = [.ref p] ∧ SqT K H p [.int t, .int b] ∧ t.natAbs.log2 < 12900 ∧ b.natAbs.log2 < 12900 ∧ ∀ H', Same H H' → Q (.str (fracS t b)) H'
def spIsFT : Sp := fun vs H Q _ => ∃ z : Str, vs = [.str z] ∧ asciiW z ∧ z.length ≤ 4000 ∧ ∀ H', Same H H' → Q (.bl (lawL (TL.tl z))) H'
def spFrIn : Sp := fun vs H Q _ => ∃ (z : Str) (t b : Int), vs = [.str z] ∧ z.length ≤ 4000 ∧ 1 ≤ b ∧ z = fracS t b ∧ ∀ (r : Addr) (H' : Hp), Same H H' → H r = none → H' r = some (.tup [.int t, .int b]) → Q (.ref r) H'
theorem cut_to1 (z : Str) : cutS z none (some 1) = ofL ((TL.tl z).take 1) := tl_ext (by
  have hl := tl_len z
  show ((TL.tl z).drop 0).take (HT.sIx z.length z.length (some 1) - 0) = _
  rw [List.drop_zero, Nat.sub_zero]
  show (TL.tl z).take (HT.sIx z.length z.length (some 1)) = (TL.tl z).take 1
  unfold HT.sIx
  by_cases h : z.length = 0
  · have : TL.tl z = [] := List.length_eq_zero_iff.mp (hl.trans h)
    rw [this]
    simp
  · congr 1
    try (first | (simp; done) | (simp; omega)))
theorem cut_from1 (z : Str) : cutS z (some 1) none = ofL ((TL.tl z).drop 1) := tl_ext (by
  have hl := tl_len z
  show ((TL.tl z).drop (HT.sIx z.length 0 (some 1))).take (z.length - HT.sIx z.length 0 (some 1)) = (TL.tl z).drop 1
  have e : HT.sIx z.length 0 (some 1) = min 1 z.length := by
    unfold HT.sIx
    simp
  rw [e]
  have e2 : (TL.tl z).drop (min 1 z.length) = (TL.tl z).drop 1 := by
    rcases Nat.eq_zero_or_pos z.length with h | h
    · have : TL.tl z = [] := List.length_eq_zero_iff.mp (hl.trans h)
      rw [this]
      simp
    · rw [show min 1 z.length = 1 by omega]
  rw [e2]
  exact List.take_of_length_le (by rw [List.length_drop]; omega))
theorem menu2 (b : Bool) (x y : V) : atI [x, y] (if b = true then 1 else 0) = some (if b = true then y else x) := by
  cases b
  · exact atI_nat (j := 0) rfl
  · exact atI_nat (j := 1) rfl
/-- the parts between strokes -/
theorem parts_cases (z : Str) : ∃ (top : List Nat) (o : Option (List Nat)) (rest : List Str), Txt.split z "/" = ofL top :: rest ∧ cutL (TL.tl z) = (top, o) ∧ (o = none → rest = []) ∧ (∀ r, o = some r → 47 ∉ r → rest = [ofL r]) ∧ (∀ r, o = some r → 47 ∈ r → 2 ≤ rest.length) := by
  have e := split47 z
  rw [spl47] at e
  rcases cutL_cases (TL.tl z) with ⟨_, h⟩ | ⟨p, r, h1, h2, h⟩
  · rw [h] at e
    exact ⟨_, none, [], e, h, fun _ => rfl, fun r hr => (nomatch hr), fun r hr => (nomatch hr)⟩
  · rw [h] at e
    refine ⟨p, some r, (TL.spl [47] 0 [] r).map ofL, e, h, fun hr => (nomatch hr), fun r' hr hn => ?_, fun r' hr hn => ?_⟩
    · cases hr
      rw [spl47, cutL_none hn]
      rfl
    · cases hr
      rw [spl47]
      rcases cutL_cases r with ⟨k, _⟩ | ⟨p2, r2, _, _, k⟩
      · exact absurd hn k
      · rw [k, List.map_cons, List.length_cons]
        have := (spl47 r2 [])
        rw [List.length_map, this]
        cases cutL r2 with
        | mk a b => cases b <;> simp
def lawO (top : List Nat) : Option (List Nat) → Bool
  | none => topL top
  | some r => topL top && (!decide (47 ∈ r)) && (canonL r && !decide (r = [49]) && decide (Nat.gcd (digitsVal (stripL top)) (digitsVal r) = 1))
theorem int_dec {l : List Nat} (h : decL l = true) (hl : (ofL l).length ≤ 4300) : PySem.intText? (ofL l) = some ((digitsVal l : Nat) : Int) := intText_digits (x := ofL l) (decL_of h).1 (decL_of h).2 hl
theorem canon_dec {l : List Nat} (h : canonL l = true) : decL l = true := by
  unfold canonL at h
  rw [Bool.and_eq_true] at h
  exact h.1
theorem lawL_cut {l top : List Nat} {o : Option (List Nat)} (h : cutL l = (top, o)) : lawL l = lawO top o := by
  unfold lawL
  rw [h]
  cases o <;> rfl
section
variable {P : Program} {w : World} {K : PySem.W.Frag} {mg : Str → Option Value} {base : Heap}
theorem scFWritten : FnScope ["one"] ["one"] (defScope sFWritten) := ⟨rfl, rfl, rfl, by decide +kernel, rfl, by decide +kernel, by decide +kernel⟩
theorem ok_fwritten {f : Addr} {fd : FuncData} (F : Fun K "_law_written" "_law_written" sFWritten f fd) (zi : mg "int" = none) (zx : mg "str" = none) (n0 : PySem.W.nsIn K cStatics "sys.int_max_str_digits" = some none) : FnOk P w K mg base CX0 1 f fd ["one"] (spFWritten K) := by
  refine F.ok scFWritten (fun vs H Q E h => ?_) (fun cdv A outer s H vs Q E hr h => ?_)
  · obtain ⟨p, t, b, rfl, _⟩ := h
    rfl
  · obtain ⟨p, t, b, rfl, hp, lt, lb, q⟩ := h
    refine ⟨_, (pss_one (ps_ret (pe_ix ix_list (pe_lst (pa_cons (pe_op op_add_str (pe_op op_add_str (pe_callTy (call_strA n0) (by rfl) zx bt_str (pa_cons (pe_ix ix_tup (pv 0) pe_int (fun _ _ => rfl)) pa_nil)) pe_str) (pe_callTy (call_strA n0) (by rfl) zx bt_str (pa_cons (pe_ix ix_tup (pv 0) pe_int (fun _ _ => rfl)) pa_nil))) (pa_cons (pe_callTy (call_strA n0) (by rfl) zx bt_str (pa_cons (pe_ix ix_tup (pv 0) pe_int (fun _ _ => rfl)) pa_nil)) pa_nil))) (pe_callTy call_int1 (by rfl) zi bt_int (pa_cons (pe_cmpR op_eq (pe_ix ix_tup (pv 0) pe_int (fun _ _ => rfl)) pe_int (nomark _)) pa_nil)) (fun _ _ => rfl)))), ?_⟩
    have a0 : atI [V.int t, .int b] 0 = some (.int t) := atI_nat (j := 0) rfl
    have a1 : atI [V.int t, .int b] 1 = some (.int b) := atI_nat (j := 1) rfl
    have sg : sizeLine = sizeLine := rfl
    have l1 : (numS t).length ≤ 12901 := num_len lt
    have l2 : (numS b).length ≤ 12901 := num_len lb
    have z1 : (numS t).length + (("/" : Str)).length ≤ sizeLine := by rw [sizeLine_eq, show (("/" : Str)).length = 1 from rfl]; omega
    have z2 : (numS t ++ ("/" : Str)).length + (numS b).length ≤ sizeLine := by rw [sizeLine_eq, Str.length_append, show (("/" : Str)).length = 1 from rfl]; omega
    have mn := menu2 (decide (V.int b = V.int 1)) (V.str (numS t ++ ("/" : Str) ++ numS b)) (V.str (numS t))
    walk_at "go"
    intro l hl
    walk_at "go"
    have s1 := same_new (o := .lst [V.str (numS t ++ ("/" : Str) ++ numS b), V.str (numS t)]) hl
    have qq := q _ s1
    unfold fracS at qq
    by_cases hb : b = 1
    · rw [if_pos hb] at qq
      rw [decide_eq_true (congrArg V.int hb)]
      exact qq
    · rw [if_neg hb] at qq
      rw [decide_eq_false fun z => hb (by injection z)]
      exact qq
theorem scIsFT : FnScope ["text", "parts", "top"] ["text"] (defScope sIsFT) := ⟨rfl, rfl, rfl, by decide +kernel, rfl, by decide +kernel, by decide +kernel⟩
theorem ok_isft {f : Addr} {fd : FuncData} (F : Fun K "_law_is_fraction_text" "_law_is_fraction_text" sIsFT f fd) (zi : mg "int" = none) (zl : mg "len" = none) (n0 : PySem.W.nsIn K cStatics "sys.int_max_str_digits" = some none) (dWI : Df P w K mg base CX0 1 "_law_word_in" spWordIn) (dDiv : Df P w K mg base CX0 1 "_law_divisor" spDivisor) :
    FnOk P w K mg base CX0 2 f fd ["text"] spIsFT := by
  refine F.ok scIsFT (fun vs H Q E h => ?_) (fun cdv A outer s H vs Q E hr h => ?_)
  · obtain ⟨z, rfl, _⟩ := h
    rfl
  · obtain ⟨z, rfl, za, lz, q⟩ := h
    refine ⟨_, (pss_cons (ps_set (i := 1) scIsFT.nd rfl (Or.inl rfl) (pe_bm PySem.F.plainAttrs_str PySem.F.slot_str_split PySem.F.type_str_split mt_split (pv 0) (pa_cons pe_str pa_nil)))
      (pss_cons (ps_set (i := 2) scIsFT.nd rfl (Or.inl rfl) (pe_ix ix_list (pv 1) pe_int (fun _ _ => rfl)))
      (pss_cons (ps_if (pt_cmpR op_eq (pe_slice sl_str (pv 2) po_none (po_some pe_int)) pe_str (nomark _)) (pss_cons (ps_set (i := 2) scIsFT.nd rfl (Or.inl rfl) (pe_slice sl_str (pv 2) (po_some pe_int) po_none))
      (pss_one (ps_if (pt_cmpR op_eq (pv 2) pe_str (nomark _)) (pss_one (ps_ret pe_bl)) pss_nil))) pss_nil)
      (pss_cons (ps_if (PW.pt (pw_or (pt_cmpR op_gt (pe_callB call_len_seq (by rfl) zl bt_len (pa_cons (pv 1) pa_nil)) pe_int (nomark _)) (pw_or1 (PW.pt (pw_and (pt_not (pt_val (pe_d dWI hr rfl (pa_cons (pv 2) pa_nil)))) (pw_and1 (pt_cmpR op_ne (pv 2) pe_str (nomark _)))))))) (pss_one (ps_ret pe_bl)) pss_nil)
      (pss_cons (ps_if (pt_cmpR op_eq (pe_callB call_len_seq (by rfl) zl bt_len (pa_cons (pv 1) pa_nil)) pe_int (nomark _)) (pss_one (ps_ret pe_bl)) pss_nil)
      (pss_one (ps_ret (pe_and (pe_d dWI hr rfl (pa_cons (pe_ix ix_list (pv 1) pe_int (fun _ _ => rfl)) pa_nil)) (pe_and (pe_cmpR op_ne (pe_ix ix_list (pv 1) pe_int (fun _ _ => rfl)) pe_str (nomark _)) (pe_one (pe_cmpR op_eq (pe_d dDiv hr rfl (pa_cons (pe_callTy (call_int_strW n0) (by rfl) zi bt_int (pa_cons (pv 2) pa_nil)) (pa_cons (pe_callTy (call_int_strW n0) (by rfl) zi bt_int (pa_cons (pe_ix ix_list (pv 1) pe_int (fun _ _ => rfl)) pa_nil)) pa_nil))) pe_int (nomark _)))))))))))), ?_⟩
    have zs : z.length + 2 ≤ sizeLine := by rw [sizeLine_eq]; omega
    obtain ⟨top, o, rest, ep, ec, r0, r1, r2⟩ := parts_cases z
    have hl := tl_len z
    have tz : ∀ c ∈ top, c ∈ TL.tl z := fun c hc => by
      rcases cutL_cases (TL.tl z) with ⟨_, h⟩ | ⟨p, r, h1, h2, h⟩
      · rw [ec] at h
        cases h
        exact hc
      · rw [ec] at h
        cases h
        rw [h1]
        exact List.mem_append_left _ hc
    have lens : top.length ≤ z.length ∧ ∀ r, o = some r → r.length ≤ z.length := by
      rcases cutL_cases (TL.tl z) with ⟨_, h⟩ | ⟨p, r, h1, h2, h⟩
      · rw [ec] at h
        cases h
        exact ⟨Nat.le_of_eq hl, fun r hr => (nomatch hr)⟩
      · rw [ec] at h
        cases h
        rw [h1, List.length_append, List.length_cons] at hl
        exact ⟨by omega, fun r' hr => by cases hr; omega⟩
    have ls := strip_len top
    have lt1 : (ofL top).length ≤ sizeLine := by rw [ofL_len, sizeLine_eq]; omega
    have lt2 : (ofL (stripL top)).length + 2 ≤ sizeLine := by rw [ofL_len, sizeLine_eq]; omega
    have lt3 : (ofL (stripL top)).length ≤ 4300 := by rw [ofL_len]; omega
    have c1 : canonW (ofL (stripL top)) = canonL (stripL top) := canonW_canonL _
    have a0 : atI ((ofL top :: rest).map V.str) 0 = some (.str (ofL top)) := atI_nat (j := 0) rfl
    have lw := lawL_cut ec
    have zt : TL.tl ("0" : Str) = [48] := by decide +kernel
    have mt : TL.tl ("-" : Str) = [45] := mi_tl
    walk_at "go"
    rw [ep]
    intro pl hpl
    walk_at "go"
    rw [cut_to1, ofL_tl]
    have fin : ∀ {H' : Hp} {b : Bool}, Same H H' → b = lawO top o → Q (.bl b) H' := fun s e => by rw [e, ← lw]; exact q _ s
    have s1 := same_new (o := .lst ((ofL top :: rest).map V.str)) hpl
    by_cases hm : top.take 1 = [45]
    case' pos =>
      have hs : stripL top = top.drop 1 := by rw [strip_pre, hm]; rfl
      have hh : decide (top.head? = some 45) = true := by
        cases top with
        | nil => cases hm
        | cons c r => rw [show c = 45 by injection hm]; rfl
      refine it_t (decide_eq_true (congrArg V.str (tl_ext (hm.trans mt.symm)))) ?_
      walk_at "go"
      rw [cut_from1, ofL_tl, ← hs]
      by_cases h0 : stripL top = [48]
      case' pos =>
        refine it_t (decide_eq_true (congrArg V.str (tl_ext (h0.trans zt.symm)))) ?_
        walk_at "go"
        have tf : topL top = false := by
          unfold topL
          rw [hh, decide_eq_true h0]
          rfl
        refine fin s1 ?_
        cases o with
        | none => exact tf.symm
        | some r => show false = (topL top && _ && _); rw [tf]; rfl
      case' neg =>
        refine it_f (decide_eq_false fun e => h0 (by injection e with e; have := congrArg TL.tl e; rw [zt] at this; exact this)) ?_
        have tp : topL top = (canonL (stripL top) || decide (stripL top = [48])) := by
          unfold topL
          rw [decide_eq_false h0, Bool.and_false]
          rfl
    case' neg =>
      have hs : stripL top = top := by
        rw [strip_pre]
        have : (top.take 1 == [45]) = false := by simp [hm]
        rw [this]
        rfl
      refine it_f (decide_eq_false fun e => hm (by injection e with e; have := congrArg TL.tl e; rw [mt] at this; exact this)) ?_
      have hh : decide (top.head? = some 45) = false := decide_eq_false fun e => hm (by
        cases top with
        | nil => cases e
        | cons c r => rw [show c = 45 by injection e]; rfl)
      have tp : topL top = (canonL (stripL top) || decide (stripL top = [48])) := by
        unfold topL
        rw [hh, Bool.false_and]
        rfl
      rw [show ofL top = ofL (stripL top) by rw [hs]]
      rw [show ofL top = ofL (stripL top) by rw [hs]] at s1
    all_goals
      walk_at "go"
      cases o with
      | none =>
        rw [r0 rfl]
        walk_at "no"
        walk_at "go"
        intro H2 s2
        have hpl2 := s2 _ _ upd_same
        walk_at "go"
        rw [c1]
        have s12 := (same_new hpl).trans s2
        cases hc : canonL (stripL top) with
        | false =>
          walk_at "yes"
          walk_at "go"
          by_cases h48 : stripL top = [48]
          · refine it_f (by rw [decide_eq_true (congrArg V.str (tl_ext (h48.trans zt.symm) : ofL (stripL top) = "0"))]; rfl) ?_
            have tt : topL top = true := by rw [tp, decide_eq_true h48, Bool.or_true]
            walk_at "go"
            walk_at "yes"
            walk_at "go"
            exact fin s12 tt.symm
          · refine it_t (by rw [decide_eq_false fun e => h48 (by injection e with e; have := congrArg TL.tl e; rw [zt] at this; exact this)]; rfl) ?_
            have tt : topL top = false := by rw [tp, hc, decide_eq_false h48]; rfl
            walk_at "go"
            refine fin s12 ?_
            exact tt.symm
        | true =>
          walk_at "no"
          walk_at "no"
          have tt : topL top = true := by rw [tp, hc, Bool.true_or]
          walk_at "go"
          walk_at "yes"
          walk_at "go"
          exact fin s12 tt.symm
      | some r =>
        by_cases h47 : 47 ∈ r
        · have l2 := r2 r rfl h47
          refine it_t (decide_eq_true (by rw [List.length_map, List.length_cons]; omega)) ?_
          walk_at "go"
          refine fin s1 ?_
          show false = (topL top && !decide (47 ∈ r) && _)
          rw [decide_eq_true h47, Bool.not_true, Bool.and_false, Bool.false_and]
        rw [r1 r rfl h47]
        walk_at "no"
        walk_at "go"
        intro H2 s2
        have hpl2 := s2 _ _ upd_same
        walk_at "go"
        rw [c1]
        have s12 := (same_new hpl).trans s2
        cases hc : canonL (stripL top) with
        | false =>
          walk_at "yes"
          walk_at "go"
          by_cases h48 : stripL top = [48]
          · refine it_f (by rw [decide_eq_true (congrArg V.str (tl_ext (h48.trans zt.symm) : ofL (stripL top) = "0"))]; rfl) ?_
            have tt : topL top = true := by rw [tp, decide_eq_true h48, Bool.or_true]
            walk_at "go"
            walk_at "no"
            have a1 : atI (List.map V.str [ofL (stripL top), ofL r]) 1 = some (.str (ofL r)) := atI_nat (j := 1) rfl
            have a1' : atI (List.map V.str [ofL top, ofL r]) 1 = some (.str (ofL r)) := atI_nat (j := 1) rfl
            have lr2 : (ofL r).length + 2 ≤ sizeLine := by
              have := lens.2 r rfl
              rw [ofL_len, sizeLine_eq]
              omega
            have lr3 : (ofL r).length ≤ 4300 := by
              have := lens.2 r rfl
              rw [ofL_len]
              omega
            have c2 : canonW (ofL r) = canonL r := canonW_canonL _
            have ds : decL (stripL top) = true := by
              rw [tp] at tt
              rcases Bool.or_eq_true _ _ ▸ tt with h | h
              · exact canon_dec h
              · rw [of_decide_eq_true h]; rfl
            have i1 := int_dec ds lt3
            have one : TL.tl ("1" : Str) = [49] := by decide +kernel
            walk_at "go"
            intro H3 s3
            have hpl3 := s3 _ _ hpl2
            have s13 := s12.trans s3
            rw [c2]
            walk_at "go"
            cases hr2 : canonL r with
            | false =>
              walk_at "no"
              refine fin s13 ?_
              show false = (topL top && !decide (47 ∈ r) && (canonL r && _ && _))
              rw [hr2, Bool.false_and, Bool.false_and, Bool.and_false]
            | true =>
              have i2 := int_dec (canon_dec hr2) lr3
              walk_at "yes"
              walk_at "go"
              by_cases h1 : r = [49]
              · refine it_f (by rw [decide_eq_true (congrArg V.str (tl_ext (h1.trans one.symm) : ofL r = "1"))]; rfl) ?_
                refine fin s13 ?_
                show false = (topL top && !decide (47 ∈ r) && (canonL r && !decide (r = [49]) && _))
                rw [decide_eq_true h1, Bool.not_true, Bool.and_false, Bool.false_and, Bool.and_false]
              · refine it_t (by rw [decide_eq_false fun e => h1 (by injection e with e; have := congrArg TL.tl e; rw [one] at this; exact this)]; rfl) ?_
                walk_at "go"
                refine fin s13 ?_
                show _ = (topL top && !decide (47 ∈ r) && (canonL r && !decide (r = [49]) && decide (Nat.gcd (digitsVal (stripL top)) (digitsVal r) = 1)))
                rw [tt, hr2, decide_eq_false h47, decide_eq_false h1]
                show _ = decide (Nat.gcd (digitsVal (stripL top)) (digitsVal r) = 1)
                refine decide_eq_decide.mpr ?_
                unfold gz
                rw [Int.natAbs_natCast, Int.natAbs_natCast]
                exact ⟨fun e => by injection e with e; omega, fun e => by rw [e]; rfl⟩
          · refine it_t (by rw [decide_eq_false fun e => h48 (by injection e with e; have := congrArg TL.tl e; rw [zt] at this; exact this)]; rfl) ?_
            have tt : topL top = false := by rw [tp, hc, decide_eq_false h48]; rfl
            walk_at "go"
            refine fin s12 ?_
            show false = (topL top && _ && _)
            rw [tt]
            rfl
        | true =>
          walk_at "no"
          walk_at "no"
          have tt : topL top = true := by rw [tp, hc, Bool.true_or]
          walk_at "go"
          walk_at "no"
          have a1 : atI (List.map V.str [ofL (stripL top), ofL r]) 1 = some (.str (ofL r)) := atI_nat (j := 1) rfl
          have a1' : atI (List.map V.str [ofL top, ofL r]) 1 = some (.str (ofL r)) := atI_nat (j := 1) rfl
          have lr2 : (ofL r).length + 2 ≤ sizeLine := by
            have := lens.2 r rfl
            rw [ofL_len, sizeLine_eq]
            omega
          have lr3 : (ofL r).length ≤ 4300 := by
            have := lens.2 r rfl
            rw [ofL_len]
            omega
          have c2 : canonW (ofL r) = canonL r := canonW_canonL _
          have ds : decL (stripL top) = true := by
            rw [tp] at tt
            rcases Bool.or_eq_true _ _ ▸ tt with h | h
            · exact canon_dec h
            · rw [of_decide_eq_true h]; rfl
          have i1 := int_dec ds lt3
          have one : TL.tl ("1" : Str) = [49] := by decide +kernel
          walk_at "go"
          intro H3 s3
          have hpl3 := s3 _ _ hpl2
          have s13 := s12.trans s3
          rw [c2]
          walk_at "go"
          cases hr2 : canonL r with
          | false =>
            walk_at "no"
            refine fin s13 ?_
            show false = (topL top && !decide (47 ∈ r) && (canonL r && _ && _))
            rw [hr2, Bool.false_and, Bool.false_and, Bool.and_false]
          | true =>
            have i2 := int_dec (canon_dec hr2) lr3
            walk_at "yes"
            walk_at "go"
            by_cases h1 : r = [49]
            · refine it_f (by rw [decide_eq_true (congrArg V.str (tl_ext (h1.trans one.symm) : ofL r = "1"))]; rfl) ?_
              refine fin s13 ?_
              show false = (topL top && !decide (47 ∈ r) && (canonL r && !decide (r = [49]) && _))
              rw [decide_eq_true h1, Bool.not_true, Bool.and_false, Bool.false_and, Bool.and_false]
            · refine it_t (by rw [decide_eq_false fun e => h1 (by injection e with e; have := congrArg TL.tl e; rw [one] at this; exact this)]; rfl) ?_
              walk_at "go"
              refine fin s13 ?_
              show _ = (topL top && !decide (47 ∈ r) && (canonL r && !decide (r = [49]) && decide (Nat.gcd (digitsVal (stripL top)) (digitsVal r) = 1)))
              rw [tt, hr2, decide_eq_false h47, decide_eq_false h1]
              show _ = decide (Nat.gcd (digitsVal (stripL top)) (digitsVal r) = 1)
              refine decide_eq_decide.mpr ?_
              unfold gz
              rw [Int.natAbs_natCast, Int.natAbs_natCast]
              exact ⟨fun e => by injection e with e; omega, fun e => by rw [e]; rfl⟩
theorem scFrIn : FnScope ["text", "parts"] ["text"] (defScope sFrIn) := ⟨rfl, rfl, rfl, by decide +kernel, rfl, by decide +kernel, by decide +kernel⟩
theorem ok_frin {f : Addr} {fd : FuncData} (F : Fun K "_law_fraction_in" "_law_fraction_in" sFrIn f fd) (zi : mg "int" = none) (n0 : PySem.W.nsIn K cStatics "sys.int_max_str_digits" = some none) : FnOk P w K mg base CX0 1 f fd ["text"] spFrIn := by
  refine F.ok scFrIn (fun vs H Q E h => ?_) (fun cdv A outer s H vs Q E hr h => ?_)
  · obtain ⟨z, t, b, rfl, _⟩ := h
    rfl
  · obtain ⟨z, t, b, rfl, lz, b1, ez, q⟩ := h
    refine ⟨_, (pss_cons (ps_set (i := 1) scFrIn.nd rfl (Or.inl rfl) (pe_op op_cat (pe_bm PySem.F.plainAttrs_str PySem.F.slot_str_split PySem.F.type_str_split mt_split (pv 0) (pa_cons pe_str pa_nil)) (pe_lst (pa_cons pe_str pa_nil))))
      (pss_one (ps_ret (pe_tup (pa_cons (pe_callTy (call_int_strW n0) (by rfl) zi bt_int (pa_cons (pe_ix ix_list (pv 1) pe_int (fun _ _ => rfl)) pa_nil)) (pa_cons (pe_callTy (call_int_strW n0) (by rfl) zi bt_int (pa_cons (pe_ix ix_list (pv 1) pe_int (fun _ _ => rfl)) pa_nil)) pa_nil)))))), ?_⟩
    have zs : z.length + 2 ≤ sizeLine := by rw [sizeLine_eq]; omega
    obtain ⟨top, o, rest, ep, ec, r0, r1, r2⟩ := parts_cases z
    rw [ez, fracS_tl, fracL_cut] at ec
    injection ec with e1 e2
    have lens : (ofL (numL t)).length ≤ z.length := by
      have hl := tl_len z
      rw [ez, fracS_tl] at hl
      unfold fracL at hl
      rw [List.length_append] at hl
      rw [ofL_len, ← tl_len z, ez, fracS_tl]
      unfold fracL
      rw [List.length_append]
      omega
    have i1 : PySem.intText? (ofL (numL t)) = some t := by
      have := int_top (l := numL t) (by rw [strip_num]; exact decL_digs _) (by rw [ofL_len] at lens; omega)
      rw [val_num] at this
      exact this
    have l3 : (ofL (numL t)).length ≤ 4300 := by omega
    walk_at "go"
    rw [ep, ← e1]
    have one : TL.tl ("1" : Str) = [49] := by decide +kernel
    by_cases hb : b = 1
    case' pos =>
      rw [if_pos hb] at e2
      rw [r0 e2.symm]
      have i2 : PySem.intText? ("1" : Str) = some b := by rw [hb]; exact int_dec (l := [49]) rfl (by decide)
      have l2 : (("1" : Str)).length ≤ 4300 := by decide
      have a1 : atI (List.map V.str [ofL (numL t)] ++ [V.str "1"]) 1 = some (.str "1") := atI_nat (j := 1) rfl
      have a0 : atI (List.map V.str [ofL (numL t)] ++ [V.str "1"]) 0 = some (.str (ofL (numL t))) := atI_nat (j := 0) rfl
    case' neg =>
      rw [if_neg hb] at e2
      rw [r1 _ e2.symm numL_no]
      have i2 : PySem.intText? (ofL (numL b)) = some b := by
        have := int_top (l := numL b) (by rw [strip_num]; exact decL_digs _) (by
          have hl := tl_len z
          rw [ez, fracS_tl] at hl
          unfold fracL at hl
          rw [if_neg hb, List.length_append, List.length_cons] at hl
          rw [← ez] at hl
          omega)
        rw [val_num] at this
        exact this
      have l2 : (ofL (numL b)).length ≤ 4300 := by
        have hl := tl_len z
        rw [ez, fracS_tl] at hl
        unfold fracL at hl
        rw [if_neg hb, List.length_append, List.length_cons] at hl
        rw [← ez] at hl
        rw [ofL_len]
        omega
      have a1 : atI (List.map V.str [ofL (numL t), ofL (numL b)] ++ [V.str "1"]) 1 = some (.str (ofL (numL b))) := atI_nat (j := 1) rfl
      have a0 : atI (List.map V.str [ofL (numL t), ofL (numL b)] ++ [V.str "1"]) 0 = some (.str (ofL (numL t))) := atI_nat (j := 0) rfl
    all_goals
      intro pl hpl
      walk_at "go"
      intro pm hpm
      walk_at "go"
      intro pn hpn
      walk_at "go"
      intro pr hpr
      walk_at "go"
      exact q pr _ ((((same_new hpl).trans (same_new hpm)).trans (same_new hpn)).trans (same_new hpr)) (fresh (fresh (fresh hpr).2).2).2 upd_same
end
end Paw

set_option maxRecDepth 100000
set_option maxHeartbeats 4000000
namespace Paw
open PySem PySem.Spec PyProof.Rows L2 PySem.NumText
local macro_rules | `(tactic| walk_at "ne") => `(tactic| first | assumption | exact Ne.symm (by assumption) | exact ne_of_none (by assumption) (by assumption) | exact (ne_of_none (by assumption) (by assumption)).symm | exact (fresh (by assumption)).1 | exact (fresh (by assumption)).1.symm | exact (fresh (fresh (by assumption)).2).1 | exact (fresh (fresh (by assumption)).2).1.symm | exact (fresh (fresh (fresh (by assumption)).2).2).1.symm)
local macro_rules | `(tactic| walk_at "hp") => `(tactic| first | with_reducible assumption | with_reducible exact upd_same | ((with_reducible refine Eq.trans (upd_ne (by walk_at "ne")) ?_); walk_at "hp") | ((with_reducible refine Same.at (by assumption) ?_); walk_at "hp"))
local macro_rules | `(tactic| walk_at "g2") => `(tactic| first | ((with_reducible show _ = some _); walk_at "hp") | ((with_reducible apply SqT.of); walk_at "hp") | ((with_reducible apply SqL.of); walk_at "hp") | ((with_reducible show SqT _ _ _ _); first | assumption | exact sqt_mono (same_new (by assumption)) (by assumption)) | ((with_reducible show SqL _ _ _ _); first | assumption | exact Same.seq (same_new (by assumption)) (by assumption)) | ((with_reducible show (SqL _ _ _ _ ∨ SqT _ _ _ _)); first | exact Or.inl (SqL.of (by walk_at "hp")) | exact Or.inr (SqT.of (by walk_at "hp")) | exact Or.inl (by assumption) | exact Or.inr (by assumption)) | ((with_reducible show tyV _ _ _ _); first | exact rfl | exact Or.inl ⟨rfl, _, SqL.of (by walk_at "hp")⟩) | ((with_reducible apply RD.tupH); (walk_at "hp"); walk_at "rds") | ((with_reducible apply RD.lstH); (walk_at "hp"); walk_at "rds") | ((with_reducible show TruV _ _ _ _); exact rfl) | with_reducible exact RD.int _ | with_reducible exact RD.str _ | with_reducible exact RD.bl _ | with_reducible exact RD.non | with_reducible exact ClsV.ty _ | with_reducible exact ClsV.own _ | ((with_reducible show ExV _ _); assumption) | ((with_reducible show KeptIs _ _ _ _ _); first | exact KeptIs.none (by assumption) | exact KeptIs.exc (by walk_at "hp") (by walk_at "hp") (by assumption) (by assumption)) | ((with_reducible show TyX _ _ _ _); exact RD.ty (by assumption)))
local macro_rules | `(tactic| walk_at "rds") => `(tactic| repeat' (first | with_reducible exact RDs.nil | with_reducible apply RDs.cons | with_reducible assumption | walk_at "g2"))
local macro_rules | `(tactic| walk_at "g1") => `(tactic| (fail_if_success (with_reducible refine it_t ?_ ?_)); first | (with_reducible rfl) | ((with_reducible show (_ : Prop)); with_reducible assumption) | with_reducible exact trivial | with_reducible exact upd_same | walk_at "g2" | ((with_reducible show _ = _); (fail_if_success (with_reducible show PySem.intText? _ = _)); law_purse 4000 => exact rfl) | ((with_reducible show _ ≤ _); first | law_purse 300 => exact Nat.le_of_ble_eq_true rfl | decide +kernel) | ((with_reducible show _ < _); first | decide +kernel | law_purse 500 => decide) | ((with_reducible show _ ≠ _); law_purse 500 => decide) | ((with_reducible show _ = _); law_purse 500 => first | assumption | decide) | law_purse 2000 => ((fail_if_success (show (∃ W : Nat → Nat → L2.St → Hp → Prop, _))); (fail_if_success (show (∃ W : Nat → Nat → Hp → Prop, _))); apply Exists.intro) | law_purse 1000 => apply And.intro | (law_purse 1000 => ((apply Or.inl); (apply Exists.intro); (apply And.intro); (with_reducible rfl))) | (law_purse 1000 => ((apply Or.inr); (apply Exists.intro); (apply And.intro); (with_reducible rfl))))
local macro_rules | `(tactic| walk_at "go") => `(tactic| repeat' (walk_at "g1"))
local macro_rules | `(tactic| walk_at "yes") => `(tactic| ((with_reducible apply it_t); first | exact rfl | exact decide_eq_true rfl))
local macro_rules | `(tactic| walk_at "no") => `(tactic| ((with_reducible apply it_f); first | exact rfl | (refine decide_eq_false fun e => ?_; injection e with e; simp at e; done)))
/-! ### what a call says -/
def spSaid0 (K : PySem.W.Frag) : Sp := fun vs H Q _ => ∃ (x : V) (d : PyData), vs = [.int 0, x] ∧ RD K H x d ∧ (isF d = false → ∀ r H', Same H H' → H r = none → H' r = some (.lst [.str "fraction", x]) → Q (.ref r) H') ∧
  ∀ t b : Int, d = .tuple [.int t, .int b] → IsFr t b → t.natAbs.log2 < 12900 ∧ (b ≠ 1 → t.natAbs.log2 < 1920 ∧ b.natAbs.log2 < 1920) ∧ ∀ r H', Same H H' → H r = none → H' r = some (.lst [.str "told", .str (fracS t b)]) → Q (.ref r) H'
def spSaid1 (K : PySem.W.Frag) : Sp := fun vs H Q _ => ∃ (x : V) (d : PyData), vs = [.int 1, x] ∧ RD K H x d ∧ (∀ z, d = .str z → TxtOk z) ∧ (readD0 d = none → ∀ r H', Same H H' → H r = none → H' r = some (.lst [.str "text", x]) → Q (.ref r) H') ∧
  ∀ t b : Int, readD0 d = some (t, b) → ∀ q r H', Same H H' → H q = none → H' q = some (.tup [.int t, .int b]) → H r = none → H' r = some (.lst [.str "told", .ref q]) → Q (.ref r) H'
def spSaid (K : PySem.W.Frag) : Sp := fun vs H Q E => spSaid0 K vs H Q E ∨ spSaid1 K vs H Q E
/-- two classes of errors, told apart -/
structure Two (K : PySem.W.Frag) (cF cX : Addr) : Prop where
  nF : PySem.W.kitOne K (.type "NoneType") (.ref cF) = some false
  nX : PySem.W.kitOne K (.type "NoneType") (.ref cX) = some false
  FF : PySem.W.kitOne K (.ref cF) (.ref cF) = some true
  XF : PySem.W.kitOne K (.ref cX) (.ref cF) = some false
  XX : PySem.W.kitOne K (.ref cX) (.ref cX) = some true
section
variable {P : Program} {w : World} {K : PySem.W.Frag} {mg : Str → Option Value} {base : Heap}
theorem scSaid : FnScope ["which", "thing", "error", "found", "e"] ["which", "thing"] (defScope sSaid) := ⟨rfl, rfl, rfl, by decide +kernel, rfl, by decide +kernel, by decide +kernel⟩
theorem ok_said {f cF cX cH : Addr} {fd : FuncData} (F : Fun K "_law_said" "_law_said" sSaid f fd) (TF : Kv P w K mg base "NoFraction" "value" cF) (TX : Kv P w K mg base "NoText" "value" cX) (T2 : Two K cF cX)
    (gH : mg "HallError" = some (.ref cH)) (xF : PySem.W.exmOne K (.ref cF) (.ref cH) = some true) (xX : PySem.W.exmOne K (.ref cX) (.ref cH) = some true)
    (dFT : Df P w K mg base (_root_.L2.CX P w) 3 "fraction_text" (spFText K cF)) (dRF : Df P w K mg base (_root_.L2.CX P w) 5 "read_fraction" (spRFrac K cX)) (zs : mg "isinstance" = none) : FnOk P w K mg base CX0 6 f fd ["which", "thing"] (spSaid K) := by
  refine F.ok scSaid (fun vs H Q E h => ?_) (fun cdv A outer s H vs Q E hr h => ?_)
  · rcases h with ⟨x, d, rfl, _⟩ | ⟨x, d, rfl, _⟩ <;> rfl
  · have vF := TF.v
    have vX := TX.v
    have oF := TF.no
    have oX := TX.no
    obtain ⟨nF, nX, FF, XF, XX⟩ := T2
    have lk : ∀ v : V, ([(("value" : Str), v)] : List (Str × V)).lookup ("value" : Str) = some v := fun v => (lookup_put _ _ _ _).trans (if_pos rfl)
    rcases h with ⟨x, d, rfl, hd, qn, qs⟩ | ⟨x, d, rfl, hd, zok, qn, qs⟩
    all_goals
      refine ⟨_, (pss_cons (ps_set (i := 2) scSaid.nd rfl (Or.inl rfl) pe_non)
      (pss_cons (ps_set (i := 3) scSaid.nd rfl (Or.inl rfl) pe_non)
      (pss_cons (ps_try_keep (i := 4) rfl rfl rfl scSaid.nd rfl rfl ⟨rfl, by decide, .inl gH⟩ takes0 (fun W pn xe tk _ => (pss_one (ps_if (pt_cmpR op_eq (pv 0) pe_int (nomark _)) (pss_one (ps_set (i := 3) scSaid.nd rfl (Or.inl rfl) (pe_dx dFT hr rfl (fun σ => passAt tk σ) (pa_cons (pv 1) pa_nil)))) (pss_one (ps_set (i := 3) scSaid.nd rfl (Or.inl rfl) (pe_dx dRF hr rfl (fun σ => passAt tk σ) (pa_cons (pv 1) pa_nil)))))))
        (fun a pn => (pss_one (ps_set (i := 2) scSaid.nd rfl (Or.inl rfl) (pv 4)))))
      (pss_cons (ps_if (pt_val (pe_callB call_kept2 (by rfl) zs bt_isinstance (pa_cons (pv 2) (pa_cons (pe_glob (v := .ref cF) rfl TF.g rfl) pa_nil)))) (pss_one (ps_ret (pe_lst (pa_cons pe_str (pa_cons (pe_excFld2 (pv 2)) pa_nil))))) pss_nil)
      (pss_cons (ps_if (pt_val (pe_callB call_kept2 (by rfl) zs bt_isinstance (pa_cons (pv 2) (pa_cons (pe_glob (v := .ref cX) rfl TX.g rfl) pa_nil)))) (pss_one (ps_ret (pe_lst (pa_cons pe_str (pa_cons (pe_excFld2 (pv 2)) pa_nil))))) pss_nil)
      (pss_one (ps_ret (pe_lst (pa_cons pe_str (pa_cons (pv 3) pa_nil)))))))))), ?_⟩
      walk_at "go"
    · walk_at "yes"
      walk_at "go"
      · intro hF d2 H2 nd s2 e2
        refine ⟨true, xF, fun _ a ha => ?_, fun z => nomatch z⟩
        have nd2 : d2 ≠ a := ne_of_none e2 ha
        have hd2 : (upd H2 a (exr a (.ref cF) (some d2))) d2 = some (.xd [("value", x)]) := (upd_ne nd2).trans e2
        have hl := lk x
        walk_at "go"
        walk_at "yes"
        walk_at "go"
        intro r hr3
        exact qn hF r _ ((s2.trans (same_new ha)).trans (same_new hr3)) ((s2.trans (same_new ha)).free hr3) upd_same
      · intro t b e fr
        obtain ⟨q1, q2, q3⟩ := qs t b e fr
        refine ⟨q1, q2, ?_⟩
        walk_at "go"
        walk_at "no"
        walk_at "go"
        walk_at "no"
        walk_at "go"
        intro r hr3
        exact q3 r _ (same_new hr3) hr3 upd_same
    · walk_at "no"
      walk_at "go"
      · intro hN d2 H2 nd s2 e2
        refine ⟨true, xX, fun _ a ha => ?_, fun z => nomatch z⟩
        have nd2 : d2 ≠ a := ne_of_none e2 ha
        have hd2 : (upd H2 a (exr a (.ref cX) (some d2))) d2 = some (.xd [("value", x)]) := (upd_ne nd2).trans e2
        have hl := lk x
        walk_at "go"
        walk_at "no"
        walk_at "go"
        walk_at "yes"
        walk_at "go"
        intro r hr3
        exact qn hN r _ ((s2.trans (same_new ha)).trans (same_new hr3)) ((s2.trans (same_new ha)).free hr3) upd_same
      · intro t b e q1 H' s1 nq eq1
        walk_at "go"
        walk_at "no"
        walk_at "go"
        walk_at "no"
        walk_at "go"
        intro r hr3
        exact qs t b e q1 r _ (s1.trans (same_new hr3)) nq ((same_new hr3) _ _ eq1) (s1.free hr3) upd_same
end
end Paw

set_option maxRecDepth 100000
set_option maxHeartbeats 4000000
namespace Paw
open PySem PySem.Spec PyProof.Rows L2 PySem.NumText
local macro_rules | `(tactic| walk_at "ne") => `(tactic| first | assumption | exact Ne.symm (by assumption) | exact ne_of_none (by assumption) (by assumption) | exact (ne_of_none (by assumption) (by assumption)).symm | exact (fresh (by assumption)).1 | exact (fresh (by assumption)).1.symm | exact (fresh (fresh (by assumption)).2).1 | exact (fresh (fresh (by assumption)).2).1.symm | exact (fresh (fresh (fresh (by assumption)).2).2).1.symm)
local macro_rules | `(tactic| walk_at "hp") => `(tactic| first | with_reducible assumption | with_reducible exact upd_same | ((with_reducible refine Eq.trans (upd_ne (by walk_at "ne")) ?_); walk_at "hp") | ((with_reducible refine Same.at (by assumption) ?_); walk_at "hp"))
local macro_rules | `(tactic| walk_at "g2") => `(tactic| first | ((with_reducible show _ = some _); walk_at "hp") | ((with_reducible apply SqT.of); walk_at "hp") | ((with_reducible apply SqL.of); walk_at "hp") | ((with_reducible show SqT _ _ _ _); first | assumption | exact sqt_mono (same_new (by assumption)) (by assumption)) | ((with_reducible show SqL _ _ _ _); first | assumption | exact Same.seq (same_new (by assumption)) (by assumption)) | ((with_reducible show (SqL _ _ _ _ ∨ SqT _ _ _ _)); first | exact Or.inl (SqL.of (by walk_at "hp")) | exact Or.inr (SqT.of (by walk_at "hp")) | exact Or.inl (by assumption) | exact Or.inr (by assumption)) | ((with_reducible show tyV _ _ _ _); first | exact rfl | exact Or.inl ⟨rfl, _, SqL.of (by walk_at "hp")⟩) | ((with_reducible apply RD.tupH); (walk_at "hp"); walk_at "rds") | ((with_reducible apply RD.lstH); (walk_at "hp"); walk_at "rds") | ((with_reducible show TruV _ _ _ _); exact rfl) | with_reducible exact RD.int _ | with_reducible exact RD.str _ | with_reducible exact RD.bl _ | with_reducible exact RD.non | with_reducible exact ClsV.ty _ | with_reducible exact ClsV.own _ | ((with_reducible show ExV _ _); assumption) | ((with_reducible show KeptIs _ _ _ _ _); first | exact KeptIs.none (by assumption) | exact KeptIs.exc (by walk_at "hp") (by walk_at "hp") (by assumption) (by assumption)) | ((with_reducible show TyX _ _ _ _); exact RD.ty (by assumption)))
local macro_rules | `(tactic| walk_at "rds") => `(tactic| repeat' (first | with_reducible exact RDs.nil | with_reducible apply RDs.cons | with_reducible assumption | walk_at "g2"))
local macro_rules | `(tactic| walk_at "g1") => `(tactic| (fail_if_success (with_reducible refine it_t ?_ ?_)); first | (with_reducible rfl) | ((with_reducible show (_ : Prop)); with_reducible assumption) | with_reducible exact trivial | with_reducible exact upd_same | walk_at "g2" | ((with_reducible show _ = _); (fail_if_success (with_reducible show PySem.intText? _ = _)); law_purse 4000 => exact rfl) | ((with_reducible show _ ≤ _); first | law_purse 300 => exact Nat.le_of_ble_eq_true rfl | decide +kernel) | ((with_reducible show _ < _); first | decide +kernel | law_purse 500 => decide) | ((with_reducible show _ ≠ _); law_purse 500 => decide) | ((with_reducible show _ = _); law_purse 500 => first | assumption | decide) | law_purse 2000 => ((fail_if_success (show (∃ W : Nat → Nat → L2.St → Hp → Prop, _))); (fail_if_success (show (∃ W : Nat → Nat → Hp → Prop, _))); apply Exists.intro) | law_purse 1000 => apply And.intro | (law_purse 1000 => ((apply Or.inl); (apply Exists.intro); (apply And.intro); (with_reducible rfl))) | (law_purse 1000 => ((apply Or.inr); (apply Exists.intro); (apply And.intro); (with_reducible rfl))))
local macro_rules | `(tactic| walk_at "go") => `(tactic| repeat' (walk_at "g1"))
local macro_rules | `(tactic| walk_at "yes") => `(tactic| ((with_reducible apply it_t); first | exact rfl | exact decide_eq_true rfl))
local macro_rules | `(tactic| walk_at "no") => `(tactic| ((with_reducible apply it_f); first | exact rfl | (refine decide_eq_false fun e => ?_; injection e with e; simp at e; done)))
/-! ### great fractions -/
def spFr1 : Sp := fun vs H Q _ => ∃ t : Int, vs = [.int t] ∧ ∀ p, H p = none → Q (.ref p) (upd H p (.tup [.int t, .int 1]))
def spFr2 : Sp := fun vs H Q _ => ∃ t b : Int, vs = [.int t, .int b] ∧ b ≠ 0 ∧ b.natAbs < 2 ^ 8000 ∧ ∀ p, H p = none → Q (.ref p) (upd H p (.tup [.int (low t b).1, .int (low t b).2]))
theorem fr2_of {K : PySem.W.Frag} {C : Addr} : ∀ vs H Q E, spFr2 vs H Q E → spFraction K C vs H Q E := by
  rintro vs H Q E ⟨t, b, rfl, b0, bs, q⟩
  refine ⟨_, _, _, _, rfl, .int _, .int _, noI, noB b0, fun t' b' e1 e2 _ => ?_⟩
  injection e1 with e1
  injection e2 with e2
  subst e1
  subst e2
  exact ⟨bs, q⟩
theorem fr1_of {K : PySem.W.Frag} {C : Addr} : ∀ vs H Q E, spFr1 vs H Q E → spFraction K C (vs ++ [.int 1]) H Q E := by
  rintro vs H Q E ⟨t, rfl, q⟩
  refine ⟨_, _, _, _, rfl, .int _, .int _, noI, noB (by decide), fun t' b' e1 e2 _ => ?_⟩
  injection e1 with e1
  injection e2 with e2
  subst e1
  subst e2
  rw [low_id (m := t) (c := 1) (by decide) gz_one]
  exact ⟨by decide +kernel, q⟩
/-- the product of two fractions -/
def spProd2 (K : PySem.W.Frag) : Sp := fun vs H Q _ => ∃ (p q : Addr) (t b m c : Int), vs = [.ref p, .ref q] ∧ SqT K H p [.int t, .int b] ∧ SqT K H q [.int m, .int c] ∧ IsFr t b ∧ IsFr m c ∧ t.natAbs < 2 ^ 3600 ∧ b.natAbs < 2 ^ 3600 ∧ m.natAbs < 2 ^ 3600 ∧ c.natAbs < 2 ^ 3600 ∧
  ∀ (r : Addr) (H' : Hp), Same H H' → H r = none → H' r = some (.tup [.int (stepP t b m c).1, .int (stepP t b m c).2]) → Q (.ref r) H'
theorem foldP2 {t b m c : Int} (h : IsFr t b) : foldS stepP [.tuple [.int t, .int b], .tuple [.int m, .int c]] 1 1 = stepP t b m c := by
  have e1 : stepP 1 1 t b = (t, b) := by
    unfold stepP
    rw [Int.one_mul, Int.one_mul, low_id h.pos h.low_]
  show (let x := stepP 1 1 t b; foldS stepP [.tuple [.int m, .int c]] x.1 x.2) = _
  rw [e1]
  rfl
theorem prod2_of {K : PySem.W.Frag} {C : Addr} : ∀ vs H Q E, spProd2 K vs H Q E → spSumG K C stepP 1 vs H Q E := by
  rintro vs H Q E ⟨p, q, t, b, m, c, rfl, h1, h2, f1, f2, s1, s2, s3, s4, k⟩
  have bad : firstBad [V.ref p, V.ref q] [.tuple [.int t, .int b], .tuple [.int m, .int c]] = none := by
    show (if isF (.tuple [.int t, .int b]) then (if isF (.tuple [.int m, .int c]) then none else some (V.ref q)) else some (V.ref p)) = none
    rw [fr_isF f1, fr_isF f2]
    rfl
  refine ⟨[.tuple [.int t, .int b], .tuple [.int m, .int c]], .cons (.tup h1 (.cons (.int _) (.cons (.int _) .nil))) (.cons (.tup h2 (.cons (.int _) (.cons (.int _) .nil))) .nil), Nat.le_refl 2, fun d hd => ?_, fun v hv => ?_, fun _ r H' s hr e => ?_⟩
  · rcases List.mem_cons.mp hd with rfl | hd
    · exact ⟨s1, s2⟩
    · rw [List.mem_singleton.mp hd]
      exact ⟨s3, s4⟩
  · rw [bad] at hv
    cases hv
  · rw [foldP2 f1] at e
    exact k r H' s hr e
theorem lt36 {i : Int} {n : Nat} (h : i.natAbs ≤ n) (g : n < 2 ^ 200) : i.natAbs < 2 ^ 3600 := Nat.lt_of_le_of_lt h (Nat.lt_of_lt_of_le g (Nat.pow_le_pow_right (by decide) (by decide)))
theorem frac_len {t b : Int} (h : t.natAbs.log2 < 100) (g : b.natAbs.log2 < 100) : (fracS t b).length ≤ 500 := by
  have l1 : (numS t).length ≤ 101 := by
    unfold numS
    rw [PySem.ofString_length]
    exact int_text_length_le (k := 100) (by decide) h
  have l2 : (numS b).length ≤ 101 := by
    unfold numS
    rw [PySem.ofString_length]
    exact int_text_length_le (k := 100) (by decide) g
  have l3 : slS.length = 1 := rfl
  unfold fracS
  split
  · omega
  · rw [Str.length_append, Str.length_append]
    omega
/-- the text of ten to the n -/
theorem digs_pow (n : Nat) : digs (10 ^ n) = 49 :: List.replicate n 48 := by
  induction n with
  | zero => exact digs_one
  | succ n ih =>
    have h : 10 ≤ 10 ^ (n + 1) := by
      have := Nat.pow_le_pow_right (n := 10) (by decide) (show 1 ≤ n + 1 by omega)
      exact this
    rw [digs_step h]
    have e1 : 10 ^ (n + 1) / 10 = 10 ^ n := by rw [Nat.pow_succ]; exact Nat.mul_div_cancel _ (by decide)
    have e2 : 10 ^ (n + 1) % 10 = 0 := by rw [Nat.pow_succ]; exact Nat.mul_mod_left _ _
    rw [e1, e2, ih, List.replicate_succ']
    rfl
theorem num_pow (n : Nat) : numS (((10 ^ n : Nat) : Int)) = ("1" : Str) ++ repL n 48 := tl_ext (by
  rw [numS_tl, numL_pos (Int.natCast_nonneg _), Int.natAbs_natCast, digs_pow, tl_app]
  have : TL.tl ("1" : Str) = [49] := by decide +kernel
  rw [this]
  show _ = [49] ++ (List.replicate n 48).toArray.toList
  simp)
theorem pow_small {i : Nat} (h : i ≤ 111) : (((10 ^ (9 * i) : Nat) : Int)).natAbs < 2 ^ 3600 ∧ (((10 ^ (9 * i) : Nat) : Int)).natAbs.log2 < 12900 := by
  have h1 : 10 ^ (9 * i) ≤ 10 ^ 999 := Nat.pow_le_pow_right (by decide) (by omega)
  have h2 : 10 ^ 999 < 2 ^ 3600 := by decide +kernel
  have h3 : (((10 ^ (9 * i) : Nat) : Int)).natAbs < 2 ^ 3600 := by rw [Int.natAbs_natCast]; omega
  exact ⟨h3, Nat.lt_of_lt_of_le (lg h3 (by decide)) (by decide)⟩
theorem stepP_one {t m : Int} : stepP t 1 m 1 = (t * m, 1) := by
  unfold stepP
  rw [Int.one_mul, low_id (by decide) gz_one]
def spPileT : Sp := fun vs H Q _ => ∃ (p : Addr) (b : Bool) (L : List V), vs = [.ref p] ∧ H p = some (.lst L) ∧ Pile b L ∧ ∀ (L' : List V) (H' : Hp), But p H H' → H' p = some (.lst L') → Pile b L' → Q (.bl true) H'
def spTrue0 : Sp := fun vs H Q _ => vs = [] ∧ ∀ H', Same H H' → Q (.bl true) H'
section
variable {P : Program} {w : World} {K : PySem.W.Frag} {mg : Str → Option Value} {base : Heap}
theorem scGreatFR : FnScope ["pile", "one", "other", "great"] ["pile"] (defScope sGreatFR) := ⟨rfl, rfl, rfl, by decide +kernel, rfl, by decide +kernel, by decide +kernel⟩
theorem ok_greatfr {f : Addr} {fd : FuncData} (F : Fun K "_law_great_right" "_law_great_right" sGreatFR f fd) (dTake : Df P w K mg base CX0 2 "_law_take" spTake) (dFr1 : Df P w K mg base (_root_.L2.CX P w) 3 "fraction" spFr1) (dFr2 : Df P w K mg base (_root_.L2.CX P w) 3 "fraction" spFr2)
    (dProd : Df P w K mg base (_root_.L2.CX P w) 4 "product" (spProd2 K)) (dWr : Df P w K mg base CX0 1 "_law_written" (spFWritten K)) (dSaid0 : Df P w K mg base CX0 6 "_law_said" (spSaid0 K)) (dSaid1 : Df P w K mg base CX0 6 "_law_said" (spSaid1 K)) : FnOk P w K mg base CX0 7 f fd ["pile"] spPileT := by
  refine F.ok scGreatFR (fun vs H Q E h => ?_) (fun cdv A outer s H vs Q E hr h => ?_)
  · obtain ⟨p, b, L, rfl, _⟩ := h
    rfl
  · obtain ⟨p, b, L, rfl, hp, hL, q⟩ := h
    refine ⟨_, (pss_cons (ps_par (i := 1) (j := 2) (by rfl) scGreatFR.nd rfl rfl (by decide) rfl rfl (pa_cons (pe_op op_add (pe_op op_pow pe_int pe_int) (pe_d dTake hr rfl (pa_cons (pv 0) (pa_cons (pe_op op_pow pe_int pe_int) pa_nil)))) (pa_cons (pe_op op_add (pe_op op_pow pe_int pe_int) (pe_d dTake hr rfl (pa_cons (pv 0) (pa_cons (pe_op op_pow pe_int pe_int) pa_nil)))) pa_nil)) (by rfl))
      (pss_cons (ps_set (i := 3) scGreatFR.nd rfl (Or.inl rfl) (pe_dx dProd hr rfl (fun σ => calmAt σ) (pa_cons (pe_dx dFr1 hr rfl (fun σ => calmAt σ) (pa_cons (pv 1) pa_nil)) (pa_cons (pe_dx dFr2 hr rfl (fun σ => calmAt σ) (pa_cons (pv 2) (pa_cons (pe_op op_add pe_int (pe_d dTake hr rfl (pa_cons (pv 0) (pa_cons (pe_op op_pow pe_int pe_int) pa_nil)))) pa_nil))) pa_nil))))
      (pss_cons (ps_if (pt_cmpR (op_neR hr.units) (pe_d dSaid0 hr rfl (pa_cons pe_int (pa_cons (pv 3) pa_nil))) (pe_lst (pa_cons pe_str (pa_cons (pe_d dWr hr rfl (pa_cons (pv 3) pa_nil)) pa_nil))) (nomark _)) (pss_one (ps_ret pe_bl)) pss_nil)
      (pss_one (ps_ret (pe_cmpR (op_eqR hr.units) (pe_d dSaid1 hr rfl (pa_cons pe_int (pa_cons (pe_d dWr hr rfl (pa_cons (pv 3) pa_nil)) pa_nil))) (pe_lst (pa_cons pe_str (pa_cons (pv 3) pa_nil))) (nomark _))))))), ?_⟩
    have e6 : (10 : Int) ^ (6 : Int).toNat = 1000000 := by decide +kernel
    have e9 : (10 : Int) ^ (9 : Int).toNat = 1000000000 := by decide +kernel
    walk_at "go"
    intro r1 L1 H1 a0 a1 hL1 b1 hp1
    walk_at "go"
    intro r2 L2 H2 a2 a3 hL2 b2 hp2
    walk_at "go"
    intro q1 hq1
    have n1 : q1 ≠ p := (ne_of_none hp2 hq1).symm
    have hp2' : (upd H2 q1 (.tup [.int ((10 : Int) ^ (9 : Int).toNat + r1), .int 1])) p = some (.lst L2) := (upd_ne n1.symm).trans hp2
    walk_at "go"
    intro r3 L3 H3 a4 a5 hL3 b3 hp3
    rw [e6] at a1 a3 a5
    have hq1' : H3 q1 = some (.tup [.int ((10 : Int) ^ (9 : Int).toNat + r1), .int 1]) := b3 _ _ n1 upd_same
    have b0 : (1 + r3 : Int) ≠ 0 := by omega
    have bs : (1 + r3 : Int).natAbs < 2 ^ 8000 := Nat.lt_of_lt_of_le (m := 2 ^ 30) (by omega) (Nat.pow_le_pow_right (by decide) (by decide))
    walk_at "go"
    intro q2 hq2
    have f1 : IsFr ((10 : Int) ^ (9 : Int).toNat + r1) 1 := ⟨by decide, gz_one⟩
    have f2 := fr_low (t := (10 : Int) ^ (9 : Int).toNat + r2) b0
    have z0 : ((10 : Int) ^ (9 : Int).toNat + r1).natAbs < 2 ^ 40 := by rw [e9]; omega
    have z2 : (low ((10 : Int) ^ (9 : Int).toNat + r2) (1 + r3)).1.natAbs < 2 ^ 40 := Nat.lt_of_le_of_lt low_abs1 (by rw [e9]; omega)
    have z3 : (low ((10 : Int) ^ (9 : Int).toNat + r2) (1 + r3)).2.natAbs < 2 ^ 40 := Nat.lt_of_le_of_lt low_abs2 (by omega)
    have up40 : ∀ {i : Int}, i.natAbs < 2 ^ 40 → i.natAbs < 2 ^ 3600 := fun h => Nat.lt_of_lt_of_le h (Nat.pow_le_pow_right (by decide) (by decide))
    generalize hv : low ((10 : Int) ^ (9 : Int).toNat + r2) (1 + r3) = v at *
    obtain ⟨v1, v2⟩ := v
    have u0 := up40 z0
    have u2 := up40 z2
    have u3 := up40 z3
    walk_at "go"
    intro q3 H4 s4 hq3 he3
    have fg : IsFr (stepP ((10 : Int) ^ (9 : Int).toNat + r1) 1 v1 v2).1 (stepP ((10 : Int) ^ (9 : Int).toNat + r1) 1 v1 v2).2 := fr_low (by have := f2.pos; rw [Int.one_mul]; show v2 ≠ 0; intro z; have h' : (1 : Int) ≤ v2 := this; omega)
    have g1 : (stepP ((10 : Int) ^ (9 : Int).toNat + r1) 1 v1 v2).1.natAbs < 2 ^ 80 := Nat.lt_of_le_of_lt low_abs1 (wide_lt z0 z2)
    have g2 : (stepP ((10 : Int) ^ (9 : Int).toNat + r1) 1 v1 v2).2.natAbs < 2 ^ 80 := Nat.lt_of_le_of_lt low_abs2 (by rw [Int.one_mul]; exact Nat.lt_of_lt_of_le z3 (Nat.pow_le_pow_right (by decide) (by decide)))
    generalize stepP ((10 : Int) ^ (9 : Int).toNat + r1) 1 v1 v2 = g at *
    obtain ⟨g3, g4⟩ := g
    have l1 : g3.natAbs.log2 < 80 := lg g1 (by decide)
    have l2 : g4.natAbs.log2 < 80 := lg g2 (by decide)
    have l3 : g3.natAbs.log2 < 12900 := by omega
    have l4 : g4.natAbs.log2 < 12900 := by omega
    have bb : But p H H4 := (((b1.trans b2).trans (same_but (same_new hq1))).trans b3).trans (same_but ((same_new hq2).trans s4))
    have hp4 : H4 p = some (.lst L3) := ((same_new hq2).trans s4) _ _ hp3
    have sh := shaped_pair told_ascii (fracS_ascii (t := g3) (b := g4))
    have sh2 := shaped_frac (w := "told") (t := g3) (b := g4) told_ascii
    walk_at "go"
    · intro h
      rw [fr_isF fg] at h
      cases h
    intro t' b' e1 _
    injection e1 with e1
    injection e1 with e1 e2
    injection e2 with e2 _
    injection e1 with e1
    injection e2 with e2
    subst e1
    subst e2
    refine ⟨l3, fun _ => ⟨Nat.lt_trans l1 (by decide), Nat.lt_trans l2 (by decide)⟩, fun r5 H5 s5 hr5 er5 => ?_⟩
    have he5 := s5 _ _ he3
    walk_at "go"
    intro H6 s6
    have er6 := s6 _ _ er5
    walk_at "go"
    intro l6 hl6
    have sh := shaped_pair told_ascii (fracS_ascii (t := g3) (b := g4))
    walk_at "go"
    refine it_f (nev_self sh) ?_
    have he6 := s6 _ _ he5
    have hL6 : (upd H6 l6 (.lst [V.str "told", V.str (fracS g3 g4)])) q3 = some (.tup [.int g3, .int g4]) := (same_new hl6) _ _ he6
    walk_at "go"
    intro H7 s7
    have tok : TxtOk (fracS g3 g4) := ⟨fracS_ascii, .inl (frac_len (by omega) (by omega))⟩
    have rf : readD0 (.str (fracS g3 g4)) = some (g3, g4) := by
      show readL (TL.tl (fracS g3 g4)) = _
      rw [fracS_tl]
      exact read_frac fg
    walk_at "go"
    · intro z hz
      cases hz
      exact tok
    · intro h
      rw [rf] at h
      cases h
    intro t' b' e q4 r8 H8 s8 hq4 eq4 hr8 er8
    rw [rf] at e
    cases e
    have he8 := s8 _ _ (s7 _ _ hL6)
    walk_at "go"
    intro l9 hl9
    walk_at "go"
    rw [eqv_self sh2]
    have bf : But p H (upd H8 l9 (.lst [V.str "told", .ref q3])) := ((((((bb.trans (same_but s5)).trans (same_but s6)).trans (same_but (same_new hl6))).trans (same_but s7)).trans (same_but s8)).trans (same_but (same_new hl9)))
    exact q L3 _ bf ((same_new hl9) _ _ (s8 _ _ (s7 _ _ ((same_new hl6) _ _ (s6 _ _ (s5 _ _ hp4)))))) hL3
theorem scLongest : FnScope ["great", "turn", "text"] [] (defScope sLongest) := ⟨rfl, rfl, rfl, by decide +kernel, rfl, by decide +kernel, by decide +kernel⟩
theorem ok_longest {f : Addr} {fd : FuncData} (F : Fun K "_law_longest_right" "_law_longest_right" sLongest f fd) (zg : mg "range" = none) 
    (dProd : Df P w K mg base (_root_.L2.CX P w) 4 "product" (spProd2 K)) (dSaid0 : Df P w K mg base CX0 6 "_law_said" (spSaid0 K)) (dSaid1 : Df P w K mg base CX0 6 "_law_said" (spSaid1 K)) : FnOk P w K mg base CX0 7 f fd [] spTrue0 := by
  refine F.ok scLongest (fun vs H Q E h => ?_) (fun cdv A outer s H vs Q E hr h => ?_)
  · obtain ⟨rfl, _⟩ := h
    rfl
  · obtain ⟨rfl, q⟩ := h
    refine ⟨_, (pss_cons (ps_set (i := 0) scLongest.nd rfl (Or.inl rfl) (pe_tup (pa_cons pe_int (pa_cons pe_int pa_nil))))
      (pss_cons (ps_for PassesOwn.never rfl (pi_range1 rfl zg (pa_cons pe_int pa_nil)) (pg_name (i := 1) scLongest.nd rfl (Or.inl rfl)) (pss_one (ps_set (i := 0) scLongest.nd rfl (Or.inl rfl) (pe_dx dProd hr rfl (fun σ => calmAt σ) (pa_cons (pv 0) (pa_cons (pe_tup (pa_cons (pe_op op_pow pe_int pe_int) (pa_cons pe_int pa_nil))) pa_nil))))))
      (pss_cons (ps_set (i := 2) scLongest.nd rfl (Or.inl rfl) (pe_op op_add_str pe_str (pe_op op_mulS pe_str pe_int)))
      (pss_one (ps_ret (pe_and (pe_cmpR (op_eqR hr.units) (pe_d dSaid0 hr rfl (pa_cons pe_int (pa_cons (pv 0) pa_nil))) (pe_lst (pa_cons pe_str (pa_cons (pv 2) pa_nil))) (nomark _)) (pe_one (pe_cmpR (op_eqR hr.units) (pe_d dSaid1 hr rfl (pa_cons pe_int (pa_cons (pv 2) pa_nil))) (pe_lst (pa_cons pe_str (pa_cons (pv 0) pa_nil))) (nomark _))))))))), ?_⟩
    have e9 : (10 : Int) ^ (9 : Int).toNat = 1000000000 := by decide +kernel
    walk_at "go"
    intro p0 hp0
    walk_at "go"
    refine for_range (n := 111) (fun i σ H' => Same H H' ∧ ∃ (a : Addr) (v1 : Option V), σ = [some (.ref a), v1, none] ∧ H' a = some (.tup [.int ((10 ^ (9 * i) : Nat) : Int), .int 1])) ⟨same_new hp0, p0, none, rfl, upd_same⟩ ?_ ?_
    · rintro i σ H' hi ⟨s1, a, v1, rfl, ha⟩
      have f1 : IsFr ((10 ^ (9 * i) : Nat) : Int) 1 := ⟨by decide, gz_one⟩
      have f2 : IsFr ((10 : Int) ^ (9 : Int).toNat) 1 := ⟨by decide, gz_one⟩
      have z1 := (pow_small (i := i) (by omega)).1
      have z2 : (1 : Int).natAbs < 2 ^ 3600 := by decide +kernel
      have z3 : ((10 : Int) ^ (9 : Int).toNat).natAbs < 2 ^ 3600 := by decide +kernel
      walk_at "go"
      intro q1 hq1
      have ha2 := same_new (o := .tup [.int ((10 : Int) ^ (9 : Int).toNat), .int 1]) hq1 a _ ha
      walk_at "go"
      intro q3 H3 s3 hq3 e3
      rw [stepP_one] at e3
      have ep : ((10 ^ (9 * i) : Nat) : Int) * (10 : Int) ^ (9 : Int).toNat = ((10 ^ (9 * (i + 1)) : Nat) : Int) := by
        have e : 10 ^ (9 * (i + 1)) = 10 ^ (9 * i) * 1000000000 := by
          rw [show 9 * (i + 1) = 9 * i + 9 by omega, Nat.pow_add]
        rw [e, e9, Int.natCast_mul]
        rfl
      rw [ep] at e3
      exact ⟨(s1.trans (same_new hq1)).trans s3, q3, _, rfl, e3⟩
    · rintro σ H' ⟨s1, a, v1, rfl, ha⟩
      have fr : IsFr ((10 ^ (9 * 111) : Nat) : Int) 1 := ⟨by decide, gz_one⟩
      have e48 : (UInt8.ofNat ('0' : Char).val.toNat).toNat = 48 := by decide
      have et : fracS ((10 ^ (9 * 111) : Nat) : Int) 1 = ("1" : Str) ++ repL 999 48 := by
        unfold fracS
        rw [if_pos rfl]
        exact num_pow 999
      have za : asciiW (("1" : Str) ++ repL 999 48) := by rw [← et]; exact fracS_ascii
      have zt : TL.tl (("1" : Str) ++ repL 999 48) = 49 :: List.replicate 999 48 := by
        rw [tl_app, show TL.tl ("1" : Str) = [49] by decide +kernel]
        show [49] ++ (List.replicate 999 48).toArray.toList = _
        rw [List.toList_toArray]
        rfl
      have zl : (("1" : Str) ++ repL 999 48).length ≤ 3000 := by
        rw [← tl_len, zt, List.length_cons, List.length_replicate]
        decide
      have zs : 47 ∉ TL.tl (("1" : Str) ++ repL 999 48) := by
        rw [zt]
        intro h
        rcases List.mem_cons.mp h with h | h
        · cases h
        · cases (List.mem_replicate.mp h).2
      have l2 := (pow_small (i := 111) (by decide)).2
      have rf : readD0 (.str (("1" : Str) ++ repL 999 48)) = some (((10 ^ (9 * 111) : Nat) : Int), 1) := by
        rw [← et]
        show readL (TL.tl (fracS _ 1)) = _
        rw [fracS_tl]
        exact read_frac fr
      generalize ((10 ^ (9 * 111) : Nat) : Int) = g at *
      obtain ⟨z, hz⟩ : ∃ z : Str, z = ("1" : Str) ++ repL 999 48 := ⟨_, rfl⟩
      rw [← hz] at et za zl zs rf zt
      have sh := shaped_pair told_ascii za
      have sh2 := shaped_frac (w := "told") (t := g) (b := 1) told_ascii
      walk_at "go"
      · intro h
        rw [fr_isF fr] at h
        cases h
      intro t' b' e1 _
      injection e1 with e1
      injection e1 with e1 e2
      injection e2 with e2 _
      injection e1 with e1
      injection e2 with e2
      subst e1
      subst e2
      refine ⟨l2, fun h => absurd rfl h, fun r5 H5 s5 hr5 er5 => ?_⟩
      rw [et] at er5
      rw [e48, ← hz]
      walk_at "go"
      intro l6 hl6
      have ha5 := (same_new (o := .lst [V.str "told", V.str z]) hl6) _ _ (s5 _ _ ha)
      walk_at "go"
      rw [eqv_self sh]
      walk_at "yes"
      have tok : TxtOk z := ⟨za, .inr ⟨zl, zs⟩⟩
      walk_at "go"
      · intro y hy
        cases hy
        exact tok
      · intro h
        rw [rf] at h
        cases h
      intro t' b' e q4 r8 H8 s8 hq4 eq4 hr8 er8
      rw [rf] at e
      cases e
      have he8 := s8 _ _ ha5
      walk_at "go"
      intro l9 hl9
      walk_at "go"
      rw [eqv_self sh2]
      exact q _ ((((s1.trans s5).trans (same_new hl6)).trans s8).trans (same_new hl9))
end
end Paw

set_option maxRecDepth 100000
set_option maxHeartbeats 4000000
namespace Paw
open PySem PySem.Spec PyProof.Rows L2 PySem.NumText
local macro_rules | `(tactic| walk_at "ne") => `(tactic| first | assumption | exact Ne.symm (by assumption) | exact ne_of_none (by assumption) (by assumption) | exact (ne_of_none (by assumption) (by assumption)).symm | exact (fresh (by assumption)).1 | exact (fresh (by assumption)).1.symm | exact (fresh (fresh (by assumption)).2).1 | exact (fresh (fresh (by assumption)).2).1.symm | exact (fresh (fresh (fresh (by assumption)).2).2).1.symm)
local macro_rules | `(tactic| walk_at "hp") => `(tactic| first | with_reducible assumption | with_reducible exact upd_same | ((with_reducible refine Eq.trans (upd_ne (by walk_at "ne")) ?_); walk_at "hp") | ((with_reducible refine Same.at (by assumption) ?_); walk_at "hp"))
local macro_rules | `(tactic| walk_at "g2") => `(tactic| first | ((with_reducible show _ = some _); walk_at "hp") | ((with_reducible apply SqT.of); walk_at "hp") | ((with_reducible apply SqL.of); walk_at "hp") | ((with_reducible show SqT _ _ _ _); first | assumption | exact sqt_mono (same_new (by assumption)) (by assumption)) | ((with_reducible show SqL _ _ _ _); first | assumption | exact Same.seq (same_new (by assumption)) (by assumption)) | ((with_reducible show (SqL _ _ _ _ ∨ SqT _ _ _ _)); first | exact Or.inl (SqL.of (by walk_at "hp")) | exact Or.inr (SqT.of (by walk_at "hp")) | exact Or.inl (by assumption) | exact Or.inr (by assumption)) | ((with_reducible show tyV _ _ _ _); first | exact rfl | exact Or.inl ⟨rfl, _, SqL.of (by walk_at "hp")⟩) | ((with_reducible apply RD.tupH); (walk_at "hp"); walk_at "rds") | ((with_reducible apply RD.lstH); (walk_at "hp"); walk_at "rds") | ((with_reducible show TruV _ _ _ _); exact rfl) | with_reducible exact RD.int _ | with_reducible exact RD.str _ | with_reducible exact RD.bl _ | with_reducible exact RD.non | with_reducible exact ClsV.ty _ | with_reducible exact ClsV.own _ | ((with_reducible show ExV _ _); assumption) | ((with_reducible show KeptIs _ _ _ _ _); first | exact KeptIs.none (by assumption) | exact KeptIs.exc (by walk_at "hp") (by walk_at "hp") (by assumption) (by assumption)) | ((with_reducible show TyX _ _ _ _); exact RD.ty (by assumption)))
local macro_rules | `(tactic| walk_at "rds") => `(tactic| repeat' (first | with_reducible exact RDs.nil | with_reducible apply RDs.cons | with_reducible assumption | walk_at "g2"))
local macro_rules | `(tactic| walk_at "g1") => `(tactic| (fail_if_success (with_reducible refine it_t ?_ ?_)); first | (with_reducible rfl) | ((with_reducible show (_ : Prop)); with_reducible assumption) | with_reducible exact trivial | with_reducible exact upd_same | walk_at "g2" | ((with_reducible show _ = _); (fail_if_success (with_reducible show PySem.intText? _ = _)); law_purse 4000 => exact rfl) | ((with_reducible show _ ≤ _); first | law_purse 300 => exact Nat.le_of_ble_eq_true rfl | decide +kernel) | ((with_reducible show _ < _); first | decide +kernel | law_purse 500 => decide) | ((with_reducible show _ ≠ _); law_purse 500 => decide) | ((with_reducible show _ = _); law_purse 500 => first | assumption | decide) | law_purse 2000 => ((fail_if_success (show (∃ W : Nat → Nat → L2.St → Hp → Prop, _))); (fail_if_success (show (∃ W : Nat → Nat → Hp → Prop, _))); apply Exists.intro) | law_purse 1000 => apply And.intro | (law_purse 1000 => ((apply Or.inl); (apply Exists.intro); (apply And.intro); (with_reducible rfl))) | (law_purse 1000 => ((apply Or.inr); (apply Exists.intro); (apply And.intro); (with_reducible rfl))))
local macro_rules | `(tactic| walk_at "go") => `(tactic| repeat' (walk_at "g1"))
local macro_rules | `(tactic| walk_at "yes") => `(tactic| ((with_reducible apply it_t); first | exact rfl | exact decide_eq_true rfl))
local macro_rules | `(tactic| walk_at "no") => `(tactic| ((with_reducible apply it_f); first | exact rfl | (refine decide_eq_false fun e => ?_; injection e with e; simp at e; done)))
/-! ### odd things -/
def oddFD : Nat → PyData
  | 0 => .tuple [.int 2, .int 4]
  | 1 => .tuple [.int 1, .int 0]
  | 2 => .tuple [.int 1, .int (-2)]
  | 3 => .tuple [.bool true, .int 2]
  | 4 => .int 1
  | 5 => .none
  | 6 => .list [.int 1, .int 2]
  | 7 => .tuple [.int 1, .int 2, .int 3]
  | 8 => .str "1/2"
  | 9 => .tuple [.int 1, .str "2"]
  | 10 => .tuple [.int 0, .int 5]
  | 11 => .tuple [.int 1, .bool true]
  | 12 => .tuple []
  | 13 => .tuple [.bool false, .int 1]
  | 14 => .tuple [.int 0, .bool true]
  | _ => .dict [(.str "a", .int 1)]

def oddFI (t0 t1 t2 t3 t4 t5 t6 t7 t8 t9 t10 t11 t12 : Addr) : List V := [.ref t0, .ref t1, .ref t2, .ref t3, .int 1, .non, .ref t4, .ref t5, .str "1/2", .ref t6, .ref t7, .ref t8, .ref t9, .ref t10, .ref t11, .ref t12]
theorem oddF_of {K : PySem.W.Frag} {H : Hp} {t0 t1 t2 t3 t4 t5 t6 t7 t8 t9 t10 t11 t12 : Addr} (e_t0 : H t0 = some (.tup [.int 2, .int 4])) (e_t1 : H t1 = some (.tup [.int 1, .int 0])) (e_t2 : H t2 = some (.tup [.int 1, .int (-2)])) (e_t3 : H t3 = some (.tup [.bl true, .int 2])) (e_t4 : H t4 = some (.lst [.int 1, .int 2])) (e_t5 : H t5 = some (.tup [.int 1, .int 2, .int 3])) (e_t6 : H t6 = some (.tup [.int 1, .str "2"])) (e_t7 : H t7 = some (.tup [.int 0, .int 5])) (e_t8 : H t8 = some (.tup [.int 1, .bl true])) (e_t9 : H t9 = some (.tup [])) (e_t10 : H t10 = some (.tup [.bl false, .int 1])) (e_t11 : H t11 = some (.tup [.int 0, .bl true])) (e_t12 : H t12 = some (.dK [(Sum.inr "a", .int 1)])) : ∀ (j : Nat) (v : V), (oddFI t0 t1 t2 t3 t4 t5 t6 t7 t8 t9 t10 t11 t12)[j]? = some v → RD K H v (oddFD j)
  | 0, _, e => by cases e; exact (.tup (SqT.of e_t0) (.cons (.int _) (.cons (.int _) .nil)))
  | 1, _, e => by cases e; exact (.tup (SqT.of e_t1) (.cons (.int _) (.cons (.int _) .nil)))
  | 2, _, e => by cases e; exact (.tup (SqT.of e_t2) (.cons (.int _) (.cons (.int _) .nil)))
  | 3, _, e => by cases e; exact (.tup (SqT.of e_t3) (.cons (.bl _) (.cons (.int _) .nil)))
  | 4, _, e => by cases e; exact (.int _)
  | 5, _, e => by cases e; exact .non
  | 6, _, e => by cases e; exact (.lst (SqL.of e_t4) (.cons (.int _) (.cons (.int _) .nil)))
  | 7, _, e => by cases e; exact (.tup (SqT.of e_t5) (.cons (.int _) (.cons (.int _) (.cons (.int _) .nil))))
  | 8, _, e => by cases e; exact (.str _)
  | 9, _, e => by cases e; exact (.tup (SqT.of e_t6) (.cons (.int _) (.cons (.str _) .nil)))
  | 10, _, e => by cases e; exact (.tup (SqT.of e_t7) (.cons (.int _) (.cons (.int _) .nil)))
  | 11, _, e => by cases e; exact (.tup (SqT.of e_t8) (.cons (.int _) (.cons (.bl _) .nil)))
  | 12, _, e => by cases e; exact (.tup (SqT.of e_t9) .nil)
  | 13, _, e => by cases e; exact (.tup (SqT.of e_t10) (.cons (.bl _) (.cons (.int _) .nil)))
  | 14, _, e => by cases e; exact (.tup (SqT.of e_t11) (.cons (.int _) (.cons (.bl _) .nil)))
  | 15, _, e => by cases e; exact (.dic e_t12 (.cons (.int _) .nil))
  | n + 16, _, e => by cases e
def fitB (d : PyData) : Bool := plainD d && d.showable && decide (siz d ≤ 1000000) && decide (d.depth ≤ 40)
theorem fit_of {d : PyData} (h : fitB d = true) : Fit d := by
  unfold fitB at h
  simp only [Bool.and_eq_true, decide_eq_true_eq] at h
  exact ⟨h.1.1.1, h.1.1.2, h.1.2, h.2⟩
theorem oddF_facts : ∀ j < 16, isF (oddFD j) = false ∧ (j ≠ 6 → isL (oddFD j) = false) ∧ fitB (.list [.str "fraction", oddFD j]) = true := by decide +kernel
theorem odd6_fit : fitB (.list [.str "fraction", .list [.int 1, .int 2, .str "mark"]]) = true := by decide +kernel
def spPileTG : Sp := spPileT
section
variable {P : Program} {w : World} {K : PySem.W.Frag} {mg : Str → Option Value} {base : Heap}
theorem scOddR : FnScope ["pile", "some", "odd", "said"] ["pile"] (defScope sOddR) := ⟨rfl, rfl, rfl, by decide +kernel, rfl, by decide +kernel, by decide +kernel⟩
theorem ok_oddr {f : Addr} {fd : FuncData} (F : Fun K "_law_odd_right" "_law_odd_right" sOddR f fd) (dTake : Df P w K mg base CX0 2 "_law_take" spTake) (dSaid0 : Df P w K mg base CX0 6 "_law_said" (spSaid0 K)) (dAl : DfG P w K mg base CX0 1 "_law_alike" ["one", "other"] (spAlike K)) (zs : mg "isinstance" = none) (zli : mg "list" = none) :
    FnG P w K mg base CX0 7 f fd ["pile"] spPileT := by
  refine funG F scOddR (fun vs H Q E h => ?_) (fun cdv A hG outer s H vs Q E hS hr h => ?_)
  · obtain ⟨p, b, L, rfl, _⟩ := h
    rfl
  · obtain ⟨p, b, L, rfl, hp, hL, q⟩ := h
    have g : Gd (cxOf CX0 P w K mg base ["pile", "some", "odd", "said"] "_law_odd_right" (defScope sOddR) f cdv A outer s H E) := ⟨hG, hS, rfl⟩
    have hu := hu_of hr
    refine ⟨_, (pss_cons (ps_set (i := 1) scOddR.nd rfl (Or.inl rfl) (pe_lst (pa_cons (pe_tup (pa_cons pe_int (pa_cons pe_int pa_nil))) (pa_cons (pe_tup (pa_cons pe_int (pa_cons pe_int pa_nil))) (pa_cons (pe_tup (pa_cons pe_int (pa_cons (pe_un un_neg pe_int) pa_nil))) (pa_cons (pe_tup (pa_cons pe_bl (pa_cons pe_int pa_nil))) (pa_cons pe_int (pa_cons pe_non (pa_cons (pe_lst (pa_cons pe_int (pa_cons pe_int pa_nil))) (pa_cons (pe_tup (pa_cons pe_int (pa_cons pe_int (pa_cons pe_int pa_nil)))) (pa_cons pe_str (pa_cons (pe_tup (pa_cons pe_int (pa_cons pe_str pa_nil))) (pa_cons (pe_tup (pa_cons pe_int (pa_cons pe_int pa_nil))) pa_nil)))))))))))))
      (pss_cons (ps_set (i := 2) scOddR.nd rfl (Or.inl rfl) (pe_ix ix_list (pe_op op_cat (pv 1) (pe_lst (pa_cons (pe_tup (pa_cons pe_int (pa_cons pe_bl pa_nil))) (pa_cons (pe_tup pa_nil) (pa_cons (pe_tup (pa_cons pe_bl (pa_cons pe_int pa_nil))) (pa_cons (pe_tup (pa_cons pe_int (pa_cons pe_bl pa_nil))) (pa_cons (pe_disp (pps_cons pe_str pe_int pps_nil) rfl rfl (by simp) (by decide)) pa_nil))))))) (pe_d dTake hr rfl (pa_cons (pv 0) (pa_cons pe_int pa_nil))) (fun _ _ => rfl)))
      (pss_cons (ps_set (i := 3) scOddR.nd rfl (Or.inl rfl) (pe_d dSaid0 hr rfl (pa_cons pe_int (pa_cons (pv 2) pa_nil))))
      (pss_cons (ps_if (pt_val (pe_callB call_isi (by rfl) zs bt_isinstance (pa_cons (pv 2) (pa_cons (pe_bltn (v := .ty "list") (by rfl) zli bt_list rfl) pa_nil)))) (pss_one (ps_expr (pe_bm PySem.F.plainAttrs_list PySem.F.slot_list_append PySem.F.type_list_append mt_append (pv 2) (pa_cons pe_str pa_nil)))) pss_nil)
      (pss_one (ps_ret (pe_dG dAl g hr rfl (pa_cons (pv 3) (pa_cons (pe_lst (pa_cons pe_str (pa_cons (pv 2) pa_nil))) pa_nil))))))))), ?_⟩
    walk_at "go"
    intro t0 h_t0
    have s_t0 := same_new (o := .tup [.int 2, .int 4]) h_t0
    walk_at "go"
    intro t1 h_t1
    have s_t1 := same_new (o := .tup [.int 1, .int 0]) h_t1
    walk_at "go"
    intro t2 h_t2
    have s_t2 := same_new (o := .tup [.int 1, .int (-2)]) h_t2
    walk_at "go"
    intro t3 h_t3
    have s_t3 := same_new (o := .tup [.bl true, .int 2]) h_t3
    walk_at "go"
    intro t4 h_t4
    have s_t4 := same_new (o := .lst [.int 1, .int 2]) h_t4
    walk_at "go"
    intro t5 h_t5
    have s_t5 := same_new (o := .tup [.int 1, .int 2, .int 3]) h_t5
    walk_at "go"
    intro t6 h_t6
    have s_t6 := same_new (o := .tup [.int 1, .str "2"]) h_t6
    walk_at "go"
    intro t7 h_t7
    have s_t7 := same_new (o := .tup [.int 0, .int 5]) h_t7
    walk_at "go"
    intro l1 h_l1
    have s_l1 := same_new (o := .lst [.ref t0, .ref t1, .ref t2, .ref t3, .int 1, .non, .ref t4, .ref t5, .str "1/2", .ref t6, .ref t7]) h_l1
    walk_at "go"
    intro t8 h_t8
    have s_t8 := same_new (o := .tup [.int 1, .bl true]) h_t8
    walk_at "go"
    intro t9 h_t9
    have s_t9 := same_new (o := .tup []) h_t9
    walk_at "go"
    intro t10 h_t10
    have s_t10 := same_new (o := .tup [.bl false, .int 1]) h_t10
    walk_at "go"
    intro t11 h_t11
    have s_t11 := same_new (o := .tup [.int 0, .bl true]) h_t11
    walk_at "go"
    intro t12 h_t12
    refine ⟨upd_same, [(Sum.inr "a", .int 1)], rfl, by decide, ?_⟩
    rw [upd_upd, show mergeK [] [((Sum.inr "a" : Key), V.int 1)] = [((Sum.inr "a" : Key), V.int 1)] from rfl]
    have s_t12 := same_new (o := .dK [(Sum.inr "a", .int 1)]) h_t12
    walk_at "go"
    intro l2 h_l2
    have s_l2 := same_new (o := .lst [.ref t8, .ref t9, .ref t10, .ref t11, .ref t12]) h_l2
    have c_l1 := (s_t8.trans (s_t9.trans (s_t10.trans (s_t11.trans (s_t12.trans (s_l2)))))) _ _ upd_same
    walk_at "go"
    intro l3 h_l3
    have s_l3 := same_new (o := .lst (oddFI t0 t1 t2 t3 t4 t5 t6 t7 t8 t9 t10 t11 t12)) h_l3
    rw [show ([V.ref t0, V.ref t1, V.ref t2, V.ref t3, V.int 1, V.non, V.ref t4, V.ref t5, V.str "1/2", V.ref t6, V.ref t7] ++ [V.ref t8, V.ref t9, V.ref t10, V.ref t11, V.ref t12] : List V) = oddFI t0 t1 t2 t3 t4 t5 t6 t7 t8 t9 t10 t11 t12 from rfl]
    have z_15 := s_l3
    have z_14 := s_l2.trans z_15
    have z_13 := s_t12.trans z_14
    have z_12 := s_t11.trans z_13
    have z_11 := s_t10.trans z_12
    have z_10 := s_t9.trans z_11
    have z_9 := s_t8.trans z_10
    have z_8 := s_l1.trans z_9
    have z_7 := s_t7.trans z_8
    have z_6 := s_t6.trans z_7
    have z_5 := s_t5.trans z_6
    have z_4 := s_t4.trans z_5
    have z_3 := s_t3.trans z_4
    have z_2 := s_t2.trans z_3
    have z_1 := s_t1.trans z_2
    have z_0 := s_t0.trans z_1
    have p_0 : Same H H := fun _ _ e => e
    have p_1 := p_0.trans s_t0
    have p_2 := p_1.trans s_t1
    have p_3 := p_2.trans s_t2
    have p_4 := p_3.trans s_t3
    have p_5 := p_4.trans s_t4
    have p_6 := p_5.trans s_t5
    have p_7 := p_6.trans s_t6
    have p_8 := p_7.trans s_t7
    have p_9 := p_8.trans s_l1
    have p_10 := p_9.trans s_t8
    have p_11 := p_10.trans s_t9
    have p_12 := p_11.trans s_t10
    have p_13 := p_12.trans s_t11
    have p_14 := p_13.trans s_t12
    have p_15 := p_14.trans s_l2
    have p_16 := p_15.trans s_l3
    have hpE := z_0 _ _ hp
    walk_at "go"
    intro r L1 H1 r0 r1 hL1 b1 hp1
    have ne : ∀ t, H t = none → t ≠ p := fun t z => (ne_of_none hp z).symm
    have f_t0 := b1 _ _ (ne _ (p_0.free h_t0)) (z_1 _ _ upd_same)
    have f_t1 := b1 _ _ (ne _ (p_1.free h_t1)) (z_2 _ _ upd_same)
    have f_t2 := b1 _ _ (ne _ (p_2.free h_t2)) (z_3 _ _ upd_same)
    have f_t3 := b1 _ _ (ne _ (p_3.free h_t3)) (z_4 _ _ upd_same)
    have f_t4 := b1 _ _ (ne _ (p_4.free h_t4)) (z_5 _ _ upd_same)
    have f_t5 := b1 _ _ (ne _ (p_5.free h_t5)) (z_6 _ _ upd_same)
    have f_t6 := b1 _ _ (ne _ (p_6.free h_t6)) (z_7 _ _ upd_same)
    have f_t7 := b1 _ _ (ne _ (p_7.free h_t7)) (z_8 _ _ upd_same)
    have f_l1 := b1 _ _ (ne _ (p_8.free h_l1)) (z_9 _ _ upd_same)
    have f_t8 := b1 _ _ (ne _ (p_9.free h_t8)) (z_10 _ _ upd_same)
    have f_t9 := b1 _ _ (ne _ (p_10.free h_t9)) (z_11 _ _ upd_same)
    have f_t10 := b1 _ _ (ne _ (p_11.free h_t10)) (z_12 _ _ upd_same)
    have f_t11 := b1 _ _ (ne _ (p_12.free h_t11)) (z_13 _ _ upd_same)
    have f_t12 := b1 _ _ (ne _ (p_13.free h_t12)) (z_14 _ _ upd_same)
    have f_l2 := b1 _ _ (ne _ (p_14.free h_l2)) (z_15 _ _ upd_same)
    have f_l3 := b1 _ _ (ne _ (p_15.free h_l3)) upd_same
    obtain ⟨j, rfl⟩ : ∃ j : Nat, r = (j : Int) := ⟨r.toNat, by omega⟩
    have hj : j < 16 := by omega
    have hz : (oddFI t0 t1 t2 t3 t4 t5 t6 t7 t8 t9 t10 t11 t12)[j]? = some ((oddFI t0 t1 t2 t3 t4 t5 t6 t7 t8 t9 t10 t11 t12)[j]'hj) := List.getElem?_eq_getElem hj
    have hv := oddF_of (K := K) f_t0 f_t1 f_t2 f_t3 f_t4 f_t5 f_t6 f_t7 f_t8 f_t9 f_t10 f_t11 f_t12 j _ hz
    obtain ⟨fF, fL, fS⟩ := oddF_facts j hj
    have bb := (same_but p_16).trans b1
    clear s_t0 s_t1 s_t2 s_t3 s_t4 s_t5 s_t6 s_t7 s_t8 s_t9 s_t10 s_t11 s_t12 s_l1 s_l2 s_l3 z_0 z_1 z_2 z_3 z_4 z_5 z_6 z_7 z_8 z_9 z_10 z_11 z_12 z_13 z_14 z_15 hpE
    have n3 : t4 ≠ p := ne _ (p_4.free h_t4)
    have n4 : H t4 = none := p_4.free h_t4
    clear p_0 p_1 p_2 p_3 p_4 p_5 p_6 p_7 p_8 p_9 p_10 p_11 p_12 p_13 p_14 p_15 p_16
    clear f_t0 f_t1 f_t2 f_t3 f_t5 f_t6 f_t7 f_t8 f_t9 f_t10 f_t11 f_t12 f_l1 f_l2
    by_cases h6 : j = 6
    · subst h6
      have hz' : atI (oddFI t0 t1 t2 t3 t4 t5 t6 t7 t8 t9 t10 t11 t12) ((6 : Nat) : Int) = some (.ref t4) := atI_nat (j := 6) rfl
      walk_at "go"
      · intro _ r2 H2 s2 hr2 er2
        have ht4 := s2 _ _ f_t4
        have hk := kit_list (K := K) (.list [.int 1, .int 2])
        have r4 : RD K H2 (.ref t4) (.list [.int 1, .int 2]) := .lst (SqL.of ht4) (.cons (.int _) (.cons (.int _) .nil))
        have n24 : r2 ≠ t4 := (ne_of_none f_t4 hr2).symm
        walk_at "go"
        walk_at "yes"
        walk_at "go"
        intro l9 hl9
        have h9 := same_new (o := .lst [V.str "fraction", .ref t4]) hl9
        have e4 := h9 _ _ (upd_same (H := H2) (a := t4) (o := .lst ([.int 1, .int 2] ++ [.str "mark"])))
        have e2 := h9 _ _ ((upd_ne n24).trans er2)
        have rd4 : RD K (upd (upd H2 t4 (.lst ([.int 1, .int 2] ++ [.str "mark"]))) l9 (.lst [V.str "fraction", .ref t4])) (.ref t4) (.list [.int 1, .int 2, .str "mark"]) := .lst (SqL.of e4) (.cons (.int _) (.cons (.int _) (.cons (.str _) .nil)))
        have fit := fit_of odd6_fit
        refine ⟨_, _, _, _, rfl, RD.lstH e2 (.cons (.str _) (.cons rd4 .nil)), RD.lstH upd_same (.cons (.str _) (.cons rd4 .nil)), fit, fit, ?_⟩
        rw [decide_eq_true rfl]
        have hp2 : H2 p = some (.lst L1) := s2 _ _ hp1
        refine q L1 _ ?_ (h9 _ _ ((upd_ne n3.symm).trans hp2)) hL1
        intro c o nc ec
        have c4 : c ≠ t4 := ne_of_none ec n4
        exact h9 _ _ ((upd_ne c4).trans (s2 _ _ (bb c o nc ec)))
      · intro t b e _
        cases e
    · have fL' := fL h6
      have hz' := atI_nat hz
      generalize (oddFI t0 t1 t2 t3 t4 t5 t6 t7 t8 t9 t10 t11 t12)[j]'hj = v at *
      generalize oddFD j = d at *
      have hk := kit_list (K := K) d
      rw [fL'] at hk
      walk_at "go"
      · intro _ r2 H2 s2 hr2 er2
        have hv2 := RD.mono s2 _ _ hv
        walk_at "go"
        walk_at "no"
        walk_at "go"
        intro l9 hl9
        have h9 := same_new (o := .lst [V.str "fraction", v]) hl9
        have hv3 := RD.mono h9 _ _ hv2
        have e2 := h9 _ _ er2
        have fit := fit_of fS
        refine ⟨_, _, _, _, rfl, RD.lstH e2 (.cons (.str _) (.cons hv3 .nil)), RD.lstH upd_same (.cons (.str _) (.cons hv3 .nil)), fit, fit, ?_⟩
        rw [decide_eq_true rfl]
        exact q L1 _ (bb.trans (same_but (s2.trans h9))) (h9 _ _ (s2 _ _ hp1)) hL1
      · intro t b e fr
        rw [e, fr_isF fr] at fF
        cases fF
end
end Paw

set_option maxRecDepth 100000
set_option maxHeartbeats 4000000
namespace Paw
open PySem PySem.Spec PyProof.Rows L2 PySem.NumText
local macro_rules | `(tactic| walk_at "ne") => `(tactic| first | assumption | exact Ne.symm (by assumption) | exact ne_of_none (by assumption) (by assumption) | exact (ne_of_none (by assumption) (by assumption)).symm | exact (fresh (by assumption)).1 | exact (fresh (by assumption)).1.symm | exact (fresh (fresh (by assumption)).2).1 | exact (fresh (fresh (by assumption)).2).1.symm | exact (fresh (fresh (fresh (by assumption)).2).2).1.symm)
local macro_rules | `(tactic| walk_at "hp") => `(tactic| first | with_reducible assumption | with_reducible exact upd_same | ((with_reducible refine Eq.trans (upd_ne (by walk_at "ne")) ?_); walk_at "hp") | ((with_reducible refine Same.at (by assumption) ?_); walk_at "hp"))
local macro_rules | `(tactic| walk_at "g2") => `(tactic| first | ((with_reducible show _ = some _); walk_at "hp") | ((with_reducible apply SqT.of); walk_at "hp") | ((with_reducible apply SqL.of); walk_at "hp") | ((with_reducible show SqT _ _ _ _); first | assumption | exact sqt_mono (same_new (by assumption)) (by assumption)) | ((with_reducible show SqL _ _ _ _); first | assumption | exact Same.seq (same_new (by assumption)) (by assumption)) | ((with_reducible show (SqL _ _ _ _ ∨ SqT _ _ _ _)); first | exact Or.inl (SqL.of (by walk_at "hp")) | exact Or.inr (SqT.of (by walk_at "hp")) | exact Or.inl (by assumption) | exact Or.inr (by assumption)) | ((with_reducible show tyV _ _ _ _); first | exact rfl | exact Or.inl ⟨rfl, _, SqL.of (by walk_at "hp")⟩) | ((with_reducible apply RD.tupH); (walk_at "hp"); walk_at "rds") | ((with_reducible apply RD.lstH); (walk_at "hp"); walk_at "rds") | ((with_reducible show TruV _ _ _ _); exact rfl) | with_reducible exact RD.int _ | with_reducible exact RD.str _ | with_reducible exact RD.bl _ | with_reducible exact RD.non | with_reducible exact ClsV.ty _ | with_reducible exact ClsV.own _ | ((with_reducible show ExV _ _); assumption) | ((with_reducible show KeptIs _ _ _ _ _); first | exact KeptIs.none (by assumption) | exact KeptIs.exc (by walk_at "hp") (by walk_at "hp") (by assumption) (by assumption)) | ((with_reducible show TyX _ _ _ _); exact RD.ty (by assumption)))
local macro_rules | `(tactic| walk_at "rds") => `(tactic| repeat' (first | with_reducible exact RDs.nil | with_reducible apply RDs.cons | with_reducible assumption | walk_at "g2"))
local macro_rules | `(tactic| walk_at "g1") => `(tactic| (fail_if_success (with_reducible refine it_t ?_ ?_)); first | (with_reducible rfl) | ((with_reducible show (_ : Prop)); with_reducible assumption) | with_reducible exact trivial | with_reducible exact upd_same | walk_at "g2" | ((with_reducible show _ = _); (fail_if_success (with_reducible show PySem.intText? _ = _)); law_purse 4000 => exact rfl) | ((with_reducible show _ ≤ _); first | law_purse 300 => exact Nat.le_of_ble_eq_true rfl | decide +kernel) | ((with_reducible show _ < _); first | decide +kernel | law_purse 500 => decide) | ((with_reducible show _ ≠ _); law_purse 500 => decide) | ((with_reducible show _ = _); law_purse 500 => first | assumption | decide) | law_purse 2000 => ((fail_if_success (show (∃ W : Nat → Nat → L2.St → Hp → Prop, _))); (fail_if_success (show (∃ W : Nat → Nat → Hp → Prop, _))); apply Exists.intro) | law_purse 1000 => apply And.intro | (law_purse 1000 => ((apply Or.inl); (apply Exists.intro); (apply And.intro); (with_reducible rfl))) | (law_purse 1000 => ((apply Or.inr); (apply Exists.intro); (apply And.intro); (with_reducible rfl))))
local macro_rules | `(tactic| walk_at "go") => `(tactic| repeat' (walk_at "g1"))
local macro_rules | `(tactic| walk_at "yes") => `(tactic| ((with_reducible apply it_t); first | exact rfl | exact decide_eq_true rfl))
local macro_rules | `(tactic| walk_at "no") => `(tactic| ((with_reducible apply it_f); first | exact rfl | (refine decide_eq_false fun e => ?_; injection e with e; simp at e; done)))
/-! ### the law -/
def spLaw (K : PySem.W.Frag) : Sp := fun vs H Q _ => ∃ (a : Addr) (ns : List Int), vs = [.ref a] ∧ SqL K H a (ns.map V.int) ∧ ∀ H', Q (.bl true) H'
def fixedS : List Str := [("" : Str), ("-" : Str), ("0" : Str), ("-0" : Str), ("00" : Str), ("1/1" : Str), ("2/4" : Str), ("1/0" : Str), ("0/1" : Str), ("0/2" : Str), ("+1" : Str), ("1/" : Str), ("/2" : Str), ("1/-2" : Str), ("--1" : Str), ("1/2/3" : Str), (" 1" : Str), ("1 " : Str), ("01" : Str), ("-01" : Str), ("1/02" : Str), ("-1/2" : Str), ("3/2" : Str), ("1.0" : Str), ("a" : Str), ("1_0" : Str), ("1\n" : Str), ("1/2\n" : Str), ("-" : Str), ("1/1_0" : Str), ("1/12" : Str), ("-7/10" : Str), ("5/111" : Str), ("1/21" : Str), ("-13/100" : Str), ("9/16" : Str), ("0/0" : Str), ("0/00" : Str), ("-0/00" : Str), ("1/00" : Str), ("00/00" : Str), ("-1/000" : Str), ("1\t" : Str), ("1/ 2" : Str)]
def asciiB (z : Str) : Bool := z.cps.toList.all fun c => decide (c < 128)
theorem ascii_ofB {z : Str} (h : asciiB z = true) : asciiW z := fun c hc => of_decide_eq_true (List.all_eq_true.mp h c hc)
theorem fixed_all : fixedS.all asciiB = true := by decide +kernel
theorem fixed_ascii : ∀ z ∈ fixedS, asciiW z := fun z hz => ascii_ofB (List.all_eq_true.mp fixed_all z hz)
theorem fixed_len : fixedS.length ≤ 100 := by decide +kernel
theorem str_small : siz (.str "wrong") = 52 ∧ siz (.str "told") = 42 ∧ plainD (.str "wrong") = true ∧ plainD (.str "told") = true := by decide +kernel
theorem fit_told {a b : Int} (h : a.natAbs < 2 ^ 1000) (g : b.natAbs < 2 ^ 1000) : Fit (.list [.str "told", .tuple [.int a, .int b]]) := by
  have h1 := log_lt h (by decide)
  have g1 := log_lt g (by decide)
  obtain ⟨_, s1, _, p1⟩ := str_small
  refine ⟨?_, ?_, ?_, ?_⟩
  · show (plainD (.str "told") && (true && true)) = true
    rw [p1]
    rfl
  · simp [PyData.showable, PyData.showableAll]
    omega
  · have e : siz (.list [.str "told", .tuple [.int a, .int b]]) = 2 + (siz (.str "told") + 2 + (4 + (a.natAbs.log2 + 2 + 2 + (b.natAbs.log2 + 2 + 2 + 0)) + 2 + 0)) := rfl
    rw [e, s1]
    omega
  · simp [PyData.depth, PyData.depthAll]
theorem ascii_plain {z : Str} (h : asciiW z) : plainD (.str z) = true := by
  show (z.cps.toList.all fun c => decide (c < 16 ^ 8)) = true
  rw [List.all_eq_true]
  intro c hc
  have := h c hc
  exact decide_eq_true (by omega)
theorem text_small : siz (.str "text") = 42 ∧ plainD (.str "text") = true := by decide +kernel
theorem fit_textS {z : Str} (h : asciiW z) (hl : z.length ≤ 5000) : Fit (.list [.str "text", .str z]) := by
  obtain ⟨s1, p1⟩ := text_small
  refine ⟨?_, ?_, ?_, ?_⟩
  · show (plainD (.str "text") && (plainD (.str z) && true)) = true
    rw [p1, ascii_plain h]
    rfl
  · simp [PyData.showable, PyData.showableAll]
  · have e : siz (.list [.str "text", .str z]) = 2 + (siz (.str "text") + 2 + ((10 * z.length + 2) + 2 + 0)) := rfl
    rw [e, s1]
    omega
  · simp [PyData.depth, PyData.depthAll]
theorem cut_ascii {z : Str} {lo hi : Option Int} (h : asciiW z) : asciiW (cutS z lo hi) := fun c hc => by
  have e : c ∈ ((z.cps.toList.drop (HT.sIx z.length 0 lo)).take (HT.sIx z.length z.length hi - HT.sIx z.length 0 lo)) := hc
  exact h c (List.mem_of_mem_drop (List.mem_of_mem_take e))
theorem app_ascii {x y : Str} (h : asciiW x) (g : asciiW y) : asciiW (x ++ y) := fun c hc => by
  have e : c ∈ TL.tl (x ++ y) := hc
  rw [tl_app] at e
  rcases List.mem_append.mp e with e | e
  · exact h c e
  · exact g c e
theorem sign_tab : ∀ j < 14, ((("0123456789-/ +" : Str)).cps.toList[j]?.any fun c => decide (c < 128)) = true := by decide +kernel
theorem sign_at {s : Int} (h0 : 0 ≤ s) (h1 : s < 14) : ∃ ch, atI (("0123456789-/ +" : Str)).cps.toList s = some ch ∧ ch < 128 := by
  obtain ⟨j, rfl⟩ : ∃ j : Nat, s = (j : Int) := ⟨s.toNat, by omega⟩
  have h := sign_tab j (by omega)
  cases e : (("0123456789-/ +" : Str)).cps.toList[j]? with
  | none =>
    rw [e] at h
    cases h
  | some c =>
    rw [e] at h
    exact ⟨c, atI_nat e, of_decide_eq_true h⟩
/-- a claim that the walk does not open -/
structure Box (p : Prop) : Prop where
  out : p
theorem fixed_small : (fixedS.all fun z => decide (z.length ≤ 2000)) = true := by decide +kernel
theorem fixed_ok : ∀ z ∈ fixedS, asciiW z ∧ z.length ≤ 2000 := fun z hz => ⟨fixed_ascii z hz, of_decide_eq_true (List.all_eq_true.mp fixed_small z hz)⟩
theorem digs_lt (n : Nat) : n < 10 ^ (digs n).length := by
  have h := val_lt (digs n) (digs_all n)
  rw [digs_val] at h
  exact h
theorem numL_lt (i : Int) : i.natAbs < 10 ^ (numL i).length := by
  have h := digs_lt i.natAbs
  have l : (digs i.natAbs).length ≤ (numL i).length := by
    unfold numL
    split
    · rw [List.length_cons]
      omega
    · exact Nat.le_refl _
  exact Nat.lt_of_lt_of_le h (Nat.pow_le_pow_right (by decide) l)
theorem frac_bound {t b : Int} (h : (fracS t b).length < 15) : t.natAbs < 10 ^ 15 ∧ b.natAbs < 10 ^ 15 := by
  rw [← tl_len, fracS_tl] at h
  unfold fracL at h
  rw [List.length_append] at h
  have p : ∀ n : Nat, n < 15 → 10 ^ n ≤ 10 ^ 15 := fun n hn => Nat.pow_le_pow_right (by decide) (by omega)
  refine ⟨Nat.lt_of_lt_of_le (numL_lt t) (p _ (by omega)), ?_⟩
  by_cases hb : b = 1
  · rw [hb]
    decide
  · rw [if_neg hb, List.length_cons] at h
    exact Nat.lt_of_lt_of_le (numL_lt b) (p _ (by omega))
/-! #### things that are no texts -/
theorem things_fit : fitB (.list [.str "text", .none]) = true ∧ fitB (.list [.str "text", .int 3]) = true ∧ fitB (.list [.str "text", .list [.str "1", .str "mark"]]) = true ∧ fitB (.list [.str "text", .tuple [.str "1"]]) = true ∧ fitB (.list [.str "text", .dict []]) = true ∧ fitB (.list [.str "text", .bool true]) = true ∧ fitB (.list [.str "text", .tuple [.int 1, .int 2]]) = true := by decide +kernel
/-- a thing that is no text and no list -/
structure Dull (K : PySem.W.Frag) (H : Hp) (x : V) (d : PyData) : Prop where
  rd : RD K H x d
  no : ∀ z, d ≠ .str z
  nl : isL d = false
  fit : Fit (.list [.str "text", d])
theorem Dull.read {K : PySem.W.Frag} {H : Hp} {x : V} {d : PyData} (h : Dull K H x d) : readD0 d = none := by
  cases d with
  | str z => exact absurd rfl (h.no z)
  | _ => rfl
theorem dull_of {K : PySem.W.Frag} {H : Hp} {u1 u2 u3 u4 : Addr} (e2 : H u2 = some (.tup [.str "1"])) (e3 : H u3 = some (.dK [])) (e4 : H u4 = some (.tup [.int 1, .int 2])) : ∀ (j : Nat) (v : V), j ≠ 2 → [V.non, .int 3, .ref u1, .ref u2, .ref u3, .bl true, .ref u4][j]? = some v → ∃ d, Dull K H v d
  | 0, _, _, e => by cases e; exact ⟨.none, .non, (fun _ z => nomatch z), rfl, fit_of things_fit.1⟩
  | 1, _, _, e => by cases e; exact ⟨.int 3, .int _, (fun _ z => nomatch z), rfl, fit_of things_fit.2.1⟩
  | 2, _, h, _ => absurd rfl h
  | 3, _, _, e => by cases e; exact ⟨.tuple [.str "1"], .tup (SqT.of e2) (.cons (.str _) .nil), (fun _ z => nomatch z), rfl, fit_of things_fit.2.2.2.1⟩
  | 4, _, _, e => by cases e; exact ⟨.dict [], .dic e3 .nil, (fun _ z => nomatch z), rfl, fit_of things_fit.2.2.2.2.1⟩
  | 5, _, _, e => by cases e; exact ⟨.bool true, .bl _, (fun _ z => nomatch z), rfl, fit_of things_fit.2.2.2.2.2.1⟩
  | 6, _, _, e => by cases e; exact ⟨.tuple [.int 1, .int 2], .tup (SqT.of e4) (.cons (.int _) (.cons (.int _) .nil)), (fun _ z => nomatch z), rfl, fit_of things_fit.2.2.2.2.2.2⟩
  | n + 7, _, _, e => by cases e
theorem text_ne_told : ¬ V.str ("text" : Str) = V.str ("told" : Str) := fun e => by
  injection e with e
  exact absurd e (by decide +kernel)
section
variable {P : Program} {wd : World} {K : PySem.W.Frag} {mg : Str → Option Value} {base : Heap}
theorem scLaw : FnScope ["script", "fixed", "k", "pile", "one", "text", "texts", "turn", "at", "sign", "thing", "due", "said"] ["script"] (defScope sLaw) := ⟨rfl, rfl, rfl, by decide +kernel, rfl, by decide +kernel, by decide +kernel⟩
theorem ok_law {f : Addr} {fd : FuncData} (F : Fun K "law" "law" sLaw f fd) (dPile : Df P wd K mg base CX0 1 "_law_pile" (spPile K)) (dTake : Df P wd K mg base CX0 2 "_law_take" spTake) (dFra : Df P wd K mg base CX0 3 "_law_fraction" spFra)
    (dWr : Df P wd K mg base CX0 1 "_law_written" (spFWritten K)) (dSaid0 : Df P wd K mg base CX0 6 "_law_said" (spSaid0 K)) (dSaid1 : Df P wd K mg base CX0 6 "_law_said" (spSaid1 K)) (dAl : DfG P wd K mg base CX0 1 "_law_alike" ["one", "other"] (spAlike K))
    (dIsFT : Df P wd K mg base CX0 2 "_law_is_fraction_text" spIsFT) (dFrIn : Df P wd K mg base CX0 1 "_law_fraction_in" spFrIn) (dOdd : DfG P wd K mg base CX0 7 "_law_odd_right" ["pile"] spPileT) (dGr : Df P wd K mg base CX0 7 "_law_great_right" spPileT) (dLong : Df P wd K mg base CX0 7 "_law_longest_right" spTrue0)
    (zg : mg "range" = none) (zl : mg "len" = none) (zli : mg "list" = none) (zs : mg "isinstance" = none) : FnG P wd K mg base CX0 8 f fd ["script"] (spLaw K) := by
  refine funG0 F scLaw (fun vs H Q E h => ?_) (fun cdv A hG outer s H vs Q E hS hr h => ?_)
  · obtain ⟨a, ns, rfl, _⟩ := h
    rfl
  · obtain ⟨a, ns, rfl, hns, q⟩ := h
    have g : Gd (cxOf CX0 P wd K mg base ["script", "fixed", "k", "pile", "one", "text", "texts", "turn", "at", "sign", "thing", "due", "said"] "law" (defScope sLaw) f cdv A outer s H E).nox := ⟨hG, hS, rfl⟩
    refine ⟨_, (pss_cons (ps_set (i := 1) scLaw.nd rfl (Or.inl rfl) (pe_lst (pa_cons pe_str (pa_cons pe_str (pa_cons pe_str (pa_cons pe_str (pa_cons pe_str (pa_cons pe_str (pa_cons pe_str (pa_cons pe_str (pa_cons pe_str (pa_cons pe_str (pa_cons pe_str (pa_cons pe_str (pa_cons pe_str (pa_cons pe_str (pa_cons pe_str pa_nil)))))))))))))))))
      (pss_cons (ps_set (i := 1) scLaw.nd rfl (Or.inl rfl) (pe_op op_cat (pv 1) (pe_lst (pa_cons pe_str (pa_cons pe_str (pa_cons pe_str (pa_cons pe_str (pa_cons pe_str (pa_cons pe_str (pa_cons pe_str (pa_cons pe_str (pa_cons pe_str (pa_cons pe_str pa_nil)))))))))))))
      (pss_cons (ps_set (i := 1) scLaw.nd rfl (Or.inl rfl) (pe_op op_cat (pv 1) (pe_lst (pa_cons pe_str (pa_cons pe_str (pa_cons pe_str (pa_cons pe_str (pa_cons pe_str (pa_cons pe_str (pa_cons pe_str (pa_cons pe_str (pa_cons pe_str (pa_cons pe_str (pa_cons pe_str pa_nil))))))))))))))
      (pss_cons (ps_set (i := 1) scLaw.nd rfl (Or.inl rfl) (pe_op op_cat (pv 1) (pe_lst (pa_cons pe_str (pa_cons pe_str (pa_cons pe_str (pa_cons pe_str (pa_cons pe_str (pa_cons pe_str (pa_cons pe_str (pa_cons pe_str pa_nil)))))))))))
      (pss_cons (ps_for PassesOwn.never rfl (pi_range1 rfl zg (pa_cons pe_int pa_nil)) (pg_name (i := 2) scLaw.nd rfl (Or.inl rfl)) (pss_cons (ps_set (i := 3) scLaw.nd rfl (Or.inl rfl) (pe_d dPile hr rfl (pa_cons (pv 0) (pa_cons (pv 2) pa_nil))))
      (pss_cons (ps_set (i := 4) scLaw.nd rfl (Or.inl rfl) (pe_d dFra hr rfl (pa_cons (pv 3) pa_nil)))
      (pss_cons (ps_set (i := 5) scLaw.nd rfl (Or.inl rfl) (pe_d dWr hr rfl (pa_cons (pv 4) pa_nil)))
      (pss_cons (ps_if (PW.pt (pw_or (pt_cmpR (op_neR hr.units) (pe_d dSaid0 hr rfl (pa_cons pe_int (pa_cons (pv 4) pa_nil))) (pe_lst (pa_cons pe_str (pa_cons (pv 5) pa_nil))) (nomark _)) (pw_or1 (pt_not (pt_val (pe_dG dAl g hr rfl (pa_cons (pe_d dSaid1 hr rfl (pa_cons pe_int (pa_cons (pv 5) pa_nil))) (pa_cons (pe_lst (pa_cons pe_str (pa_cons (pv 4) pa_nil))) pa_nil)))))))) (pss_one (ps_ret pe_bl)) pss_nil)
      (pss_cons (ps_set (i := 6) scLaw.nd rfl (Or.inl rfl) (pe_callTy call_list_of (by rfl) zli bt_list (pa_cons (pv 1) pa_nil)))
      (pss_cons (ps_for PassesOwn.never rfl (pi_range1 rfl zg (pa_cons pe_int pa_nil)) (pg_name (i := 7) scLaw.nd rfl (Or.inl rfl)) (pss_cons (ps_set (i := 8) scLaw.nd rfl (Or.inl rfl) (pe_d dTake hr rfl (pa_cons (pv 3) (pa_cons (pe_op op_add (pe_callB call_len_str (by rfl) zl bt_len (pa_cons (pv 5) pa_nil)) pe_int) pa_nil))))
      (pss_cons (ps_set (i := 9) scLaw.nd rfl (Or.inl rfl) (pe_ix ix_str pe_str (pe_d dTake hr rfl (pa_cons (pv 3) (pa_cons pe_int pa_nil))) (fun _ _ => rfl)))
      (pss_cons (ps_expr (pe_bm PySem.F.plainAttrs_list PySem.F.slot_list_append PySem.F.type_list_append mt_append (pv 6) (pa_cons (pe_op op_add_str (pe_op op_add_str (pe_slice sl_str (pv 5) po_none (po_some (pv 8))) (pv 9)) (pe_slice sl_str (pv 5) (po_some (pv 8)) po_none)) pa_nil)))
      (pss_cons (ps_expr (pe_bm PySem.F.plainAttrs_list PySem.F.slot_list_append PySem.F.type_list_append mt_append (pv 6) (pa_cons (pe_op op_add_str (pe_slice sl_str (pv 5) po_none (po_some (pv 8))) (pe_slice sl_str (pv 5) (po_some (pe_op op_add (pv 8) pe_int)) po_none)) pa_nil)))
      (pss_one (ps_expr (pe_bm PySem.F.plainAttrs_list PySem.F.slot_list_append PySem.F.type_list_append mt_append (pv 6) (pa_cons (pe_op op_add_str (pe_op op_add_str (pe_slice sl_str (pv 5) po_none (po_some (pv 8))) (pv 9)) (pe_slice sl_str (pv 5) (po_some (pe_op op_add (pv 8) pe_int)) po_none)) pa_nil)))))))))
      (pss_cons (ps_for PassesOwn.never rfl (pi_list (pe_lc (own := [("one", 4)]) (g := gName 4) (tt := _) (te := tVar 4) rfl scLaw.nd (pi_list (pv 6)) (blkOk_by (N := ["script", "fixed", "k", "pile", "one", "text", "texts", "turn", "at", "sign", "thing", "due", "said"]) (sc := defScope sLaw) (by decide +kernel)) (fun _ _ _ _ _ => pg_name (i := 4) scLaw.nd rfl (Or.inl rfl)) (fun _ _ _ _ _ => (pts_one (pt_cmpR op_lt (pe_callB call_len_str (by rfl) zl bt_len (pa_cons (pv 4) pa_nil)) pe_int (nomark _)))) (fun _ _ _ _ _ => (pv 4)))) (pg_name (i := 10) scLaw.nd rfl (Or.inl rfl)) (pss_cons (ps_set (i := 11) scLaw.nd rfl (Or.inl rfl) (pe_lst (pa_cons pe_str (pa_cons (pv 10) pa_nil))))
      (pss_cons (ps_if (pt_val (pe_d dIsFT hr rfl (pa_cons (pv 10) pa_nil))) (pss_one (ps_set (i := 11) scLaw.nd rfl (Or.inl rfl) (pe_lst (pa_cons pe_str (pa_cons (pe_d dFrIn hr rfl (pa_cons (pv 10) pa_nil)) pa_nil))))) pss_nil)
      (pss_cons (ps_if (pt_not (pt_val (pe_dG dAl g hr rfl (pa_cons (pe_d dSaid1 hr rfl (pa_cons pe_int (pa_cons (pv 10) pa_nil))) (pa_cons (pv 11) pa_nil))))) (pss_one (ps_ret pe_bl)) pss_nil)
      (pss_one (ps_if (PW.pt (pw_and (pt_cmpR op_eq (pe_ix ix_list (pv 11) pe_int (fun _ _ => rfl)) pe_str (nomark _)) (pw_and1 (pt_cmpR (op_neR hr.units) (pe_d dSaid0 hr rfl (pa_cons pe_int (pa_cons (pe_ix ix_list (pv 11) pe_int (fun _ _ => rfl)) pa_nil))) (pe_lst (pa_cons pe_str (pa_cons (pv 10) pa_nil))) (nomark _))))) (pss_one (ps_ret pe_bl)) pss_nil))))))
      (pss_cons (ps_for PassesOwn.never rfl (pi_list (pe_lst (pa_cons pe_non (pa_cons pe_int (pa_cons (pe_lst (pa_cons pe_str pa_nil)) (pa_cons (pe_tup (pa_cons pe_str pa_nil)) (pa_cons pe_dnewK (pa_cons pe_bl (pa_cons (pe_tup (pa_cons pe_int (pa_cons pe_int pa_nil))) pa_nil))))))))) (pg_name (i := 10) scLaw.nd rfl (Or.inl rfl)) (pss_cons (ps_set (i := 12) scLaw.nd rfl (Or.inl rfl) (pe_d dSaid1 hr rfl (pa_cons pe_int (pa_cons (pv 10) pa_nil))))
      (pss_cons (ps_if (pt_val (pe_callB call_isi (by rfl) zs bt_isinstance (pa_cons (pv 10) (pa_cons (pe_bltn (v := .ty "list") (by rfl) zli bt_list rfl) pa_nil)))) (pss_one (ps_expr (pe_bm PySem.F.plainAttrs_list PySem.F.slot_list_append PySem.F.type_list_append mt_append (pv 10) (pa_cons pe_str pa_nil)))) pss_nil)
      (pss_one (ps_if (pt_not (pt_val (pe_dG dAl g hr rfl (pa_cons (pv 12) (pa_cons (pe_lst (pa_cons pe_str (pa_cons (pv 10) pa_nil))) pa_nil))))) (pss_one (ps_ret pe_bl)) pss_nil)))))
      (pss_cons (ps_if (PW.pt (pw_or (pt_not (pt_val (pe_dG dOdd g hr rfl (pa_cons (pv 3) pa_nil)))) (pw_or1 (pt_not (pt_val (pe_d dGr hr rfl (pa_cons (pv 3) pa_nil))))))) (pss_one (ps_ret pe_bl)) pss_nil)
      (pss_one (ps_set (i := 1) scLaw.nd rfl (Or.inl rfl) (pe_lst pa_nil)))))))))))))
      (pss_one (ps_ret (pe_d0 dLong hr rfl)))))))), ?_⟩
    walk_at "go"
    intro l1 h1
    walk_at "go"
    intro l2 h2
    walk_at "go"
    intro c2 k2
    walk_at "go"
    intro l3 h3
    walk_at "go"
    intro c3 k3
    walk_at "go"
    intro l4 h4
    walk_at "go"
    intro c4 k4
    walk_at "go"
    refine for_range (n := 24) (fun i σ H' => ∃ (c : Addr) (zs : List Str) (v2 v3 v4 v5 v6 v7 v8 v9 v10 v11 v12 : Option V), σ = [some (.ref a), some (.ref c), v2, v3, v4, v5, v6, v7, v8, v9, v10, v11, v12] ∧ Same H H' ∧ H' c = some (.lst (zs.map V.str)) ∧ (∀ z ∈ zs, asciiW z ∧ z.length ≤ 2000) ∧ zs.length ≤ 100)
      ⟨c4, fixedS, _, _, _, _, _, _, _, _, _, _, _, rfl, ((((((same_new h1).trans (same_new h2)).trans (same_new k2)).trans (same_new h3)).trans (same_new k3)).trans (same_new h4)).trans (same_new k4), upd_same, fixed_ok, fixed_len⟩ ?_ ?_
    · rintro i σ H' hi ⟨c, zs, v2, v3, v4, v5, v6, v7, v8, v9, v10, v11, v12, rfl, s1, hc, za, zn⟩
      have hns1 := Same.seq s1 hns
      rw [Int.zero_add]
      walk_at "go"
      intro H2 p L s2 np hp2 hL2
      walk_at "go"
      intro r t c1 L3 H3 nr er fr ht hc1 b3 hp3 hL3
      have cp : c ≠ p := ne_of_none hc np
      have rp : r ≠ p := fun z => by
        rw [z, hp2] at nr
        cases nr
      have hc3 := b3 _ _ cp (s2 _ _ hc)
      have lt : t.natAbs.log2 < 20 := lg (n := 20) (by omega) (by decide)
      have lc : c1.natAbs.log2 < 20 := lg (n := 20) (by have := fr.pos; omega) (by decide)
      have lt' : t.natAbs.log2 < 12900 := by omega
      have lc' : c1.natAbs.log2 < 12900 := by omega
      walk_at "go"
      intro H4 s4
      have er4 := s4 _ _ er
      have ta := fracS_ascii (t := t) (b := c1)
      have tlen : (fracS t c1).length ≤ 500 := frac_len (by omega) (by omega)
      have sh := shaped_pair told_ascii ta
      have tok : TxtOk (fracS t c1) := ⟨ta, .inl tlen⟩
      have rf : readD0 (.str (fracS t c1)) = some (t, c1) := by
        show readL (TL.tl (fracS t c1)) = _
        rw [fracS_tl]
        exact read_frac fr
      walk_at "go"
      · intro h
        rw [fr_isF fr] at h
        cases h
      intro t' b' e1 _
      injection e1 with e1
      injection e1 with e1 e2
      injection e2 with e2 _
      injection e1 with e1
      injection e2 with e2
      subst e1
      subst e2
      refine ⟨lt', fun _ => ⟨by omega, by omega⟩, fun r5 H5 s5 hr5 er5 => ?_⟩
      walk_at "go"
      intro l6 hl6
      walk_at "go"
      refine it_f (nev_self sh) ?_
      walk_at "go"
      · intro z hz
        cases hz
        exact tok
      · intro h
        rw [rf] at h
        cases h
      intro t' b' e q7 r7 H7 s7 nq7 eq7 nr7 er7
      rw [rf] at e
      cases e
      have S3 := ((s4.trans s5).trans (same_new (o := .lst [V.str "told", .str (fracS t c1)]) hl6)).trans s7
      have er7' := S3 _ _ er
      walk_at "go"
      intro l8 hl8
      have n8 := same_new (o := .lst [V.str "told", .ref r]) hl8
      have fit := fit_told (a := t) (b := c1) (Nat.lt_of_lt_of_le (m := 2 ^ 30) (by omega) (Nat.pow_le_pow_right (by decide) (by decide))) (Nat.lt_of_lt_of_le (m := 2 ^ 30) (by have := fr.pos; omega) (Nat.pow_le_pow_right (by decide) (by decide)))
      refine ⟨_, _, _, _, rfl, RD.lstH (n8 _ _ er7) (.cons (.str _) (.cons (RD.tupH (n8 _ _ eq7) (.cons (.int _) (.cons (.int _) .nil))) .nil)), RD.lstH upd_same (.cons (.str _) (.cons (RD.tupH (n8 _ _ er7') (.cons (.int _) (.cons (.int _) .nil))) .nil)), fit, fit, ?_⟩
      rw [decide_eq_true rfl]
      have Sx := S3.trans n8
      have hcx := Sx _ _ hc3
      have hpx := Sx _ _ hp3
      have erx := Sx _ _ er
      generalize upd H7 l8 (.lst [V.str "told", .ref r]) = Hx at *
      walk_at "go"
      walk_at "no"
      walk_at "go"
      intro D hD
      have nDp : D ≠ p := (ne_of_none hpx hD).symm
      have nDc : c ≠ D := ne_of_none hcx hD
      have hpD : (upd Hx D (.lst (zs.map V.str))) p = some (.lst L3) := (upd_ne nDp.symm).trans hpx
      walk_at "go"
      have n0 : (0 : Int) < ((fracS t c1).length : Int) + 1 := by omega
      have n1 : (((fracS t c1).length : Int) + 1).natAbs < 2 ^ 2000 := Nat.lt_of_lt_of_le (m := 2 ^ 10) (by omega) (Nat.pow_le_pow_right (by decide) (by decide))
      generalize hw : fracS t c1 = w at *
      have wl : w.length ≤ sizeLine := by rw [sizeLine_eq]; omega
      refine for_range (n := 5) (fun m σ' G => Box (∃ (ys : List Str) (M : List V) (x7 x8 x9 : Option V), σ' = [some (.ref a), some (.ref c), some (.int (i : Int)), some (.ref p), some (.ref r), some (.str w), some (.ref D), x7, x8, x9, v10, v11, v12] ∧ (∀ b o, b ≠ p → b ≠ D → Hx b = some o → G b = some o) ∧ G D = some (.lst (ys.map V.str)) ∧ G p = some (.lst M) ∧ Pile (decide ((i : Int) < 2)) M ∧ (∀ z ∈ ys, asciiW z ∧ z.length ≤ 2000) ∧ ys.length ≤ 100 + 3 * m))
        ⟨zs, L3, _, _, _, rfl, fun b o _ nb e => (upd_ne nb).trans e, upd_same, hpD, hL3, za, by omega⟩ ?_ ?_
      · rintro m σ' G hm ⟨ys, M, x7, x8, x9, rfl, keep, gD, gp, gM, ya, yn⟩
        walk_at "go"
        intro at_ M2 G2 a0 a1 gM2 bG2 gp2
        walk_at "go"
        intro sg M3 G3 a2 a3 gM3 bG3 gp3
        obtain ⟨ch, ech, chA⟩ := sign_at a2 a3
        have gD3 := bG3 _ _ nDp (bG2 _ _ nDp gD)
        have q0 : (cutS w none (some at_)).length ≤ 500 := Nat.le_trans (cutS_length _ _ _) tlen
        have q1 : (cutS w (some at_) none).length ≤ 500 := Nat.le_trans (cutS_length _ _ _) tlen
        have q2 : (cutS w (some (at_ + 1)) none).length ≤ 500 := Nat.le_trans (cutS_length _ _ _) tlen
        have q3 : (⟨#[ch]⟩ : Str).length = 1 := rfl
        have f1 : (cutS w none (some at_)).length + (⟨#[ch]⟩ : Str).length ≤ sizeLine := by rw [sizeLine_eq]; omega
        have f2 : (cutS w none (some at_) ++ (⟨#[ch]⟩ : Str)).length + (cutS w (some at_) none).length ≤ sizeLine := by rw [sizeLine_eq, Str.length_append]; omega
        have f3 : (cutS w none (some at_)).length + (cutS w (some (at_ + 1)) none).length ≤ sizeLine := by rw [sizeLine_eq]; omega
        have f4 : (cutS w none (some at_) ++ (⟨#[ch]⟩ : Str)).length + (cutS w (some (at_ + 1)) none).length ≤ sizeLine := by rw [sizeLine_eq, Str.length_append]; omega
        have g1 : (ys.map V.str).length < sizeLine := by rw [sizeLine_eq, List.length_map]; omega
        have g2 : ∀ u : V, (ys.map V.str ++ [u]).length < sizeLine := fun u => by rw [sizeLine_eq, List.length_append, List.length_map, List.length_singleton]; omega
        have g3 : ∀ u v : V, (ys.map V.str ++ [u] ++ [v]).length < sizeLine := fun u v => by rw [sizeLine_eq, List.length_append, List.length_append, List.length_map, List.length_singleton, List.length_singleton]; omega
        have g2' := g2 (.str (cutS w none (some at_) ++ (⟨#[ch]⟩ : Str) ++ cutS w (some at_) none))
        have g3' := g3 (.str (cutS w none (some at_) ++ (⟨#[ch]⟩ : Str) ++ cutS w (some at_) none)) (.str (cutS w none (some at_) ++ cutS w (some (at_ + 1)) none))
        have chW : asciiW (⟨#[ch]⟩ : Str) := fun c hc => by
          have : c ∈ [ch] := hc
          rw [List.mem_singleton.mp this]
          exact chA
        walk_at "go"
        refine ⟨ys ++ [cutS w none (some at_) ++ (⟨#[ch]⟩ : Str) ++ cutS w (some at_) none] ++ [cutS w none (some at_) ++ cutS w (some (at_ + 1)) none] ++ [cutS w none (some at_) ++ (⟨#[ch]⟩ : Str) ++ cutS w (some (at_ + 1)) none], M3, _, _, _, rfl, ?_, ?_, ?_, gM3, ?_, ?_⟩
        · intro b o nb nD e
          exact (upd_ne nD).trans ((upd_ne nD).trans ((upd_ne nD).trans (bG3 _ _ nb (bG2 _ _ nb (keep _ _ nb nD e)))))
        · simp only [List.map_append, List.map_cons, List.map_nil]
          exact upd_same
        · exact (upd_ne nDp.symm).trans ((upd_ne nDp.symm).trans ((upd_ne nDp.symm).trans gp3))
        · intro z hz
          have a1 := app_ascii (app_ascii (cut_ascii (lo := none) (hi := some at_) ta) chW) (cut_ascii (lo := some at_) (hi := none) ta)
          have a2 := app_ascii (cut_ascii (lo := none) (hi := some at_) ta) (cut_ascii (lo := some (at_ + 1)) (hi := none) ta)
          have a3 := app_ascii (app_ascii (cut_ascii (lo := none) (hi := some at_) ta) chW) (cut_ascii (lo := some (at_ + 1)) (hi := none) ta)
          rcases List.mem_append.mp hz with hz | hz
          · rcases List.mem_append.mp hz with hz | hz
            · rcases List.mem_append.mp hz with hz | hz
              · exact ya z hz
              · rw [List.mem_singleton.mp hz]
                exact ⟨a1, by rw [Str.length_append, Str.length_append]; omega⟩
            · rw [List.mem_singleton.mp hz]
              exact ⟨a2, by rw [Str.length_append]; omega⟩
          · rw [List.mem_singleton.mp hz]
            exact ⟨a3, by rw [Str.length_append, Str.length_append]; omega⟩
        · rw [List.length_append, List.length_append, List.length_append]
          simp only [List.length_singleton]
          omega
      · rintro σ' G ⟨ys, M, x7, x8, x9, rfl, keep, gD, gp, gM, ya, yn⟩
        walk_at "go"
        intro D2 hD2
        have nDD : D ≠ D2 := ne_of_none gD hD2
        refine lc_list (xs := ys.map V.str) (fun m G' => Same G G' ∧ ∃ fs : List Str, G' D2 = some (.lst (fs.map V.str)) ∧ fs.length ≤ m ∧ ∀ z ∈ fs, asciiW z ∧ z.length < 15) ⟨same_new hD2, [], upd_same, Nat.le_refl _, fun z hz => nomatch hz⟩ (fun m G' _ hP => SqL.of (hP.1 _ _ gD)) ?_ ?_
        · rintro m x G' hx ⟨sG, fs, fD, fn, fa⟩
          obtain ⟨z, hz, rfl⟩ : ∃ z, ys[m]? = some z ∧ V.str z = x := by
            rw [List.getElem?_map] at hx
            cases e : ys[m]? with
            | none =>
              rw [e] at hx
              cases hx
            | some z =>
              rw [e] at hx
              exact ⟨z, rfl, Option.some.inj hx⟩
          obtain ⟨zA, zL⟩ := ya z (List.mem_of_getElem? hz)
          have mlt : m < ys.length := (List.getElem?_eq_some_iff.mp hz).1
          have zl1 : z.length ≤ sizeLine := by rw [sizeLine_eq]; omega
          refine ⟨rfl, _, rfl, z, rfl, zl1, _, _, rfl, rfl, _, rfl, ite2 (fun h => ?_) (fun h => ?_)⟩
          · have h15 := of_decide_eq_true h
            refine ⟨_, rfl, _, fD, by rw [List.length_map, sizeLine_eq]; omega, fun b o e => (upd_ne (ne_of_none e hD2)).trans (sG _ _ e), fs ++ [z], by rw [List.map_append]; exact upd_same, by rw [List.length_append]; exact Nat.succ_le_succ fn, fun y hy => ?_⟩
            rcases List.mem_append.mp hy with hy | hy
            · exact fa y hy
            · rw [List.mem_singleton.mp hy]
              exact ⟨zA, by omega⟩
          · exact ⟨sG, fs, fD, by omega, fa⟩
        · rintro G' ⟨sG, fs, fD, fn, fa⟩
          walk_at "go"
          refine for_list (xs := fs.map V.str) (fun m σ' G2 => Box (∃ x10 x11 : Option V, σ' = [some (.ref a), some (.ref c), some (.int (i : Int)), some (.ref p), some (.ref r), some (.str w), some (.ref D), x7, x8, x9, x10, x11, v12] ∧ Same G' G2)) ⟨_, _, rfl, fun _ _ e => e⟩ (fun m σ' G2 _ hP => let ⟨⟨_, _, _, s⟩⟩ := hP; SqL.of (s _ _ fD)) ?_ ?_
          · rintro m x σ' G2 hx ⟨x10, x11, rfl, sG2⟩
            obtain ⟨z, hz, rfl⟩ : ∃ z, fs[m]? = some z ∧ V.str z = x := by
              rw [List.getElem?_map] at hx
              cases e : fs[m]? with
              | none =>
                rw [e] at hx
                cases hx
              | some z =>
                rw [e] at hx
                exact ⟨z, rfl, Option.some.inj hx⟩
            obtain ⟨zA, zL⟩ := fa z (List.mem_of_getElem? hz)
            have zl1 : z.length ≤ 4000 := by omega
            have tokz : TxtOk z := ⟨zA, .inl (by omega)⟩
            have lw := law_read (TL.tl z)
            have r0 : readD0 (.str z) = readL (TL.tl z) := rfl
            walk_at "go"
            intro d1 hd1
            walk_at "go"
            intro H8 s8
            rw [lw]
            have ed1 := s8 _ _ (upd_same (H := G2) (a := d1) (o := .lst [V.str "text", .str z]))
            cases hrd : readL (TL.tl z) with
            | none =>
              rw [hrd] at r0
              have fit := fit_textS zA (by omega)
              walk_at "go"
              walk_at "no"
              walk_at "go"
              · intro y hy
                cases hy
                exact tokz
              · intro _ r9 H9 s9 nr9 er9
                have ed9 := s9 _ _ ed1
                walk_at "go"
                rw [decide_eq_true rfl]
                walk_at "no"
                have a0 : atI [V.str "text", .str z] 0 = some (.str "text") := atI_nat (j := 0) rfl
                walk_at "go"
                refine it_f (decide_eq_false text_ne_told) ?_
                walk_at "go"
                exact ⟨_, _, rfl, ((sG2.trans (same_new hd1)).trans s8).trans s9⟩
              · intro t' b' e
                rw [r0] at e
                cases e
            | some v =>
              obtain ⟨t', b'⟩ := v
              obtain ⟨fr', ez⟩ := read_some hrd
              obtain rfl : z = fracS t' b' := tl_ext (ez.trans fracS_tl.symm)
              rw [hrd] at r0
              obtain ⟨tb, bb⟩ := frac_bound zL
              have hb1 := fr'.pos
              have hze : fracS t' b' = fracS t' b' := rfl
              walk_at "go"
              walk_at "yes"
              walk_at "go"
              intro q2 H9 s9 nq2 eq2
              have lt2 : t'.natAbs.log2 < 50 := lg (n := 50) (Nat.lt_of_lt_of_le tb (by decide)) (by decide)
              have lb2 : b'.natAbs.log2 < 50 := lg (n := 50) (Nat.lt_of_lt_of_le bb (by decide)) (by decide)
              have fit := fit_told (a := t') (b := b') (Nat.lt_of_lt_of_le (m := 2 ^ 50) (Nat.lt_of_lt_of_le tb (by decide)) (Nat.pow_le_pow_right (by decide) (by decide))) (Nat.lt_of_lt_of_le (m := 2 ^ 50) (Nat.lt_of_lt_of_le bb (by decide)) (Nat.pow_le_pow_right (by decide) (by decide)))
              walk_at "go"
              intro d2 hd2
              have eq2' := same_new (o := .lst [V.str "told", .ref q2]) hd2 _ _ eq2
              walk_at "go"
              · intro y hy
                cases hy
                exact tokz
              · intro h
                rw [r0] at h
                cases h
              intro t3 b3' e q4 r9 H10 s10 nq4 eq4 nr9 er9
              rw [r0] at e
              cases e
              have ed2 := s10 _ _ (upd_same (H := H9) (a := d2) (o := .lst [V.str "told", .ref q2]))
              have eq2'' := s10 _ _ eq2'
              walk_at "go"
              rw [decide_eq_true rfl]
              walk_at "no"
              have a0 : atI [V.str "told", .ref q2] 0 = some (.str "told") := atI_nat (j := 0) rfl
              have a1 : atI [V.str "told", .ref q2] 1 = some (.ref q2) := atI_nat (j := 1) rfl
              have shz := shaped_pair told_ascii zA
              walk_at "go"
              walk_at "yes"
              walk_at "go"
              · intro h
                rw [fr_isF fr'] at h
                cases h
              intro t4 b4 e1 _
              injection e1 with e1
              injection e1 with e1 e2
              injection e2 with e2 _
              injection e1 with e1
              injection e2 with e2
              subst e1
              subst e2
              refine ⟨by omega, fun _ => ⟨by omega, by omega⟩, fun r11 H11 s11 hr11 er11 => ?_⟩
              walk_at "go"
              intro d3 hd3
              walk_at "go"
              refine it_f (nev_self shz) ?_
              exact ⟨_, _, rfl, ((((((sG2.trans (same_new hd1)).trans s8).trans s9).trans (same_new hd2)).trans s10).trans s11).trans (same_new hd3)⟩
          · rintro σ' G2 ⟨x10, x11, rfl, sG2⟩
            walk_at "go"
            intro u1 hu1
            walk_at "go"
            intro u2 hu2
            walk_at "go"
            intro u3 hu3
            walk_at "go"
            intro u4 hu4
            walk_at "go"
            intro l9 hl9
            walk_at "go"
            have m1 := same_new (o := .lst [V.str "1"]) hu1
            have m2 := same_new (o := .tup [V.str "1"]) hu2
            have m3 := same_new (o := .dK []) hu3
            have m4 := same_new (o := .tup [V.int 1, .int 2]) hu4
            have m5 := same_new (o := .lst [V.non, .int 3, .ref u1, .ref u2, .ref u3, .bl true, .ref u4]) hl9
            have k1 := (((m2.trans m3).trans m4).trans m5) _ _ (upd_same (H := G2) (a := u1) (o := .lst [V.str "1"]))
            have k2 := ((m3.trans m4).trans m5) _ _ upd_same
            have k3 := (m4.trans m5) _ _ upd_same
            have k4 := m5 _ _ upd_same
            have k5 : (upd (upd (upd (upd (upd G2 u1 (.lst [V.str "1"])) u2 (.tup [V.str "1"])) u3 (.dK [])) u4 (.tup [V.int 1, .int 2])) l9 (.lst [V.non, .int 3, .ref u1, .ref u2, .ref u3, .bl true, .ref u4])) l9 = some (.lst [V.non, .int 3, .ref u1, .ref u2, .ref u3, .bl true, .ref u4]) := upd_same
            have n1 : l9 ≠ u1 := (ne_of_none ((((m2.trans m3).trans m4)) _ _ (upd_same (H := G2) (a := u1) (o := .lst [V.str "1"]))) hl9).symm
            have n2 : u2 ≠ u1 := (fresh hu2).1
            have n3 : u3 ≠ u1 := (ne_of_none (m2 _ _ upd_same) hu3).symm
            have n4 : u4 ≠ u1 := (ne_of_none ((m2.trans m3) _ _ upd_same) hu4).symm
            have kS := (((m1.trans m2).trans m3).trans m4).trans m5
            generalize upd (upd (upd (upd (upd G2 u1 (.lst [V.str "1"])) u2 (.tup [V.str "1"])) u3 (.dK [])) u4 (.tup [V.int 1, .int 2])) l9 (.lst [V.non, .int 3, .ref u1, .ref u2, .ref u3, .bl true, .ref u4]) = G0 at *
            refine for_list (xs := [V.non, .int 3, .ref u1, .ref u2, .ref u3, .bl true, .ref u4]) (fun m σ' G3 => Box (∃ x10 x12 : Option V, σ' = [some (.ref a), some (.ref c), some (.int (i : Int)), some (.ref p), some (.ref r), some (.str w), some (.ref D), x7, x8, x9, x10, x11, x12] ∧ But u1 G0 G3 ∧ (m ≤ 2 → G3 u1 = some (.lst [V.str "1"])))) ⟨_, _, rfl, But.refl, fun _ => k1⟩ (fun m σ' G3 _ hP => let ⟨⟨_, _, _, s, _⟩⟩ := hP; SqL.of (s _ _ n1 k5)) ?_ ?_
            · rintro m x σ' G3 hx ⟨x10, x12, rfl, bG3, ku1⟩
              by_cases h2 : m = 2
              · subst h2
                obtain rfl : V.ref u1 = x := Option.some.inj hx
                have ku := ku1 (Nat.le_refl 2)
                have hk := kit_list (K := K) (.list [.str "1"])
                have r4 : RD K G3 (.ref u1) (.list [.str "1"]) := .lst (SqL.of ku) (.cons (.str _) .nil)
                walk_at "go"
                · intro z hz
                  cases hz
                · intro _ r9 H9 s9 nr9 er9
                  have ku9 := s9 _ _ ku
                  have n9 : r9 ≠ u1 := (ne_of_none ku nr9).symm
                  have r49 : RD K H9 (.ref u1) (.list [.str "1"]) := .lst (SqL.of ku9) (.cons (.str _) .nil)
                  walk_at "go"
                  walk_at "yes"
                  walk_at "go"
                  intro d9 hd9
                  have h9 := same_new (o := .lst [V.str "text", .ref u1]) hd9
                  have e4 := h9 _ _ (upd_same (H := H9) (a := u1) (o := .lst ([V.str "1"] ++ [.str "mark"])))
                  have e2 := h9 _ _ ((upd_ne n9).trans er9)
                  have rd4 : RD K (upd (upd H9 u1 (.lst ([V.str "1"] ++ [.str "mark"]))) d9 (.lst [V.str "text", .ref u1])) (.ref u1) (.list [.str "1", .str "mark"]) := .lst (SqL.of e4) (.cons (.str _) (.cons (.str _) .nil))
                  have fit := fit_of things_fit.2.2.1
                  refine ⟨_, _, _, _, rfl, RD.lstH e2 (.cons (.str _) (.cons rd4 .nil)), RD.lstH upd_same (.cons (.str _) (.cons rd4 .nil)), fit, fit, ?_⟩
                  rw [decide_eq_true rfl]
                  walk_at "go"
                  walk_at "no"
                  refine ⟨_, _, rfl, fun b o nb e => h9 _ _ ((upd_ne nb).trans (s9 _ _ (bG3 _ _ nb e))), fun h => absurd h (by decide)⟩
                · intro t' b' e
                  cases e
              · obtain ⟨d, du⟩ := dull_of (K := K) (bG3 _ _ n2 k2) (bG3 _ _ n3 k3) (bG3 _ _ n4 k4) m x h2 hx
                have hk := kit_list (K := K) d
                rw [du.nl] at hk
                have rdx := du.rd
                have rdn := du.read
                have fit := du.fit
                walk_at "go"
                · intro z hz
                  exact absurd hz (du.no z)
                · intro _ r9 H9 s9 nr9 er9
                  have rd9 := RD.mono s9 _ _ rdx
                  walk_at "go"
                  walk_at "no"
                  walk_at "go"
                  intro d9 hd9
                  have h9 := same_new (o := .lst [V.str "text", x]) hd9
                  have rd10 := RD.mono h9 _ _ rd9
                  refine ⟨_, _, _, _, rfl, RD.lstH (h9 _ _ er9) (.cons (.str _) (.cons rd10 .nil)), RD.lstH upd_same (.cons (.str _) (.cons rd10 .nil)), fit, fit, ?_⟩
                  rw [decide_eq_true rfl]
                  walk_at "go"
                  walk_at "no"
                  exact ⟨_, _, rfl, bG3.trans (same_but (s9.trans h9)), fun h => (s9.trans h9) _ _ (ku1 (by omega))⟩
                · intro t' b' e
                  rw [rdn] at e
                  cases e
            · rintro σ' G3 ⟨x10, x12, rfl, bG3, _⟩
              have gpE := bG3 _ _ (ne_of_none (sG2 _ _ (sG _ _ gp)) hu1) (kS _ _ (sG2 _ _ (sG _ _ gp)))
              walk_at "go"
              intro M6 H12 bo6 hp6 hM6
              walk_at "go"
              walk_at "no"
              walk_at "go"
              intro M7 H13 bo7 hp7 hM7
              walk_at "go"
              walk_at "no"
              walk_at "go"
              intro lz hlz
              refine ⟨lz, [], _, _, _, _, _, _, _, _, _, _, _, rfl, fun b o e => ?_, upd_same, (fun z hz => nomatch hz), Nat.zero_le _⟩
              have e1 := s1 b o e
              have nb : b ≠ p := ne_of_none e1 np
              have ex := Sx _ _ (b3 _ _ nb (s2 _ _ e1))
              have nD : b ≠ D := ne_of_none ex hD
              have eG := sG2 _ _ (sG _ _ (keep b o nb nD ex))
              have nu : b ≠ u1 := ne_of_none eG hu1
              have eE := bo7 _ _ nb (bo6 _ _ nb (bG3 _ _ nu (kS _ _ eG)))
              exact (upd_ne (ne_of_none eE hlz)).trans eE
    · rintro σ H' ⟨c, zs, v2, v3, v4, v5, v6, v7, v8, v9, v10, v11, v12, rfl, s1, _⟩
      walk_at "go"
      intro H2 s2
      walk_at "go"
      exact q _
end
end Paw

set_option maxRecDepth 100000
set_option maxHeartbeats 4000000
namespace Paw
open PySem PySem.Spec PyProof.Rows L2
abbrev bmOf (CH : Addr) : List Value := [.ref CH, .type "ValueError", .type "Exception", .type "BaseException", .type "object"]
section
variable {K : PySem.W.Frag} {mg : Str → Option Value} {h : Heap} {C CH : Addr} {nm q : Str} {N : Addr} {bs : List Value} {sn : List Str} {sub : List Value} {ab : Bool} {col : Option Bool} {dd : Option Addr} {m0 m1 m2 m3 m5 : Option Value}
/-- a class of errors, by what the written part says -/
theorem exv_mk (xL : K.lookup C = some (excClassObj nm q C N bs (bmOf CH) true sn sub ab col dd m0 m1 m2 m3 m5 "ValueError.__new__"))
    (sa : PySem.W.findIn K (.ref C) "__setattr__" = some (some (.builtin "object.__setattr__"))) (ga : PySem.W.findIn K (.ref C) "__getattribute__" = some (some (.builtin "BaseException.__getattribute__"))) (gg : PySem.W.findIn K (.ref C) "__getattr__" = some none)
    (kC : PySem.W.keepIn K (.ref C) = true) (tC : PySem.W.typeIn K (.ref C) = some (.type "type")) (ca : PySem.W.findIn K (.ref C) "__class__" = some (some (.builtin "object.__class__")))
    (cg : PySem.W.specialIn K (.builtin "object.__class__") "__get__" = some (some (.builtin "getset_descriptor.__get__"))) (ct : PySem.W.takesIn K (.builtin "object.__class__") = some true) : ExV K C := by
  have cl : PySem.W.clsIn K C = some { name := nm, bases := bs, mro := .ref C :: bmOf CH, ns := N, qualname := q, hasDict := true, slotNames := sn, subclasses := sub, abstract := ab, collection := col, hasDel := false } := by
    unfold PySem.W.clsIn
    rw [xL] <;> rfl
  have ob : PySem.W.mroIn K C (.type "object") = some true := by
    unfold PySem.W.mroIn
    rw [cl] <;> rfl
  have ex : PySem.W.subIn K (.ref C) (.type "BaseException") = some true := by
    show PySem.W.mroIn K C (.type "BaseException") = some true
    unfold PySem.W.mroIn
    rw [cl] <;> rfl
  have hd : PySem.W.hasDictIn K C = true := by
    unfold PySem.W.hasDictIn
    rw [cl] <;> rfl
  exact ⟨⟨⟨nm, q, N, bs, bmOf CH, sn, sub, ab, col, dd, m0, m1, m2, m3, m5, xL, by rfl⟩, sa, ex, tC, kC⟩, ga, gg, hd, ca, cg, ct, ob⟩
end
/-- except B and an error of the class C -/
theorem exm_is {K : PySem.W.Frag} {C B : Addr} {r : Bool} (ex : PySem.W.subIn K (.ref B) (.type "BaseException") = some true) (ic : PySem.W.isClsIn K B = true) (tC : PySem.W.typeIn K (.ref B) = some (.type "type")) (sc : PySem.W.subIn K (.ref C) (.ref B) = some r) : PySem.W.exmOne K (.ref C) (.ref B) = some r := by
  have ic' : (PySem.W.clsIn K B).isSome = true := ic
  unfold PySem.W.exmOne
  rw [ex, if_pos (by rfl)]
  show (if ((PySem.W.clsIn K B).isSome && PySem.W.typeIn K (.ref B) == some (.type "type")) = true then PySem.W.subIn K (.ref C) (.ref B) else none) = some r
  rw [ic', tC, if_pos (by rfl)]
  exact sc
theorem exm_three {K : PySem.W.Frag} {C A1 A2 A3 : Value} {a b c : Bool} (h1 : PySem.W.exmOne K C A1 = some a) (h2 : PySem.W.exmOne K C A2 = some b) (h3 : PySem.W.exmOne K C A3 = some c) : PySem.W.exmAny K C [A1, A2, A3] = some (a || (b || (c || false))) := by
  unfold PySem.W.exmAny
  rw [h1]
  unfold PySem.W.exmAny
  rw [h2]
  unfold PySem.W.exmAny
  rw [h3]
  rfl
theorem exm_self {K : PySem.W.Frag} {C : Addr} (ex : PySem.W.subIn K (.ref C) (.type "BaseException") = some true) (ic : PySem.W.isClsIn K C = true) (tC : PySem.W.typeIn K (.ref C) = some (.type "type")) (sc : PySem.W.subIn K (.ref C) (.ref C) = some true) : PySem.W.exmOne K (.ref C) (.ref C) = some true := by
  have ic' : (PySem.W.clsIn K C).isSome = true := ic
  unfold PySem.W.exmOne
  rw [ex, if_pos (by rfl)]
  show (if ((PySem.W.clsIn K C).isSome && PySem.W.typeIn K (.ref C) == some (.type "type")) = true then PySem.W.subIn K (.ref C) (.ref C) else none) = some true
  rw [ic', tC, if_pos (by rfl)]
  exact sc
theorem fd_binds1 {K : PySem.W.Frag} {f : Addr} {fd : FuncData} (F : FunD K "fraction" "fraction" (defArgs sFraction) (defBody sFraction) (defScope sFraction) [.int 1] [] f fd) : ∃ ds, Vals [V.int 1] ds ∧ Binds K fd ["top", "bottom"] ds :=
  F.binds1 (ps := ["top", "bottom"]) 1 0 (by simp) (by rfl) fun T kV doc pm an cdv ct us its h1 h2 => match us, its, h1, h2 with | [_], [_], _, _ => ⟨_, rfl, rfl⟩
theorem fd_binds0 {K : PySem.W.Frag} {f : Addr} {fd : FuncData} (F : FunD K "fraction" "fraction" (defArgs sFraction) (defBody sFraction) (defScope sFraction) [.int 1] [] f fd) : Binds K fd ["top", "bottom"] [] := by
  obtain ⟨ds, h1, h2⟩ := F.binds1 (ps := ["top", "bottom"]) 2 1 (by simp) (by rfl) fun T kV doc pm an cdv ct us its h1 h2 => match us, its, h1, h2 with | [_, _], [_], _, _ => ⟨_, rfl, rfl⟩
  cases h1
  exact h2
end Paw

set_option maxRecDepth 100000
set_option maxHeartbeats 4000000
namespace Paw
open PySem PySem.Spec PyProof.Rows L2
theorem all_mk {l : PySem.W.OpenLaw} {wd : World} {K : PySem.W.Frag} {h : Heap} {mg : Str → Option Value} {fa : Addr} (X : K.In h) (G : h.Ns mainGlobals mg) (hfa : mg "law" = some (.ref fa))
    {CH : Addr}
    {CF : Addr}
    {NF : Addr} {nmF qF : Str} {bsF : List Value} {snF : List Str} {sbF : List Value} {abF : Bool} {coF : Option Bool} {ddF : Option Addr} {maF mbF mcF mdF meF : Option Value}
    {fF : Addr} {odF anF : Option Addr} {slF : Array (Option Value)} {ocF kVF dcF pmF cdF ctF : Value}
    {CX : Addr}
    {NX : Addr} {nmX qX : Str} {bsX : List Value} {snX : List Str} {sbX : List Value} {abX : Bool} {coX : Option Bool} {ddX : Option Addr} {maX mbX mcX mdX meX : Option Value}
    {fX : Addr} {odX anX : Option Addr} {slX : Array (Option Value)} {ocX kVX dcX pmX cdX ctX : Value}
    {g0 : Addr} {Od0 An0 : Option Addr} {Sl0 : Array (Option Value)} {Oc0 KV0 Dc0 Pm0 Cd0 Ct0 : Value}
    {g1 : Addr} {Od1 An1 : Option Addr} {Sl1 : Array (Option Value)} {Oc1 KV1 Dc1 Pm1 Cd1 Ct1 : Value}
    {g2 : Addr} {Od2 An2 : Option Addr} {Sl2 : Array (Option Value)} {Oc2 KV2 Dc2 Pm2 Cd2 Ct2 : Value}
    {g3 : Addr} {Od3 An3 : Option Addr} {Sl3 : Array (Option Value)} {Oc3 KV3 Dc3 Pm3 Cd3 Ct3 : Value}
    {g4 : Addr} {Od4 An4 : Option Addr} {Sl4 : Array (Option Value)} {Oc4 KV4 Dc4 Pm4 Cd4 Ct4 : Value}
    {g5 : Addr} {Od5 An5 : Option Addr} {Sl5 : Array (Option Value)} {Oc5 KV5 Dc5 Pm5 Cd5 Ct5 : Value}
    {g6 : Addr} {Od6 An6 : Option Addr} {Sl6 : Array (Option Value)} {Oc6 KV6 Dc6 Pm6 Cd6 Ct6 : Value}
    {g7 : Addr} {Od7 An7 : Option Addr} {Sl7 : Array (Option Value)} {Oc7 KV7 Dc7 Pm7 Cd7 Ct7 : Value}
    {g8 : Addr} {Od8 An8 : Option Addr} {Sl8 : Array (Option Value)} {Oc8 KV8 Dc8 Pm8 Cd8 Ct8 : Value}
    {g9 : Addr} {Od9 An9 : Option Addr} {Sl9 : Array (Option Value)} {Oc9 KV9 Dc9 Pm9 Cd9 Ct9 : Value}
    {g10 : Addr} {Od10 An10 : Option Addr} {Sl10 : Array (Option Value)} {Oc10 KV10 Dc10 Pm10 Cd10 Ct10 : Value}
    {g11 : Addr} {Od11 An11 : Option Addr} {Sl11 : Array (Option Value)} {Oc11 KV11 Dc11 Pm11 Cd11 Ct11 : Value}
    {g12 : Addr} {Od12 An12 : Option Addr} {Sl12 : Array (Option Value)} {Oc12 KV12 Dc12 Pm12 Cd12 Ct12 : Value}
    {g13 : Addr} {Od13 An13 : Option Addr} {Sl13 : Array (Option Value)} {Oc13 KV13 Dc13 Pm13 Cd13 Ct13 : Value}
    {g14 : Addr} {Od14 An14 : Option Addr} {Sl14 : Array (Option Value)} {Oc14 KV14 Dc14 Pm14 Cd14 Ct14 : Value}
    {g15 : Addr} {Od15 An15 : Option Addr} {Sl15 : Array (Option Value)} {Oc15 KV15 Dc15 Pm15 Cd15 Ct15 : Value}
    {g16 : Addr} {Od16 An16 : Option Addr} {Sl16 : Array (Option Value)} {Oc16 KV16 Dc16 Pm16 Cd16 Ct16 : Value}
    {g17 : Addr} {Od17 An17 : Option Addr} {Sl17 : Array (Option Value)} {Oc17 KV17 Dc17 Pm17 Cd17 Ct17 : Value}
    {g18 : Addr} {Od18 An18 : Option Addr} {Sl18 : Array (Option Value)} {Oc18 KV18 Dc18 Pm18 Cd18 Ct18 : Value}
    {g19 : Addr} {Od19 An19 : Option Addr} {Sl19 : Array (Option Value)} {Oc19 KV19 Dc19 Pm19 Cd19 Ct19 : Value}
    {g20 : Addr} {Od20 An20 : Option Addr} {Sl20 : Array (Option Value)} {Oc20 KV20 Dc20 Pm20 Cd20 Ct20 : Value}
    {g21 : Addr} {Od21 An21 : Option Addr} {Sl21 : Array (Option Value)} {Oc21 KV21 Dc21 Pm21 Cd21 Ct21 : Value}
    {g22 : Addr} {Od22 An22 : Option Addr} {Sl22 : Array (Option Value)} {Oc22 KV22 Dc22 Pm22 Cd22 Ct22 : Value}
    {g23 : Addr} {Od23 An23 : Option Addr} {Sl23 : Array (Option Value)} {Oc23 KV23 Dc23 Pm23 Cd23 Ct23 : Value}
    {g24 TD24 : Addr} {Od24 An24 dT24 : Option Addr} {Sl24 sT24 : Array (Option Value)} {Oc24 KV24 Dc24 Pm24 Cd24 Ct24 cT24 : Value} {nT24 : Nat} {tk24_0 : Tok}
    (cg : PySem.W.specialIn K (.builtin "object.__class__") "__get__" = some (some (.builtin "getset_descriptor.__get__")))
    (ct : PySem.W.takesIn K (.builtin "object.__class__") = some true)
    (nM : PySem.W.nsIn K cStatics "sys.int_max_str_digits" = some none)
    (aH : PySem.W.nsIn K mainGlobals "HallError" = some (some (.ref CH)))
    (iH : PySem.W.isClsIn K CH = true)
    (tH : PySem.W.typeIn K (.ref CH) = some (.type "type"))
    (bH : PySem.W.subIn K (.ref CH) (.type "BaseException") = some true)
    (aCF : PySem.W.nsIn K mainGlobals "NoFraction" = some (some (.ref CF)))
    (xF : K.lookup CF = some (excClassObj nmF qF CF NF bsF (bmOf CH) true snF sbF abF coF ddF maF mbF mcF mdF meF "ValueError.__new__"))
    (saF : PySem.W.findIn K (.ref CF) "__setattr__" = some (some (.builtin "object.__setattr__")))
    (gaF : PySem.W.findIn K (.ref CF) "__getattribute__" = some (some (.builtin "BaseException.__getattribute__")))
    (ggF : PySem.W.findIn K (.ref CF) "__getattr__" = some none)
    (kCF : PySem.W.keepIn K (.ref CF) = true)
    (tCF : PySem.W.typeIn K (.ref CF) = some (.type "type"))
    (caF : PySem.W.findIn K (.ref CF) "__class__" = some (some (.builtin "object.__class__")))
    (noF : PySem.W.findIn K (.ref CF) "value" = some none)
    (iF : PySem.W.findIn K (.ref CF) "__init__" = some (some (.ref fF)))
    (tF : PySem.W.typeIn K (.ref fF) = some (.type "function"))
    (lF : K.lookup fF = some ⟨ocF, odF, .func (PySem.W.fnOf "__init__" "NoFraction.__init__" (defArgs sE_NoFraction) (defBody sE_NoFraction) (defScope sE_NoFraction) .none kVF dcF pmF anF cdF ctF), slF⟩)
    (cF : PySem.W.codeIn K cdF "NoFraction.__init__" = true)
    (kF : PySem.W.keepIn K (.ref fF) = true)
    (sHF : PySem.W.subIn K (.ref CF) (.ref CH) = some true)
    (aCX : PySem.W.nsIn K mainGlobals "NoText" = some (some (.ref CX)))
    (xX : K.lookup CX = some (excClassObj nmX qX CX NX bsX (bmOf CH) true snX sbX abX coX ddX maX mbX mcX mdX meX "ValueError.__new__"))
    (saX : PySem.W.findIn K (.ref CX) "__setattr__" = some (some (.builtin "object.__setattr__")))
    (gaX : PySem.W.findIn K (.ref CX) "__getattribute__" = some (some (.builtin "BaseException.__getattribute__")))
    (ggX : PySem.W.findIn K (.ref CX) "__getattr__" = some none)
    (kCX : PySem.W.keepIn K (.ref CX) = true)
    (tCX : PySem.W.typeIn K (.ref CX) = some (.type "type"))
    (caX : PySem.W.findIn K (.ref CX) "__class__" = some (some (.builtin "object.__class__")))
    (noX : PySem.W.findIn K (.ref CX) "value" = some none)
    (iX : PySem.W.findIn K (.ref CX) "__init__" = some (some (.ref fX)))
    (tX : PySem.W.typeIn K (.ref fX) = some (.type "function"))
    (lX : K.lookup fX = some ⟨ocX, odX, .func (PySem.W.fnOf "__init__" "NoText.__init__" (defArgs sE_NoText) (defBody sE_NoText) (defScope sE_NoText) .none kVX dcX pmX anX cdX ctX), slX⟩)
    (cX : PySem.W.codeIn K cdX "NoText.__init__" = true)
    (kX : PySem.W.keepIn K (.ref fX) = true)
    (sHX : PySem.W.subIn K (.ref CX) (.ref CH) = some true)
    (nnF : PySem.W.kitOne K (.type "NoneType") (.ref CF) = some false)
    (nnX : PySem.W.kitOne K (.type "NoneType") (.ref CX) = some false)
    (kFF : PySem.W.kitOne K (.ref CF) (.ref CF) = some true)
    (kXF : PySem.W.kitOne K (.ref CX) (.ref CF) = some false)
    (kXX : PySem.W.kitOne K (.ref CX) (.ref CX) = some true)
    (wgcd : PySem.W.nsIn K mainGlobals "gcd" = some (some (.builtin "math.gcd")))
    (zint : PySem.W.nsIn K mainGlobals "int" = some none)
    (zlen : PySem.W.nsIn K mainGlobals "len" = some none)
    (zabs : PySem.W.nsIn K mainGlobals "abs" = some none)
    (zrepr : PySem.W.nsIn K mainGlobals "repr" = some none)
    (zisinstance : PySem.W.nsIn K mainGlobals "isinstance" = some none)
    (zrange : PySem.W.nsIn K mainGlobals "range" = some none)
    (zbool : PySem.W.nsIn K mainGlobals "bool" = some none)
    (ztuple : PySem.W.nsIn K mainGlobals "tuple" = some none)
    (zstr : PySem.W.nsIn K mainGlobals "str" = some none)
    (zlist : PySem.W.nsIn K mainGlobals "list" = some none)
    (A0 : PySem.W.nsIn K mainGlobals "is_int" = some (some (.ref g0)))
    (L0 : K.lookup g0 = some ⟨Oc0, Od0, .func (PySem.W.fnOf "is_int" "is_int" (defArgs sIsInt) (defBody sIsInt) (defScope sIsInt) .none KV0 Dc0 Pm0 An0 Cd0 Ct0), Sl0⟩)
    (D0 : PySem.W.codeIn K Cd0 "is_int" = true)
    (E0 : PySem.W.keepIn K (.ref g0) = true)
    (A1 : PySem.W.nsIn K mainGlobals "is_fraction" = some (some (.ref g1)))
    (L1 : K.lookup g1 = some ⟨Oc1, Od1, .func (PySem.W.fnOf "is_fraction" "is_fraction" (defArgs sIsFrac) (defBody sIsFrac) (defScope sIsFrac) .none KV1 Dc1 Pm1 An1 Cd1 Ct1), Sl1⟩)
    (D1 : PySem.W.codeIn K Cd1 "is_fraction" = true)
    (E1 : PySem.W.keepIn K (.ref g1) = true)
    (A2 : PySem.W.nsIn K mainGlobals "_lowest" = some (some (.ref g2)))
    (L2 : K.lookup g2 = some ⟨Oc2, Od2, .func (PySem.W.fnOf "_lowest" "_lowest" (defArgs sLowest) (defBody sLowest) (defScope sLowest) .none KV2 Dc2 Pm2 An2 Cd2 Ct2), Sl2⟩)
    (D2 : PySem.W.codeIn K Cd2 "_lowest" = true)
    (E2 : PySem.W.keepIn K (.ref g2) = true)
    (A3 : PySem.W.nsIn K mainGlobals "_check_fractions" = some (some (.ref g3)))
    (L3 : K.lookup g3 = some ⟨Oc3, Od3, .func (PySem.W.fnOf "_check_fractions" "_check_fractions" (defArgs sCheck) (defBody sCheck) (defScope sCheck) .none KV3 Dc3 Pm3 An3 Cd3 Ct3), Sl3⟩)
    (D3 : PySem.W.codeIn K Cd3 "_check_fractions" = true)
    (E3 : PySem.W.keepIn K (.ref g3) = true)
    (A4 : PySem.W.nsIn K mainGlobals "product" = some (some (.ref g4)))
    (L4 : K.lookup g4 = some ⟨Oc4, Od4, .func (PySem.W.fnOf "product" "product" (defArgs sProduct) (defBody sProduct) (defScope sProduct) .none KV4 Dc4 Pm4 An4 Cd4 Ct4), Sl4⟩)
    (D4 : PySem.W.codeIn K Cd4 "product" = true)
    (E4 : PySem.W.keepIn K (.ref g4) = true)
    (A5 : PySem.W.nsIn K mainGlobals "fraction_text" = some (some (.ref g5)))
    (L5 : K.lookup g5 = some ⟨Oc5, Od5, .func (PySem.W.fnOf "fraction_text" "fraction_text" (defArgs sFText) (defBody sFText) (defScope sFText) .none KV5 Dc5 Pm5 An5 Cd5 Ct5), Sl5⟩)
    (D5 : PySem.W.codeIn K Cd5 "fraction_text" = true)
    (E5 : PySem.W.keepIn K (.ref g5) = true)
    (A6 : PySem.W.nsIn K mainGlobals "read_fraction" = some (some (.ref g6)))
    (L6 : K.lookup g6 = some ⟨Oc6, Od6, .func (PySem.W.fnOf "read_fraction" "read_fraction" (defArgs sRFrac) (defBody sRFrac) (defScope sRFrac) .none KV6 Dc6 Pm6 An6 Cd6 Ct6), Sl6⟩)
    (D6 : PySem.W.codeIn K Cd6 "read_fraction" = true)
    (E6 : PySem.W.keepIn K (.ref g6) = true)
    (A7 : PySem.W.nsIn K mainGlobals "_fraction_or_none" = some (some (.ref g7)))
    (L7 : K.lookup g7 = some ⟨Oc7, Od7, .func (PySem.W.fnOf "_fraction_or_none" "_fraction_or_none" (defArgs sFON) (defBody sFON) (defScope sFON) .none KV7 Dc7 Pm7 An7 Cd7 Ct7), Sl7⟩)
    (D7 : PySem.W.codeIn K Cd7 "_fraction_or_none" = true)
    (E7 : PySem.W.keepIn K (.ref g7) = true)
    (A8 : PySem.W.nsIn K mainGlobals "_law_mixed" = some (some (.ref g8)))
    (L8 : K.lookup g8 = some ⟨Oc8, Od8, .func (PySem.W.fnOf "_law_mixed" "_law_mixed" (defArgs sMixed) (defBody sMixed) (defScope sMixed) .none KV8 Dc8 Pm8 An8 Cd8 Ct8), Sl8⟩)
    (D8 : PySem.W.codeIn K Cd8 "_law_mixed" = true)
    (E8 : PySem.W.keepIn K (.ref g8) = true)
    (A9 : PySem.W.nsIn K mainGlobals "_law_pile" = some (some (.ref g9)))
    (L9 : K.lookup g9 = some ⟨Oc9, Od9, .func (PySem.W.fnOf "_law_pile" "_law_pile" (defArgs sPile) (defBody sPile) (defScope sPile) .none KV9 Dc9 Pm9 An9 Cd9 Ct9), Sl9⟩)
    (D9 : PySem.W.codeIn K Cd9 "_law_pile" = true)
    (E9 : PySem.W.keepIn K (.ref g9) = true)
    (A10 : PySem.W.nsIn K mainGlobals "_law_take" = some (some (.ref g10)))
    (L10 : K.lookup g10 = some ⟨Oc10, Od10, .func (PySem.W.fnOf "_law_take" "_law_take" (defArgs sTake) (defBody sTake) (defScope sTake) .none KV10 Dc10 Pm10 An10 Cd10 Ct10), Sl10⟩)
    (D10 : PySem.W.codeIn K Cd10 "_law_take" = true)
    (E10 : PySem.W.keepIn K (.ref g10) = true)
    (A11 : PySem.W.nsIn K mainGlobals "_law_divisor" = some (some (.ref g11)))
    (L11 : K.lookup g11 = some ⟨Oc11, Od11, .func (PySem.W.fnOf "_law_divisor" "_law_divisor" (defArgs sDivisor) (defBody sDivisor) (defScope sDivisor) .none KV11 Dc11 Pm11 An11 Cd11 Ct11), Sl11⟩)
    (D11 : PySem.W.codeIn K Cd11 "_law_divisor" = true)
    (E11 : PySem.W.keepIn K (.ref g11) = true)
    (A12 : PySem.W.nsIn K mainGlobals "_law_lowest" = some (some (.ref g12)))
    (L12 : K.lookup g12 = some ⟨Oc12, Od12, .func (PySem.W.fnOf "_law_lowest" "_law_lowest" (defArgs sLLow) (defBody sLLow) (defScope sLLow) .none KV12 Dc12 Pm12 An12 Cd12 Ct12), Sl12⟩)
    (D12 : PySem.W.codeIn K Cd12 "_law_lowest" = true)
    (E12 : PySem.W.keepIn K (.ref g12) = true)
    (A13 : PySem.W.nsIn K mainGlobals "_law_fraction" = some (some (.ref g13)))
    (L13 : K.lookup g13 = some ⟨Oc13, Od13, .func (PySem.W.fnOf "_law_fraction" "_law_fraction" (defArgs sLFra) (defBody sLFra) (defScope sLFra) .none KV13 Dc13 Pm13 An13 Cd13 Ct13), Sl13⟩)
    (D13 : PySem.W.codeIn K Cd13 "_law_fraction" = true)
    (E13 : PySem.W.keepIn K (.ref g13) = true)
    (A14 : PySem.W.nsIn K mainGlobals "_law_alike" = some (some (.ref g14)))
    (L14 : K.lookup g14 = some ⟨Oc14, Od14, .func (PySem.W.fnOf "_law_alike" "_law_alike" (defArgs sAlike) (defBody sAlike) (defScope sAlike) .none KV14 Dc14 Pm14 An14 Cd14 Ct14), Sl14⟩)
    (D14 : PySem.W.codeIn K Cd14 "_law_alike" = true)
    (E14 : PySem.W.keepIn K (.ref g14) = true)
    (A15 : PySem.W.nsIn K mainGlobals "_law_word_in" = some (some (.ref g15)))
    (L15 : K.lookup g15 = some ⟨Oc15, Od15, .func (PySem.W.fnOf "_law_word_in" "_law_word_in" (defArgs sWordIn) (defBody sWordIn) (defScope sWordIn) .none KV15 Dc15 Pm15 An15 Cd15 Ct15), Sl15⟩)
    (D15 : PySem.W.codeIn K Cd15 "_law_word_in" = true)
    (E15 : PySem.W.keepIn K (.ref g15) = true)
    (A16 : PySem.W.nsIn K mainGlobals "_law_written" = some (some (.ref g16)))
    (L16 : K.lookup g16 = some ⟨Oc16, Od16, .func (PySem.W.fnOf "_law_written" "_law_written" (defArgs sFWritten) (defBody sFWritten) (defScope sFWritten) .none KV16 Dc16 Pm16 An16 Cd16 Ct16), Sl16⟩)
    (D16 : PySem.W.codeIn K Cd16 "_law_written" = true)
    (E16 : PySem.W.keepIn K (.ref g16) = true)
    (A17 : PySem.W.nsIn K mainGlobals "_law_is_fraction_text" = some (some (.ref g17)))
    (L17 : K.lookup g17 = some ⟨Oc17, Od17, .func (PySem.W.fnOf "_law_is_fraction_text" "_law_is_fraction_text" (defArgs sIsFT) (defBody sIsFT) (defScope sIsFT) .none KV17 Dc17 Pm17 An17 Cd17 Ct17), Sl17⟩)
    (D17 : PySem.W.codeIn K Cd17 "_law_is_fraction_text" = true)
    (E17 : PySem.W.keepIn K (.ref g17) = true)
    (A18 : PySem.W.nsIn K mainGlobals "_law_fraction_in" = some (some (.ref g18)))
    (L18 : K.lookup g18 = some ⟨Oc18, Od18, .func (PySem.W.fnOf "_law_fraction_in" "_law_fraction_in" (defArgs sFrIn) (defBody sFrIn) (defScope sFrIn) .none KV18 Dc18 Pm18 An18 Cd18 Ct18), Sl18⟩)
    (D18 : PySem.W.codeIn K Cd18 "_law_fraction_in" = true)
    (E18 : PySem.W.keepIn K (.ref g18) = true)
    (A19 : PySem.W.nsIn K mainGlobals "_law_said" = some (some (.ref g19)))
    (L19 : K.lookup g19 = some ⟨Oc19, Od19, .func (PySem.W.fnOf "_law_said" "_law_said" (defArgs sSaid) (defBody sSaid) (defScope sSaid) .none KV19 Dc19 Pm19 An19 Cd19 Ct19), Sl19⟩)
    (D19 : PySem.W.codeIn K Cd19 "_law_said" = true)
    (E19 : PySem.W.keepIn K (.ref g19) = true)
    (A20 : PySem.W.nsIn K mainGlobals "_law_odd_right" = some (some (.ref g20)))
    (L20 : K.lookup g20 = some ⟨Oc20, Od20, .func (PySem.W.fnOf "_law_odd_right" "_law_odd_right" (defArgs sOddR) (defBody sOddR) (defScope sOddR) .none KV20 Dc20 Pm20 An20 Cd20 Ct20), Sl20⟩)
    (D20 : PySem.W.codeIn K Cd20 "_law_odd_right" = true)
    (E20 : PySem.W.keepIn K (.ref g20) = true)
    (A21 : PySem.W.nsIn K mainGlobals "_law_great_right" = some (some (.ref g21)))
    (L21 : K.lookup g21 = some ⟨Oc21, Od21, .func (PySem.W.fnOf "_law_great_right" "_law_great_right" (defArgs sGreatFR) (defBody sGreatFR) (defScope sGreatFR) .none KV21 Dc21 Pm21 An21 Cd21 Ct21), Sl21⟩)
    (D21 : PySem.W.codeIn K Cd21 "_law_great_right" = true)
    (E21 : PySem.W.keepIn K (.ref g21) = true)
    (A22 : PySem.W.nsIn K mainGlobals "_law_longest_right" = some (some (.ref g22)))
    (L22 : K.lookup g22 = some ⟨Oc22, Od22, .func (PySem.W.fnOf "_law_longest_right" "_law_longest_right" (defArgs sLongest) (defBody sLongest) (defScope sLongest) .none KV22 Dc22 Pm22 An22 Cd22 Ct22), Sl22⟩)
    (D22 : PySem.W.codeIn K Cd22 "_law_longest_right" = true)
    (E22 : PySem.W.keepIn K (.ref g22) = true)
    (A23 : PySem.W.nsIn K mainGlobals "law" = some (some (.ref g23)))
    (L23 : K.lookup g23 = some ⟨Oc23, Od23, .func (PySem.W.fnOf "law" "law" (defArgs sLaw) (defBody sLaw) (defScope sLaw) .none KV23 Dc23 Pm23 An23 Cd23 Ct23), Sl23⟩)
    (D23 : PySem.W.codeIn K Cd23 "law" = true)
    (E23 : PySem.W.keepIn K (.ref g23) = true)
    (A24 : PySem.W.nsIn K mainGlobals "fraction" = some (some (.ref g24)))
    (L24 : K.lookup g24 = some ⟨Oc24, Od24, .func (PySem.W.fnOf "fraction" "fraction" (defArgs sFraction) (defBody sFraction) (defScope sFraction) (.ref TD24) KV24 Dc24 Pm24 An24 Cd24 Ct24), Sl24⟩)
    (D24 : PySem.W.codeIn K Cd24 "fraction" = true)
    (E24 : PySem.W.keepIn K (.ref g24) = true)
    (LT24 : K.lookup TD24 = some ⟨cT24, dT24, .seq #[.int 1 tk24_0] nT24, sT24⟩) :
    ∃ fd : FuncData, (∀ (s : Shared) (v : Value), BindsTo s fd ⟨[v], []⟩ [("script", v)]) ∧ ∀ base : Heap, K.In base → base.Ns mainGlobals mg → FnG l.prog wd K mg base CX0 8 fa fd ["script"] (spLaw K) := by
  have e := hfa.symm.trans (PySem.W.mg_of X G A23)
  cases e
  have ygcd := PySem.W.mg_of X G wgcd
  have yint := PySem.W.mg_none_of X G zint
  have ylen := PySem.W.mg_none_of X G zlen
  have yabs := PySem.W.mg_none_of X G zabs
  have yrepr := PySem.W.mg_none_of X G zrepr
  have yisinstance := PySem.W.mg_none_of X G zisinstance
  have yrange := PySem.W.mg_none_of X G zrange
  have ybool := PySem.W.mg_none_of X G zbool
  have ytuple := PySem.W.mg_none_of X G ztuple
  have ystr := PySem.W.mg_none_of X G zstr
  have ylist := PySem.W.mg_none_of X G zlist
  have J0 := fun_mk (st := sIsInt) L0 D0 E0
  have b0 := J0.binds (ps := ["value"]) fun _ _ _ _ _ _ us hl => match us, hl with | [_], _ => rfl
  have m0 := PySem.W.mg_of X G A0
  have J1 := fun_mk (st := sIsFrac) L1 D1 E1
  have b1 := J1.binds (ps := ["value"]) fun _ _ _ _ _ _ us hl => match us, hl with | [_], _ => rfl
  have m1 := PySem.W.mg_of X G A1
  have J2 := fun_mk (st := sLowest) L2 D2 E2
  have b2 := J2.binds (ps := ["top", "bottom"]) fun _ _ _ _ _ _ us hl => match us, hl with | [_, _], _ => rfl
  have m2 := PySem.W.mg_of X G A2
  have J3 := fun_mk (st := sCheck) L3 D3 E3
  have b3 := J3.binds (ps := ["values"]) fun _ _ _ _ _ _ us hl => match us, hl with | [_], _ => rfl
  have m3 := PySem.W.mg_of X G A3
  have J4 := fun_mk (st := sProduct) L4 D4 E4
  have m4 := PySem.W.mg_of X G A4
  have J5 := fun_mk (st := sFText) L5 D5 E5
  have b5 := J5.binds (ps := ["value"]) fun _ _ _ _ _ _ us hl => match us, hl with | [_], _ => rfl
  have m5 := PySem.W.mg_of X G A5
  have J6 := fun_mk (st := sRFrac) L6 D6 E6
  have b6 := J6.binds (ps := ["text"]) fun _ _ _ _ _ _ us hl => match us, hl with | [_], _ => rfl
  have m6 := PySem.W.mg_of X G A6
  have J7 := fun_mk (st := sFON) L7 D7 E7
  have b7 := J7.binds (ps := ["text"]) fun _ _ _ _ _ _ us hl => match us, hl with | [_], _ => rfl
  have m7 := PySem.W.mg_of X G A7
  have J8 := fun_mk (st := sMixed) L8 D8 E8
  have b8 := J8.binds (ps := ["cell", "k"]) fun _ _ _ _ _ _ us hl => match us, hl with | [_, _], _ => rfl
  have m8 := PySem.W.mg_of X G A8
  have J9 := fun_mk (st := sPile) L9 D9 E9
  have b9 := J9.binds (ps := ["script", "k"]) fun _ _ _ _ _ _ us hl => match us, hl with | [_, _], _ => rfl
  have m9 := PySem.W.mg_of X G A9
  have J10 := fun_mk (st := sTake) L10 D10 E10
  have b10 := J10.binds (ps := ["pile", "many"]) fun _ _ _ _ _ _ us hl => match us, hl with | [_, _], _ => rfl
  have m10 := PySem.W.mg_of X G A10
  have J11 := fun_mk (st := sDivisor) L11 D11 E11
  have b11 := J11.binds (ps := ["one", "other"]) fun _ _ _ _ _ _ us hl => match us, hl with | [_, _], _ => rfl
  have m11 := PySem.W.mg_of X G A11
  have J12 := fun_mk (st := sLLow) L12 D12 E12
  have b12 := J12.binds (ps := ["top", "bottom"]) fun _ _ _ _ _ _ us hl => match us, hl with | [_, _], _ => rfl
  have m12 := PySem.W.mg_of X G A12
  have J13 := fun_mk (st := sLFra) L13 D13 E13
  have b13 := J13.binds (ps := ["pile"]) fun _ _ _ _ _ _ us hl => match us, hl with | [_], _ => rfl
  have m13 := PySem.W.mg_of X G A13
  have J14 := fun_mk (st := sAlike) L14 D14 E14
  have b14 := J14.binds (ps := ["one", "other"]) fun _ _ _ _ _ _ us hl => match us, hl with | [_, _], _ => rfl
  have m14 := PySem.W.mg_of X G A14
  have J15 := fun_mk (st := sWordIn) L15 D15 E15
  have b15 := J15.binds (ps := ["word"]) fun _ _ _ _ _ _ us hl => match us, hl with | [_], _ => rfl
  have m15 := PySem.W.mg_of X G A15
  have J16 := fun_mk (st := sFWritten) L16 D16 E16
  have b16 := J16.binds (ps := ["one"]) fun _ _ _ _ _ _ us hl => match us, hl with | [_], _ => rfl
  have m16 := PySem.W.mg_of X G A16
  have J17 := fun_mk (st := sIsFT) L17 D17 E17
  have b17 := J17.binds (ps := ["text"]) fun _ _ _ _ _ _ us hl => match us, hl with | [_], _ => rfl
  have m17 := PySem.W.mg_of X G A17
  have J18 := fun_mk (st := sFrIn) L18 D18 E18
  have b18 := J18.binds (ps := ["text"]) fun _ _ _ _ _ _ us hl => match us, hl with | [_], _ => rfl
  have m18 := PySem.W.mg_of X G A18
  have J19 := fun_mk (st := sSaid) L19 D19 E19
  have b19 := J19.binds (ps := ["which", "thing"]) fun _ _ _ _ _ _ us hl => match us, hl with | [_, _], _ => rfl
  have m19 := PySem.W.mg_of X G A19
  have J20 := fun_mk (st := sOddR) L20 D20 E20
  have b20 := J20.binds (ps := ["pile"]) fun _ _ _ _ _ _ us hl => match us, hl with | [_], _ => rfl
  have m20 := PySem.W.mg_of X G A20
  have J21 := fun_mk (st := sGreatFR) L21 D21 E21
  have b21 := J21.binds (ps := ["pile"]) fun _ _ _ _ _ _ us hl => match us, hl with | [_], _ => rfl
  have m21 := PySem.W.mg_of X G A21
  have J22 := fun_mk (st := sLongest) L22 D22 E22
  have b22 := J22.binds (ps := []) fun _ _ _ _ _ _ us hl => match us, hl with | [], _ => rfl
  have m22 := PySem.W.mg_of X G A22
  have J23 := fun_mk (st := sLaw) L23 D23 E23
  have b23 := J23.binds (ps := ["script"]) fun _ _ _ _ _ _ us hl => match us, hl with | [_], _ => rfl
  have m23 := PySem.W.mg_of X G A23
  have R24 : FunD K "fraction" "fraction" (defArgs sFraction) (defBody sFraction) (defScope sFraction) [.int 1] [] g24 _ := ⟨⟨Oc24, Od24, .ref TD24, KV24, Dc24, Pm24, An24, Cd24, Ct24, Sl24, rfl, L24, D24, .inr ⟨by simp, TD24, _, [.int 1 tk24_0], nT24, rfl, LT24, rfl, (.cons ⟨tk24_0, rfl⟩ .nil)⟩, .inl rfl⟩, E24⟩
  have m24 := PySem.W.mg_of X G A24
  refine ⟨PySem.W.fnOf "law" "law" (defArgs sLaw) (defBody sLaw) (defScope sLaw) .none KV23 Dc23 Pm23 An23 Cd23 Ct23, fun s v => .of_eq rfl, fun base _ _ => ?_⟩
  have vF : ExV K CF := exv_mk xF saF gaF ggF kCF tCF caF cg ct
  have FF := fun_mk (st := sE_NoFraction) lF cF kF
  have SIF : FnScope ["self", "value"] ["self", "value"] (defScope sE_NoFraction) := ⟨rfl, rfl, rfl, by decide +kernel, rfl, by decide +kernel, by decide +kernel⟩
  have GJF : FnOk l.prog wd K mg base CX0 1 fF _ ["self", "value"] (spI1 K "value") := ok_init1 FF SIF rfl rfl ⟨_, _, _, _, rfl⟩ (by decide +kernel) (by decide +kernel)
  have bIF := FF.binds (ps := ["self", "value"]) fun _ _ _ _ _ _ us hl => match us, hl with | [_, _], _ => rfl
  have TF : Kv l.prog wd K mg base "NoFraction" "value" CF := ⟨PySem.W.mg_of X G aCF, vF, noF, ⟨fF, _, iF, tF, GJF, bIF⟩⟩
  have xmF : PySem.W.exmOne K (.ref CF) (.ref CH) = some true := exm_is bH iH tH sHF
  have vX : ExV K CX := exv_mk xX saX gaX ggX kCX tCX caX cg ct
  have FX := fun_mk (st := sE_NoText) lX cX kX
  have SIX : FnScope ["self", "value"] ["self", "value"] (defScope sE_NoText) := ⟨rfl, rfl, rfl, by decide +kernel, rfl, by decide +kernel, by decide +kernel⟩
  have GJX : FnOk l.prog wd K mg base CX0 1 fX _ ["self", "value"] (spI1 K "value") := ok_init1 FX SIX rfl rfl ⟨_, _, _, _, rfl⟩ (by decide +kernel) (by decide +kernel)
  have bIX := FX.binds (ps := ["self", "value"]) fun _ _ _ _ _ _ us hl => match us, hl with | [_, _], _ => rfl
  have TX : Kv l.prog wd K mg base "NoText" "value" CX := ⟨PySem.W.mg_of X G aCX, vX, noX, ⟨fX, _, iX, tX, GJX, bIX⟩⟩
  have xmX : PySem.W.exmOne K (.ref CX) (.ref CH) = some true := exm_is bH iH tH sHX
  have G8 := ok_mixed (P := l.prog) (w := wd) (base := base) J8 yint
  have Q8 := Df.of (x := "_law_mixed") G8 m8 E8 b8
  have G9 := ok_pile (P := l.prog) (w := wd) (base := base) J9 yint ylen yabs
  have Q9 := Df.of (x := "_law_pile") G9 m9 E9 b9
  have G10 := ok_take (P := l.prog) (w := wd) (base := base) J10 yint G8 m8 E8 b8
  have Q10 := Df.of (x := "_law_take") G10 m10 E10 b10
  have G0 := ok_is_int (P := l.prog) (w := wd) (base := base) J0 yisinstance yint ybool
  have Q0 := Df.of (x := "is_int") G0 m0 E0 b0
  have G1 := ok_is_fraction (P := l.prog) (w := wd) (base := base) J1 yisinstance ytuple ylen ygcd G0 m0 E0 b0
  have Q1 := Df.of (x := "is_fraction") G1 m1 E1 b1
  have G2 := ok_lowest (P := l.prog) (w := wd) (base := base) J2 ygcd
  have Q2 := Df.of (x := "_lowest") G2 m2 E2 b2
  have G24 := ok_fraction (P := l.prog) (w := wd) (base := base) R24 TF G0 m0 E0 b0 G2 m2 E2 b2
  have b24 := fd_binds0 R24
  obtain ⟨dsf, vsf, bf1⟩ := fd_binds1 R24
  have Q24 := Df.of (x := "fraction") G24 m24 E24 b24
  have Qf1 : Df l.prog wd K mg base (_root_.L2.CX l.prog wd) 3 "fraction" (fun vs H Q E => spFraction K CF (vs ++ [.int 1]) H Q E) := Df.ofR (fnR_of G24 bf1 vsf) m24 E24
  have QA0 := Qf1.imp fr1_of
  have QA1 := Q24.imp fr2_of
  have G3 := ok_check (P := l.prog) (w := wd) (base := base) J3 TF G1 m1 E1 b1
  have Q3 := Df.of (x := "_check_fractions") G3 m3 E3 b3
  have G4 := ok_productG (P := l.prog) (w := wd) (base := base) J4 G3 m3 E3 b3 G2 m2 E2 b2
  have Q4 := Df.ofR (x := "product") G4 m4 E4
  have QA2 := Q4.imp prod2_of
  have G5 := ok_ftext (P := l.prog) (w := wd) (base := base) J5 TF Q1 ystr nM
  have Q5 := Df.of (x := "fraction_text") G5 m5 E5 b5
  have G7 := ok_fon (P := l.prog) (w := wd) (base := base) J7 Q24 Q5 yint nM
  have Q7 := Df.of (x := "_fraction_or_none") G7 m7 E7 b7
  have G6 := ok_rfrac (P := l.prog) (w := wd) (base := base) J6 TX Q7 ystr yisinstance
  have Q6 := Df.of (x := "read_fraction") G6 m6 E6 b6
  have G11 := ok_divisor (P := l.prog) (w := wd) (base := base) J11 yint yabs
  have Q11 := Df.of (x := "_law_divisor") G11 m11 E11 b11
  have G12 := ok_llow (P := l.prog) (w := wd) (base := base) J12 G11 m11 E11 b11
  have Q12 := Df.of (x := "_law_lowest") G12 m12 E12 b12
  have G13 := ok_fra (P := l.prog) (w := wd) (base := base) (mg := mg) J13 Q10 Q12
  have Q13 := Df.of (x := "_law_fraction") G13 m13 E13 b13
  have G14 := ok_alike (P := l.prog) (w := wd) (base := base) J14 yrepr
  have Q14 := DfG.of (x := "_law_alike") G14 m14 E14 b14
  have G15 := ok_wordin (P := l.prog) (w := wd) (base := base) (mg := mg) J15
  have Q15 := Df.of (x := "_law_word_in") G15 m15 E15 b15
  have G16 := ok_fwritten (P := l.prog) (w := wd) (base := base) J16 yint ystr nM
  have Q16 := Df.of (x := "_law_written") G16 m16 E16 b16
  have G17 := ok_isft (P := l.prog) (w := wd) (base := base) J17 yint ylen nM Q15 Q11
  have Q17 := Df.of (x := "_law_is_fraction_text") G17 m17 E17 b17
  have G18 := ok_frin (P := l.prog) (w := wd) (base := base) J18 yint nM
  have Q18 := Df.of (x := "_law_fraction_in") G18 m18 E18 b18
  have G19 := ok_said (P := l.prog) (w := wd) (base := base) J19 TF TX ⟨nnF, nnX, kFF, kXF, kXX⟩ (PySem.W.mg_of X G aH) xmF xmX Q5 Q6 yisinstance
  have Q19 := Df.of (x := "_law_said") G19 m19 E19 b19
  have QA3 := Q19.imp (sp' := spSaid0 K) fun _ _ _ _ h => .inl h
  have QA4 := Q19.imp (sp' := spSaid1 K) fun _ _ _ _ h => .inr h
  have G21 := ok_greatfr (P := l.prog) (w := wd) (base := base) (mg := mg) J21 Q10 QA0 QA1 QA2 Q16 QA3 QA4
  have Q21 := Df.of (x := "_law_great_right") G21 m21 E21 b21
  have G22 := ok_longest (P := l.prog) (w := wd) (base := base) J22 yrange QA2 QA3 QA4
  have Q22 := Df.of (x := "_law_longest_right") G22 m22 E22 b22
  have G20 := ok_oddr (P := l.prog) (w := wd) (base := base) J20 Q10 QA3 Q14 yisinstance ylist
  have Q20 := DfG.of (x := "_law_odd_right") G20 m20 E20 b20
  exact ok_law (P := l.prog) (wd := wd) (base := base) J23 Q9 Q10 Q13 Q16 QA3 QA4 Q14 Q17 Q18 Q20 Q21 Q22 yrange ylen ylist yisinstance
end Paw

open PySem PySem.W PyProof.Rows in
set_option maxRecDepth 100000 in
set_option maxHeartbeats 0 in
theorem PySem.Challenge.cw_pawlhall_k90_fractions_as_texts_holds : PySem.Challenge.rw_pawlhall_k90_fractions_as_texts.Holds := by
  refine Paw.topHead ?_
  k_fill
  refine Paw.walkG (l := PySem.Challenge.rw_pawlhall_k90_fractions_as_texts) (n := 63) (k := 8) (CX := fun _ => L2.CX0) (sp := Paw.spLaw) (x := "script") rfl (by decide) rfl ⟨rfl, by decide, by decide⟩ (by decide +kernel) (fun w h Y => PySem.W.kIn_of Y) ?F (fun K H a ns _ _ hS => ⟨a, ns, rfl, hS, fun _ => rfl⟩) (fun _ _ _ _ _ z => z)
  case F =>
    intro w mg fa h KX G hmg
    refine' Paw.all_mk KX G hmg ?cg ?ct ?nM ?aH ?iH ?tH ?bH ?aCF ?xF ?saF ?gaF ?ggF ?kCF ?tCF ?caF ?noF ?iF ?tF ?lF ?cF ?kF ?sHF ?aCX ?xX ?saX ?gaX ?ggX ?kCX ?tCX ?caX ?noX ?iX ?tX ?lX ?cX ?kX ?sHX ?nnF ?nnX ?kFF ?kXF ?kXX ?wgcd ?zint ?zlen ?zabs ?zrepr ?zisinstance ?zrange ?zbool ?ztuple ?zstr ?zlist ?A0 ?L0 ?D0 ?E0 ?A1 ?L1 ?D1 ?E1 ?A2 ?L2 ?D2 ?E2 ?A3 ?L3 ?D3 ?E3 ?A4 ?L4 ?D4 ?E4 ?A5 ?L5 ?D5 ?E5 ?A6 ?L6 ?D6 ?E6 ?A7 ?L7 ?D7 ?E7 ?A8 ?L8 ?D8 ?E8 ?A9 ?L9 ?D9 ?E9 ?A10 ?L10 ?D10 ?E10 ?A11 ?L11 ?D11 ?E11 ?A12 ?L12 ?D12 ?E12 ?A13 ?L13 ?D13 ?E13 ?A14 ?L14 ?D14 ?E14 ?A15 ?L15 ?D15 ?E15 ?A16 ?L16 ?D16 ?E16 ?A17 ?L17 ?D17 ?E17 ?A18 ?L18 ?D18 ?E18 ?A19 ?L19 ?D19 ?E19 ?A20 ?L20 ?D20 ?E20 ?A21 ?L21 ?D21 ?E21 ?A22 ?L22 ?D22 ?E22 ?A23 ?L23 ?D23 ?E23 ?A24 ?L24 ?D24 ?E24 ?LT24
    (case cg => k_is)
    (case ct => k_is)
    (case nM => k_is)
    (case aH => k_is)
    (case iH => k_is)
    (case tH => k_is)
    (case bH => k_is)
    (case aCF => k_is)
    (case xF => k_is)
    (case saF => k_is)
    (case gaF => k_is)
    (case ggF => k_is)
    (case kCF => k_is)
    (case tCF => k_is)
    (case caF => k_is)
    (case noF => k_is)
    (case iF => k_is)
    (case tF => k_is)
    (case lF => k_is)
    (case cF => k_is)
    (case kF => k_is)
    (case sHF => k_is)
    (case aCX => k_is)
    (case xX => k_is)
    (case saX => k_is)
    (case gaX => k_is)
    (case ggX => k_is)
    (case kCX => k_is)
    (case tCX => k_is)
    (case caX => k_is)
    (case noX => k_is)
    (case iX => k_is)
    (case tX => k_is)
    (case lX => k_is)
    (case cX => k_is)
    (case kX => k_is)
    (case sHX => k_is)
    (case nnF => kit_is)
    (case nnX => kit_is)
    (case kFF => kit_is)
    (case kXF => kit_is)
    (case kXX => kit_is)
    (case wgcd => k_is)
    (case zint => k_is)
    (case zlen => k_is)
    (case zabs => k_is)
    (case zrepr => k_is)
    (case zisinstance => k_is)
    (case zrange => k_is)
    (case zbool => k_is)
    (case ztuple => k_is)
    (case zstr => k_is)
    (case zlist => k_is)
    (case A0 => k_is)
    (case L0 => k_is)
    (case D0 => k_is)
    (case E0 => k_is)
    (case A1 => k_is)
    (case L1 => k_is)
    (case D1 => k_is)
    (case E1 => k_is)
    (case A2 => k_is)
    (case L2 => k_is)
    (case D2 => k_is)
    (case E2 => k_is)
    (case A3 => k_is)
    (case L3 => k_is)
    (case D3 => k_is)
    (case E3 => k_is)
    (case A4 => k_is)
    (case L4 => k_is)
    (case D4 => k_is)
    (case E4 => k_is)
    (case A5 => k_is)
    (case L5 => k_is)
    (case D5 => k_is)
    (case E5 => k_is)
    (case A6 => k_is)
    (case L6 => k_is)
    (case D6 => k_is)
    (case E6 => k_is)
    (case A7 => k_is)
    (case L7 => k_is)
    (case D7 => k_is)
    (case E7 => k_is)
    (case A8 => k_is)
    (case L8 => k_is)
    (case D8 => k_is)
    (case E8 => k_is)
    (case A9 => k_is)
    (case L9 => k_is)
    (case D9 => k_is)
    (case E9 => k_is)
    (case A10 => k_is)
    (case L10 => k_is)
    (case D10 => k_is)
    (case E10 => k_is)
    (case A11 => k_is)
    (case L11 => k_is)
    (case D11 => k_is)
    (case E11 => k_is)
    (case A12 => k_is)
    (case L12 => k_is)
    (case D12 => k_is)
    (case E12 => k_is)
    (case A13 => k_is)
    (case L13 => k_is)
    (case D13 => k_is)
    (case E13 => k_is)
    (case A14 => k_is)
    (case L14 => k_is)
    (case D14 => k_is)
    (case E14 => k_is)
    (case A15 => k_is)
    (case L15 => k_is)
    (case D15 => k_is)
    (case E15 => k_is)
    (case A16 => k_is)
    (case L16 => k_is)
    (case D16 => k_is)
    (case E16 => k_is)
    (case A17 => k_is)
    (case L17 => k_is)
    (case D17 => k_is)
    (case E17 => k_is)
    (case A18 => k_is)
    (case L18 => k_is)
    (case D18 => k_is)
    (case E18 => k_is)
    (case A19 => k_is)
    (case L19 => k_is)
    (case D19 => k_is)
    (case E19 => k_is)
    (case A20 => k_is)
    (case L20 => k_is)
    (case D20 => k_is)
    (case E20 => k_is)
    (case A21 => k_is)
    (case L21 => k_is)
    (case D21 => k_is)
    (case E21 => k_is)
    (case A22 => k_is)
    (case L22 => k_is)
    (case D22 => k_is)
    (case E22 => k_is)
    (case A23 => k_is)
    (case L23 => k_is)
    (case D23 => k_is)
    (case E23 => k_is)
    (case A24 => k_is)
    (case L24 => k_is)
    (case D24 => k_is)
    (case E24 => k_is)
    (case LT24 => k_is)

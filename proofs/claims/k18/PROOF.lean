import PyProof.Rows.All
import Wide.All
import OpenK.AllK
import Wide.FinOn
import PyProof.ReprRoads
import PyProof.StrBlock2
import HandS.ForMost
import HandS.Walk
import HandS.IsInst
import HandS.Defaults
import HandS.Flow
import HandS.Wide
import HandS.HeadEnd
import HandS.ForExc
import HandS.ExcInit
import HandS.ExcIs
import HandS.ExcField
import HandS.NestedK
import KE.KExcSuper
import HandS.Head0
import HandS.Head1
import HandS.Head2
import HandS.HeadHook1
import HandS.HeadHook2
import HandS.Star
import HandS.CallSlots
import HandS.MakeKw
import KE.DataFind
import PyProof.NeKinds
import HandS.ExcValue
import KE.KDictZip
import PyProof.ListNew
import HandS.GenList
import HandS.DictComp
import HandS.WideBits
import HandS.Style
import PySem.Challenge.RW_lastheld_k18_errors_made
set_option Elab.async false
set_option linter.all false
set_option maxRecDepth 100000
set_option maxHeartbeats 2000000
namespace Lw
open PySem PySem.Spec PyProof.Rows L2

/-! ## data with empty dicts, and repr -/
mutual
inductive Dq (K : PySem.W.Frag) (H : Hp) : V → PyData → Prop
  | non : Dq K H .non .none
  | bl (b : Bool) : Dq K H (.bl b) (.bool b)
  | int (i : Int) : Dq K H (.int i) (.int i)
  | str (x : Str) : Dq K H (.str x) (.str x)
  | lst {a : Addr} {xs : List V} {ds : List PyData} (h : SqL K H a xs) (g : DqAll K H xs ds) : Dq K H (.ref a) (.list ds)
  | tup {a : Addr} {xs : List V} {ds : List PyData} (h : SqT K H a xs) (g : DqAll K H xs ds) : Dq K H (.ref a) (.tuple ds)
  | dic {a : Addr} (h : H a = some (.dK [])) : Dq K H (.ref a) (.dict [])
inductive DqAll (K : PySem.W.Frag) (H : Hp) : List V → List PyData → Prop
  | nil : DqAll K H [] []
  | cons {v : V} {vs : List V} {d : PyData} {ds : List PyData} (h : Dq K H v d) (g : DqAll K H vs ds) : DqAll K H (v :: vs) (d :: ds)
end

theorem same_t {K : PySem.W.Frag} {H H' : Hp} {a : Addr} {xs : List V} (e : Same H H') (h : SqT K H a xs) : SqT K H' a xs := by
  rcases h with (h | ⟨o, h⟩) | h
  · exact .inl (.inl (e _ _ h))
  · exact .inl (.inr ⟨o, e _ _ h⟩)
  · exact .inr h
theorem same_upd {H : Hp} {p : Addr} {o : HO} (h : H p = none) : Same H (upd H p o) := fun b x e => by
  rw [upd_ne (ne_of_none e h)]
  exact e
mutual
theorem Dq.same {K : PySem.W.Frag} {H H' : Hp} (e : Same H H') : ∀ {v : V} {d : PyData}, Dq K H v d → Dq K H' v d
  | _, _, .non => .non
  | _, _, .bl b => .bl b
  | _, _, .int i => .int i
  | _, _, .str x => .str x
  | _, _, .lst h g => .lst (e.seq h) (DqAll.same e g)
  | _, _, .tup h g => .tup (same_t e h) (DqAll.same e g)
  | _, _, .dic h => .dic (e _ _ h)
theorem DqAll.same {K : PySem.W.Frag} {H H' : Hp} (e : Same H H') : ∀ {v : List V} {d : List PyData}, DqAll K H v d → DqAll K H' v d
  | _, _, .nil => .nil
  | _, _, .cons h g => .cons (Dq.same e h) (DqAll.same e g)
end

/-- the table of modules stands, and is a dict -/
def SysOk (h : Heap) : Prop := ∃ o es ep, h.get? sysModules = some o ∧ o.data = Data.dict es ep

section
variable {X : Cx} {pins : List (Addr × Obj)} {σ : L2.St} {H : Hp} {s : Shared}
theorem no_sys (B : SysOk X.base) (I : Inv X pins σ H s) {a : Addr} {o : Obj} {vs : Array Value} {n : Nat} (h : s.heap.get? a = some o) (hd : o.data = .seq vs n) : sysModules ≠ a := by
  obtain ⟨o', es, ep, e1, e2⟩ := B
  intro z
  have e3 := I.bk _ _ e1
  rw [z, h] at e3
  cases e3
  rw [hd] at e2
  cases e2
theorem dict0 (I : Inv X pins σ H s) {a : Addr} (h : H a = some (.dK [])) : ∃ o es ep, s.heap.get? a = some o ∧ o.cls = .type "dict" ∧ o.data = Data.dict es ep ∧ es.toList = [] ∧ sysModules ≠ a := by
  obtain ⟨_, h1, vs, kv, o, es, ep, e1, e2, e3, _, e5, _⟩ := (show ObjOk X.prog X.w H s.heap a (.dK []) from I.hok a _ h)
  have e6 : vs = [] := by
    have := Paired.length kv
    cases vs with
    | nil => rfl
    | cons _ _ => simp at this
  subst e6
  refine ⟨o, es, ep, e1, e2.1, e3, ?_, fun z => ?_⟩
  · generalize es.toList = l at e5
    cases e5
    rfl
  · rw [← z] at h1
    exact absurd h1 (by decide)
mutual
theorem Dq.reads (B : SysOk X.base) (I : Inv X pins σ H s) : ∀ (d : PyData) (v : V) (u : Value), Dq X.K H v d → RelV v u → ∃ as, Reads s.heap u d as ∧ sysModules ∉ as
  | .none, _, _, h, r => by
    cases h
    cases r
    exact ⟨_, Reads.none, by simp⟩
  | .bool b, _, _, h, r => by
    cases h
    cases r
    exact ⟨_, Reads.bool b, by simp⟩
  | .int i, _, _, h, r => by
    cases h
    obtain ⟨t, rfl⟩ := r
    exact ⟨_, Reads.int i t, by simp⟩
  | .str x, _, _, h, r => by
    cases h
    obtain ⟨t, rfl⟩ := r
    exact ⟨_, Reads.str x t, by simp⟩
  | .list ds, _, _, h, r => by
    cases h with
    | lst hs ha =>
      cases r
      obtain ⟨its, rv, ⟨o, n, ho, hc, _, hd⟩, _⟩ := I.list hs
      obtain ⟨as, hr, hn⟩ := DqAll.reads B I ds _ its ha rv
      refine ⟨_, Reads.list ho hc hd hr, fun z => ?_⟩
      rcases List.mem_cons.mp z with z | z
      · exact no_sys B I ho hd z
      · exact hn z
  | .tuple ds, _, _, h, r => by
    cases h with
    | tup hs ha =>
      cases r
      obtain ⟨its, rv, ⟨o, ho, hc, n, hd⟩, _⟩ := I.tuple hs
      obtain ⟨as, hr, hn⟩ := DqAll.reads B I ds _ its ha rv
      exact ⟨_, Reads.tuple ho hc hd hr, hn⟩
  | .dict kvs, _, _, h, r => by
    cases h with
    | dic h =>
      cases r
      obtain ⟨o, es, ep, e1, e2, e3, e4, e5⟩ := dict0 I h
      refine ⟨_, Reads.dict (as := []) (bs := []) e1 e2 e3 ?_ ?_, fun z => ?_⟩
      · rw [e4]
        exact .nil
      · rw [e4]
        exact .nil
      · rcases List.mem_cons.mp z with z | z
        · exact e5 z
        · simp at z
theorem DqAll.reads (B : SysOk X.base) (I : Inv X pins σ H s) : ∀ (ds : List PyData) (vs : List V) (us : List Value), DqAll X.K H vs ds → Vals vs us → ∃ as, ReadsAll s.heap us ds as ∧ sysModules ∉ as
  | [], _, _, h, r => by
    cases h
    cases r
    exact ⟨_, ReadsAll.nil, by simp⟩
  | d :: ds, _, _, h, r => by
    cases h with
    | cons h1 h2 =>
      cases r with
      | cons r1 r2 =>
        obtain ⟨as, q1, n1⟩ := Dq.reads B I d _ _ h1 r1
        obtain ⟨bs, q2, n2⟩ := DqAll.reads B I ds _ _ h2 r2
        refine ⟨_, ReadsAll.cons q1 q2, fun z => ?_⟩
        rcases List.mem_append.mp z with z | z
        · exact n1 z
        · exact n2 z
end
end

/-- repr(x) of data: its text -/
def rRepr (K : PySem.W.Frag) : List V → Hp → VK → Prop := fun xs H Q =>
  ∃ (v : V) (d : PyData), xs = [v] ∧ Dq K H v d ∧ d.showable = true ∧ d.shown.length ≤ sizeLine ∧ d.depth ≤ 60 ∧ Q (.str d.shown) H
section
variable {X : Cx}
theorem call_repr (B : SysOk X.base) (hg : X.A.guards = some []) (hu : X.A.units + 64 < cLine) : CallR X (.builtin "repr") (rRepr X.K) := by
  intro pins s σ H xs us Q I r h
  obtain ⟨v, d, rfl, hd, hs, hz, hp, q⟩ := h
  obtain ⟨u, rfl, ru⟩ := vals1 r
  obtain ⟨as, r1, ns⟩ := Dq.reads B I d v u hd ru
  cases r1 with
  | none => exact PySem.P.repr_of_none ⟨.str _, H, I.tok _, ⟨_, rfl⟩, q⟩
  | bool b => exact PySem.P.repr_of_bool ⟨.str _, H, I.tok _, ⟨_, rfl⟩, q⟩
  | int i t => exact PySem.P.repr_of_int (by simpa [PyData.showable] using hs) ⟨.str _, H, I.tok _, ⟨_, rfl⟩, q⟩
  | str x t => exact PySem.P.repr_of_str ⟨.str _, H, I.tok _, ⟨_, rfl⟩, q⟩ hz
  | list h1 h2 h3 h4 => exact repr_of_reads' (Reads.list h1 h2 h3 h4) hs (fun _ => ns) hg (by omega) (fun _ _ e => e) (fun h' u tk hk => ⟨.str _, H, I.kept hk, ⟨_, rfl⟩, q⟩) hz
  | tuple h1 h2 h3 h4 => exact repr_of_reads' (Reads.tuple h1 h2 h3 h4) hs (fun _ => ns) hg (by omega) (fun _ _ e => e) (fun h' u tk hk => ⟨.str _, H, I.kept hk, ⟨_, rfl⟩, q⟩) hz
  | dict h1 h2 h3 h4 h5 => exact repr_of_reads' (Reads.dict h1 h2 h3 h4 h5) hs (fun _ => ns) hg (by omega) (fun _ _ e => e) (fun h' u tk hk => ⟨.str _, H, I.kept hk, ⟨_, rfl⟩, q⟩) hz
/-- text * int -/
def rMulS : R2 := fun x y H Q => ∃ (z : Str) (n : Int), x = .str z ∧ y = .int n ∧ MulOk z n ∧ Q (.str (Txt.mul z n)) H
theorem op_mulS : OpR X (binaryOp .Mult) rMulS := by
  intro pins s σ H x y v u Q I rx ry h
  obtain ⟨z, n, rfl, rfl, ok, q⟩ := h
  obtain ⟨t, rfl⟩ := rx
  obtain ⟨t', rfl⟩ := ry
  exact PySem.SB.mul ok fun t k => ⟨.str _, H, I.tok _, ⟨_, rfl⟩, q⟩
end

/-! ## calls by keywords alone -/
section
variable {X : Cx} {CX : CXT} {k n : Nat} {f : Addr} {fd : FuncData} {ps ks : List Str} {sp : Sp} {E : XK} {x : Str} {p pos : Pos} {kws : List Keyword} {tk : TA} {g : List Value → List Value → List Value} {gV : List V → List V → List V}
theorem pe_callW (F : FnOk X.prog X.w X.K X.mg X.base CX k f fd ps sp) (hr : Room k X.A) (hg : Gl X x) (hm : X.mg x = some (.ref f)) (hk : PySem.W.keepIn X.K (.ref f) = true) (hb : KBn X.K fd ps 0 ks g gV)
    (hx : Passes CX X E) (hkw : PK X kws tk)
    (hall : (backToKw pos (keywordEach kws X.env)).all (fun q => q.1.isSome) = true := by rfl)
    (hks : (backToKw pos (keywordEach kws X.env)).filterMap (fun q => q.1) = ks := by rfl)
    (hdb : (x == ("__debug__" : Str)) = false := by decide)
    (hpl : ((backTo pos (starEach [] X.env)).any (fun q => q.1) || (backToKw pos (keywordEach kws X.env)).any (fun q => q.1.isNone)) = false := by rfl) :
    PE X (.Call (.Name x p) [] kws pos) (tCallN 0 ks.length sp gV E tNil tk) := by
  constructor
  intro pins s σ H Q I h
  refine wpAny_Call_Name_kw (ld_glob I hg hm ?_ hdb)
  refine PySem.W.callWith_KW0 (h₀ := X.base) I.ok.mod.kin hk hall ?_ hpl
  refine thn (hkw.run pos pins s σ H _ I h) fun ws s2 hq => ?_
  obtain ⟨zs, H2, I2, rz, l1, l2, q2⟩ := hq
  refine ⟨I2.kIn, ?_⟩
  rw [hks]
  exact run_fnN (us := []) (vs := []) F hr hb hx I2 .nil rz rfl l2 q2
/-- one keyword for the one parameter -/
theorem kb1 {K : PySem.W.Frag} {y qual : Str} {params : Arguments} {body : List Stmt} {scope : Scope} {kw : List (Str × V)} {f : Addr} {fd : FuncData} {a : Str} (F : FunD K y qual params body scope [] kw f fd)
    (h : ∀ (kV doc pm : Value) (an : Option Addr) (cdv ct v : Value), bindArgs (PySem.W.fnOf y qual params body scope .none kV doc pm an cdv ct) ⟨[], [(a, v)]⟩ = pure [(a, v)]) :
    KBn K fd [a] 0 [a] (fun _ ws => ws) (fun _ zs => zs) := by
  obtain ⟨oc, od, dV, kV, doc, pm, an, cdv, ct, osl, rfl, lk, hcd, hD, hK⟩ := F.ex
  rcases hD with ⟨_, rfl⟩ | ⟨e, _⟩
  · refine ⟨fun s us ws X l1 l2 => ?_, fun _ r => r⟩
    match us, ws, l1, l2 with
    | [], [v], _, _ => exact .of_eq (h kV doc pm an cdv ct v)
  · exact absurd rfl e
end

/-! ## defs that are called where no repr is under way -/
structure FnG (P : Program) (w : World) (K : PySem.W.Frag) (mg : Str → Option Value) (base : Heap) (CX : CXT) (k : Nat) (f : Addr) (fd : FuncData) (ps : List Str) (sp : Sp) : Prop where
  len : ∀ vs H Q E, sp vs H Q E → vs.length = ps.length
  run : ∀ (A : Around) (outer : List Env) (s : Shared) (H : Hp) (args : Args) (us : List Value) (vs : List V) (Q : VK) (E : XK),
    A.guards = some [] → Room k A → Env0 P w K mg base A outer s H → BindsTo s fd args (ps.zip us) → Vals vs us → sp vs H Q E →
      codeAny (model P w) A (.call (.ref f) args) (CR CX outer P w H s Q E) s
section
variable {P : Program} {w : World} {K : PySem.W.Frag} {mg : Str → Option Value} {base : Heap} {x qual : Str} {params : Arguments} {body : List Stmt} {scope : Scope} {dvs : List V} {kws : List (Str × V)} {f : Addr} {fd : FuncData}
theorem fn_g {CX : CXT} {N ps : List Str} {k : Nat} {sp : Sp} (F : FunD K x qual params body scope dvs kws f fd) (S : FnScope N ps scope) (len : ∀ vs H Q E, sp vs H Q E → vs.length = ps.length)
    (hbody : ∀ (cdv : Value) (A : Around) (outer : List Env) (s : Shared) (H : Hp) (vs : List V) (Q : VK) (E : XK),
      A.guards = some [] → Room k (A.deeper (envOfC qual scope s.heap.objs.size f cdv)) → sp vs H Q E →
      ∃ t, PSs (cxOf CX P w K mg base N qual scope f cdv A outer s H E) body t ∧ t { nx := fun _ H' => Q .non H', rt := Q } (start N vs) H) :
    FnG P w K mg base CX (k + 1) f fd ps sp := by
  obtain ⟨oc, od, dV, kV, doc, pm, an, cdv, ct, osl, rfl, lk, hcd, _, _⟩ := F.ex
  refine ⟨len, fun A outer s H args us vs Q E hg hr e0 hb r hsp => ?_⟩
  have hk := fun b o e => (e0.bs b o e).1
  have KX : K.In s.heap := e0.mod.kin.keeps hk
  have lim : s.heap.NoLimit := e0.mod.nolimit.keeps hk
  have hkind : ∀ y ∈ ps.zip us, scope.names.lookup y.1 = some .local ∨ (scope.names.lookup y.1 = some .cell ∧ ((cellsFrom (s.heap.objs.size + 1) scope.names []).lookup y.1).isSome = true) := by
    rintro ⟨n, v⟩ hy
    exact (S.par n (List.of_mem_zip hy).1).imp (fun q => q) fun q => ⟨q, PySem.W.cellsFrom_some _ _ _ (.inl q)⟩
  refine codeAny_call_function hr.depth (KX _ _ lk) rfl S.co S.gen rfl (PySem.W.codeRec_of KX hcd) (hb _ _ _ _ ?_)
  refine wpAny_newFunctionEnv_cells S.kind hkind fun env he s1 y => ?_
  subst he
  obtain ⟨t, ht, hq⟩ := hbody cdv A outer s H vs Q E hg (hr.deeper _) hsp
  have I := inv_start (CX := CX) (E := E) S hr.hd e0 (len _ _ _ _ hsp) r y
  refine ⟨lim.keeps y.toInCall.keep, codeAny_func (wpAny_mono (ht.run [] s1 (start N vs) H _ I hq) (fun fl s' hs => ?_) fun e s' hs => hs)⟩
  cases fl with
  | ret u =>
    obtain ⟨v, σ', H', J, rv, q⟩ := hs
    exact ⟨v, H', J.os, J.bare, J.base, J.hok, rv, q⟩
  | next =>
    obtain ⟨σ', H', J, q⟩ := hs
    exact ⟨V.non, H', J.os, J.bare, J.base, J.hok, rfl, q⟩
  | brk => exact hs.elim fun _ z => z.elim fun _ z => z.2.elim
  | cont => exact hs.elim fun _ z => z.elim fun _ z => z.2.elim
end
section
variable {X : Cx} {CX : CXT} {k : Nat} {f : Addr} {fd : FuncData} {ps : List Str} {sp : Sp} {dvs : List V} {ds : List Value} {E : XK} {x : Str} {p pos : Pos} {e : Expr} {es : List Expr} {t : TA}
theorem run_g {pins : List (Addr × Obj)} {σ : L2.St} {H : Hp} {s : Shared} {Q : VK} {us : List Value} {vs : List V} (F : FnG X.prog X.w X.K X.mg X.base CX k f fd ps sp) (hgd : X.A.guards = some []) (hr : Room k X.A) (hb : Binds X.K fd ps ds) (hd : Vals dvs ds) (hx : Passes CX X E)
    (I : Inv X pins σ H s) (r : Vals vs us) (h : sp (vs ++ dvs) H Q E) : wpAny (model X.prog X.w) X.A (call (.ref f) us) (EP X pins σ Q) X.xe s := by
  have r2 : Vals (vs ++ dvs) (us ++ ds) := r.append hd
  have hl : (us ++ ds).length = ps.length := r2.length.symm.trans (F.len _ _ _ _ h)
  refine wpAny_call (codeAny_mono (F.run X.A X.stack s H ⟨us, []⟩ _ _ Q E hgd hr I.env0 (hb s us I.kIn hl) r2 h) fun r s' hq => ?_)
  match r, hq with
  | .error e, hq => exact hx pins σ H s e s' I hq
  | .ok (.ret u), hq => exact I.after hq
  | .ok .next, hq => exact False.elim hq
  | .ok .brk, hq => exact False.elim hq
  | .ok .cont, hq => exact False.elim hq
theorem pe_callg (F : FnG X.prog X.w X.K X.mg X.base CX k f fd ps sp) (hgd : X.A.guards = some []) (hr : Room k X.A) (hg : Gl X x) (hm : X.mg x = some (.ref f)) (hk : PySem.W.keepIn X.K (.ref f) = true) (hb : Binds X.K fd ps ds) (hd : Vals dvs ds) (hx : Passes CX X E)
    (ha : PA X (e :: es) t) (hdb : (x == ("__debug__" : Str)) = false := by decide) (he : starEach (e :: es) X.env = (false, eval e X.env) :: starEach es X.env := by rfl)
    (hpl : (backTo pos (starEach es X.env)).any (fun q => q.1) = false := by rfl) : PE X (.Call (.Name x p) (e :: es) [] pos) (tCall sp dvs E t) := by
  constructor
  intro pins s σ H Q I h
  refine wpAny_Call_Name_kw (ld_glob I hg hm (PySem.W.callWith_K (h₀ := X.base) I.ok.mod.kin hk ?_ he hpl) hdb)
  exact thn (ha.run pos pins s σ H _ I h) fun us s1 ⟨vs, H1, I1, r, q⟩ => ⟨I1.kIn, run_g F hgd hr hb hd hx I1 r q⟩
theorem pe_callg0 (F : FnG X.prog X.w X.K X.mg X.base CX k f fd ps sp) (hgd : X.A.guards = some []) (hr : Room k X.A) (hg : Gl X x) (hm : X.mg x = some (.ref f)) (hk : PySem.W.keepIn X.K (.ref f) = true) (hb : Binds X.K fd ps ds) (hd : Vals dvs ds) (hx : Passes CX X E)
    (hdb : (x == ("__debug__" : Str)) = false := by decide) : PE X (.Call (.Name x p) [] [] pos) (tCall sp dvs E tNil) := by
  constructor
  intro pins s σ H Q I h
  exact wpAny_Call_Name_kw (ld_glob I hg hm (PySem.W.callWith_K0 I.kIn hk (run_g (us := []) F hgd hr hb hd hx I .nil h)) hdb)
end

/-! ## the law's own call -/
theorem law_g {P : Program} {w : World} {K : PySem.W.Frag} {mg mb : Str → Option Value} {CX : CXT} {k : Nat} {fa a : Addr} {fd : FuncData} {x : Str} {sp : Sp} {s₁ : Shared} {vs : List Value} {ns : List Int}
    (KX : K.In s₁.heap) (hns : s₁.heap.Ns mainGlobals mg) (hb : s₁.heap.Ns builtinsNs mb) (hbb : ∀ x : Str, x ≠ "__name__" → mb x = bootBuiltins x) (hlim : s₁.heap.NoLimit) (hsy : SysOk s₁.heap) (hg : s₁.gens = #[])
    (ha : s₁.heap.get? a = some { cls := .type "list", data := .seq vs.toArray }) (hi : IntsAre vs ns) (hl : ns.length ≤ sizeLine) (hr : Room k callerA)
    (F : ∀ base : Heap, K.In base → base.Ns mainGlobals mg → SysOk base → FnG P w K mg base CX k fa fd [x] sp) (hbind : ∀ (s : Shared) (u : Value), BindsTo s fd ⟨[u], []⟩ [(x, u)])
    (hsp : ∀ H : Hp, Only H → SqL K H a (ns.map V.int) → sp [.ref a] H (fun v _ => v = .bl true) fun _ _ _ => False)
    (hCX : ∀ H e s', CX [] H s₁ (fun _ _ _ => False) e s' → False) :
    codeAny (model P w) callerA (.call (.ref fa) ⟨[.ref a], []⟩) (fun r s' => r = .ok (.ret (.bool true)) ∧ OldK s₁.heap s'.heap ∧ s'.os = s₁.os ∧ AllBare s'.gens) s₁ := by
  have rv := vals_ints hi
  have core : ∀ H : Hp, Only H → SqL K H a (ns.map V.int) → HOk P w H s₁.heap → (∀ b, H b ≠ none → b = a) → (H a ≠ none → K.lookup a = none) →
      codeAny (model P w) callerA (.call (.ref fa) ⟨[.ref a], []⟩) (fun r s' => r = .ok (.ret (.bool true)) ∧ OldK s₁.heap s'.heap ∧ s'.os = s₁.os ∧ AllBare s'.gens) s₁ := by
    intro H hO hS hok hA hK
    -- a dict is not the script: it is not tracked
    have noA : ∀ {b : Addr} {o : Obj} {es : Array DictEntry} {ep : Nat}, s₁.heap.get? b = some o → o.data = Data.dict es ep → H b = none := by
      intro b o es ep e d
      refine Classical.byContradiction fun z => ?_
      have e' := hA b z
      subst e'
      rw [ha] at e
      cases e
      cases d
    have nsK : ∀ {b : Addr} {m : Str → Option Value}, s₁.heap.Ns b m → (hidT s₁.heap H).Ns b m := by
      rintro b m ⟨o, es, ep, e, d, r⟩
      exact ⟨o, es, ep, hidT_get e (noA e d), d, r⟩
    have hKb : K.In (hidT s₁.heap H) := by
      intro b o e
      refine hidT_get (KX b o e) (Classical.byContradiction fun z => ?_)
      have e' := hA b z
      subst e'
      rw [hK z] at e
      cases e
    have hM : Mod K mg (hidT s₁.heap H) := by
      obtain ⟨mc, h1, h2⟩ := hlim
      exact ⟨hKb, nsK hns, ⟨mb, nsK hb, hbb⟩, ⟨mc, nsK h1, h2⟩⟩
    have hB : SysOk (hidT s₁.heap H) := by
      obtain ⟨o, es, ep, e1, e2⟩ := hsy
      exact ⟨o, es, ep, hidT_get e1 (noA e1 e2), e2⟩
    have e0 : Env0 P w K mg (hidT s₁.heap H) callerA [] s₁ H := ⟨rfl, hM, fun b o e => of_hidT e, Nat.le_of_eq (hidT_size _ _), trivial, fun b hb => absurd (show b ∈ ([] : List Addr) from hb) (by simp), hok, .of_eq hg⟩
    have run := (F _ hKb (nsK hns) hB).run callerA [] s₁ H ⟨[.ref a], []⟩ [.ref a] [.ref a] _ _ rfl hr e0 (hbind s₁ (.ref a)) (.cons rfl .nil) (hsp H hO hS)
    refine codeAny_mono run fun r s' h => ?_
    match r, h with
    | .error e, h => exact (hCX H e s' h).elim
    | .ok .next, h => exact False.elim h
    | .ok .brk, h => exact False.elim h
    | .ok .cont, h => exact False.elim h
    | .ok (.ret u), h =>
      obtain ⟨v, H', os, bare, un, hok', r', q⟩ := h
      cases (show v = .bl true from q)
      cases (show u = Value.bool true from r')
      refine ⟨rfl, OldK.of_keep fun b o e => ?_, os, bare⟩
      rcases hO b with z | ⟨ob, xs, z⟩
      · exact un.keep b o e z (by intro y; exact absurd (show b ∈ ([] : List Addr) from y) (by simp)) (by simp)
      · have e1 := (hok b _ z).1
        rw [e] at e1
        cases e1
        exact (hok' b _ (un.frzs b _ _ z)).1
  cases hk : K.lookup a with
  | some o =>
    have e := KX a o hk
    rw [ha] at e
    cases e
    refine core (fun _ => none) (fun _ => .inl rfl) (.inr ⟨_, vs.toArray, _, hk, rfl, rfl, rfl, ?_, ?_⟩) (fun b u z => nomatch z) (fun b z => absurd rfl z) fun z => absurd rfl z
    · rw [List.size_toArray, hi.length]
      exact hl
    · simpa using rv
  | none =>
    refine core (upd (fun _ => none) a (.frz { cls := .type "list", data := .seq vs.toArray } (.lst (ns.map V.int)))) (fun b => ?_) (.inl (.inr ⟨_, upd_same⟩)) (fun b u z => ?_) (fun b z => ?_) fun _ => hk
    · by_cases hb : b = a
      · exact .inr ⟨_, _, by rw [hb]; exact upd_same⟩
      · exact .inl (by rw [upd_ne hb])
    · by_cases hb : b = a
      · subst hb
        rw [upd_same] at z
        cases z
        exact ⟨ha, by rw [List.length_map]; exact hl, vs, _, rv, ha⟩
      · rw [upd_ne hb] at z
        cases z
    · exact Classical.byContradiction fun hb => z (by rw [upd_ne hb])

theorem walk_g {l : PySem.W.OpenLaw} {n k : Nat} {q : Program} {loose : List Str} {XP : (Str → Option Value) → Heap → Prop} {YP : World → Heap → Prop} {d : DefRec} {CX : CXT} {x : Str}
    (hn : l.most = some n) (hn2 : n ≤ sizeLine) (hdf : d.params.defaults = []) (hi : importsNone q = true) (hr : Room k callerA)
    (F : ∀ (w : World) (mg : Str → Option Value) (fa : Addr) (h : Heap), YP w h → h.Ns mainGlobals mg → mg d.name = some (.ref fa) →
      ∃ (K : PySem.W.Frag) (fd : FuncData) (sp : Sp), K.In h ∧ (∀ (s : Shared) (u : Value), BindsTo s fd ⟨[u], []⟩ [(x, u)]) ∧
        (∀ (H : Hp) (a : Addr) (ns : List Int), ns.length ≤ n → Only H → SqL K H a (ns.map V.int) → sp [.ref a] H (fun v _ => v = .bl true) fun _ _ _ => False) ∧
        ∀ base : Heap, K.In base → base.Ns mainGlobals mg → SysOk base → FnG l.prog w K mg base CX k fa fd [x] sp)
    (hCX : ∀ (H : Hp) (s : Shared) (e : Value) (s' : Shared), CX [] H s (fun _ _ _ => False) e s' → False) :
    PySem.W.WalkO q loose XP YP l.row.toRowW d [] (fun f vs => PySem.call f vs) := by
  refine Att.attach_call hn hdf fun w s₀ s₁ mg mb fa o pm cd doc a vs ns G Y ho hd hcd hmg hobj hints hlen hg => ?_
  obtain ⟨K, fd, sp, KX, hb, hsp, hF⟩ := F w mg fa _ Y G.T.g hmg
  have hsy : SysOk s₁.heap := by
    obtain ⟨mm, ⟨o, es, ep, e1, e2, _⟩, _⟩ := (G.T.seer hi).mods
    exact ⟨o, es, ep, e1, e2⟩
  exact law_g KX G.T.g G.T.b G.T.builtins G.T.nolimit hsy hg hobj hints (Nat.le_trans hlen hn2) hr hF hb (fun H hO hS => hsp H a ns hlen hO hS) fun H e s' => hCX H s₁ e s'
end Lw

set_option Elab.async false
set_option linter.all false
set_option maxRecDepth 100000
set_option maxHeartbeats 2000000
namespace Lw
open PySem PySem.Spec PyProof.Rows L2

/-! ## the heap without one object -/
def off (H : Hp) (a : Addr) : Hp := fun b => if b = a then none else H b
theorem off_ne {H : Hp} {a b : Addr} (h : b ≠ a) : off H a b = H b := by
  unfold off
  rw [if_neg h]
theorem off_self {H : Hp} {a : Addr} : off H a a = none := by
  unfold off
  rw [if_pos rfl]
theorem off_get {H : Hp} {a b : Addr} {o : HO} (h : off H a b = some o) : b ≠ a ∧ H b = some o := by
  by_cases e : b = a
  · rw [e, off_self] at h
    cases h
  · exact ⟨e, (off_ne e).symm.trans h⟩
theorem off_same {H : Hp} {a : Addr} : Same (off H a) H := fun _ _ h => (off_get h).2
/-- all but a is as it was -/
def Off (a : Addr) (H H' : Hp) : Prop := Same (off H a) (off H' a)
theorem Off.refl {a : Addr} {H : Hp} : Off a H H := fun _ _ h => h
theorem Off.trans {a : Addr} {H H1 H2 : Hp} (x : Off a H H1) (y : Off a H1 H2) : Off a H H2 := fun b o h => y b o (x b o h)
theorem Off.get {a b : Addr} {H H' : Hp} {o : HO} (x : Off a H H') (h : H b = some o) (n : b ≠ a) : H' b = some o := by
  have e := x b o ((off_ne n).trans h)
  exact (off_get e).2
theorem Off.at {a : Addr} {H : Hp} {o : HO} : Off a H (upd H a o) := by
  intro b u h
  obtain ⟨n, e⟩ := off_get h
  rw [off_ne n, upd_ne n]
  exact e
theorem Off.new {a p : Addr} {H : Hp} {o : HO} (h : H p = none) : Off a H (upd H p o) := by
  intro b u g
  obtain ⟨n, e⟩ := off_get g
  rw [off_ne n, upd_ne (ne_of_none e h)]
  exact e
theorem Off.same {a : Addr} {H H' : Hp} (x : Same H H') : Off a H H' := by
  intro b u g
  obtain ⟨n, e⟩ := off_get g
  rw [off_ne n]
  exact x _ _ e
theorem Off.free {a p : Addr} {H H' : Hp} (x : Off a H H') (h : H' p = none) (ha : ∃ o, H a = some o) (n : p ≠ a) : H p = none := by
  cases e : H p with
  | none => rfl
  | some o =>
    rw [x.get e n] at h
    cases h

/-! ## the pot -/
def PotAt (H : Hp) (a : Addr) : Prop := ∃ p q : Int, H a = some (.lst [.int p, .int q]) ∧ 0 ≤ q ∧ q < 2147483648
theorem PotAt.new {H : Hp} {a p : Addr} {o : HO} (h : PotAt H a) (n : H p = none) : PotAt (upd H p o) a := by
  obtain ⟨x, y, e, r⟩ := h
  exact ⟨x, y, by rw [upd_ne (ne_of_none e n)]; exact e, r⟩
theorem PotAt.same {H H' : Hp} {a : Addr} (h : PotAt H a) (s : Same H H') : PotAt H' a := by
  obtain ⟨x, y, e, r⟩ := h
  exact ⟨x, y, s _ _ e, r⟩
theorem PotAt.ne {H : Hp} {a p : Addr} (h : PotAt H a) (n : H p = none) : p ≠ a := by
  obtain ⟨x, y, e, r⟩ := h
  exact (ne_of_none e n).symm

/-! ## data: kinds -/
def tyD : PyData → String
  | .none => "NoneType"
  | .bool _ => "bool"
  | .int _ => "int"
  | .str _ => "str"
  | .list _ => "list"
  | .tuple _ => "tuple"
  | .dict _ => "dict"
theorem Dq.ty {K : PySem.W.Frag} {H : Hp} {v : V} {d : PyData} (h : Dq K H v d) : TyX K H v (.type (tyD d)) := by
  cases h with
  | non => exact .base .non
  | bl b => exact .base (.bl b)
  | int i => exact .base (.int i)
  | str x => exact .base (.str x)
  | lst h _ =>
    rcases h with (h | ⟨o, h⟩) | ⟨o, xs, n, h1, h2, _⟩
    · exact .base (.lst h)
    · exact .base (.frz h)
    · exact .kList h1 h2
  | tup h _ =>
    rcases h with (h | ⟨o, h⟩) | ⟨o, xs, n, h1, h2, _⟩
    · exact .base (.tup h)
    · exact .fTuple h
    · exact .kTuple h1 h2
  | dic h => exact .base (.dK h)
/-- isinstance of data and a built-in class -/
theorem isi_ty {K : PySem.W.Frag} {H : Hp} {v : V} {d : PyData} {T : String} {b : Bool} {Q : VK} (h : Dq K H v d) (e : kitB (tyD d) T = some b) (q : Q (.bl b) H) : rIsi K [v, .ty T] H Q :=
  ⟨v, .ty T, .type (tyD d), .type T, b, rfl, .ty T, h.ty, kit_ty e, q⟩

/-! ## data: sizes -/
theorem len_list2 (a b : Str) : (listText [a, b]).length = a.length + b.length + 4 := by
  show (((("[" : Str) ++ ("" : String) ++ a) ++ (", " : String) ++ b) ++ ("]" : Str)).length = _
  simp only [strLen_append]
  show 1 + 0 + a.length + 2 + b.length + 1 = _
  omega
theorem len_list3 (a b c : Str) : (listText [a, b, c]).length = a.length + b.length + c.length + 6 := by
  show ((((("[" : Str) ++ ("" : String) ++ a) ++ (", " : String) ++ b) ++ (", " : String) ++ c) ++ ("]" : Str)).length = _
  simp only [strLen_append]
  show 1 + 0 + a.length + 2 + b.length + 2 + c.length + 1 = _
  omega
theorem len_bool (b : Bool) : (PyData.bool b).shown.length ≤ 5 := by cases b <;> decide
/-- data that can be shown in a row -/
structure Small (n : Nat) (d : PyData) : Prop where
  sh : d.showable = true
  ln : d.shown.length ≤ n
  dp : d.depth ≤ 10
theorem Small.mono {n m : Nat} {d : PyData} (h : Small n d) (e : n ≤ m) : Small m d := ⟨h.sh, Nat.le_trans h.ln e, h.dp⟩

/-! ## texts of single signs -/
def Bytes (z : Str) : Prop := ∀ c ∈ z.cps.toList, c < 256
theorem small_text {z : Str} {n : Nat} (h : Bytes z) (l : z.length ≤ n) : Small (10 * n + 2) (.str z) := by
  refine ⟨rfl, ?_, ?_⟩
  · have e := StrLaws.reprText_len z fun c hc => Nat.lt_trans (h c hc) (by decide)
    show (reprText z).length ≤ _
    omega
  · simp [PyData.depth]
theorem bytes_join : ∀ (ys : List Str), (∀ y ∈ ys, y.length = 1 ∧ Bytes y) → (Str.join "" ys).length = ys.length ∧ Bytes (Str.join "" ys)
  | [], _ => ⟨rfl, fun c hc => by cases hc⟩
  | [x], h => ⟨(h x (by simp)).1, (h x (by simp)).2⟩
  | x :: y :: r, h => by
    obtain ⟨h1, h2⟩ := bytes_join (y :: r) fun z hz => h z (List.mem_cons_of_mem _ hz)
    obtain ⟨h3, h4⟩ := h x (by simp)
    have e : Str.join "" (x :: y :: r) = x ++ ("" : Str) ++ Str.join "" (y :: r) := rfl
    constructor
    · rw [e, strLen_append, strLen_append, h1, h3]
      show 1 + 0 + (y :: r).length = (y :: r).length + 1
      omega
    · intro c hc
      rw [e] at hc
      have hc' : c ∈ x.cps.toList ++ ([] : List Nat) ++ (Str.join "" (y :: r)).cps.toList := by
        have : (x ++ ("" : Str) ++ Str.join "" (y :: r)).cps.toList = x.cps.toList ++ ([] : List Nat) ++ (Str.join "" (y :: r)).cps.toList := by
          show ((x.cps ++ #[]) ++ (Str.join "" (y :: r)).cps).toList = _
          simp
        rw [← this]
        exact hc
      simp only [List.append_nil, List.mem_append] at hc'
      rcases hc' with q | q
      · exact h4 c q
      · exact h2 c q
theorem sum_ones {ys : List Str} (h : ∀ y ∈ ys, y.length = 1 ∧ Bytes y) : (ys.map fun y => y.length).sum = ys.length := by
  induction ys with
  | nil => rfl
  | cons y r ih =>
    rw [List.map_cons, List.sum_cons, ih fun z hz => h z (List.mem_cons_of_mem _ hz), (h y (by simp)).1, List.length_cons]
    omega
/-- an item of a list, at a place that is told -/
theorem at_in {α : Type} {xs : List α} {i : Int} (h0 : 0 ≤ i) (h1 : i < xs.length) : ∃ v, v ∈ xs ∧ xs[i.toNat]? = some v ∧ atI xs i = some v := by
  have h2 : i.toNat < xs.length := by omega
  refine ⟨xs[i.toNat], List.getElem_mem h2, List.getElem?_eq_getElem h2, ?_⟩
  have q := atI_nat (xs := xs) (j := i.toNat) (List.getElem?_eq_getElem h2)
  rw [Int.toNat_of_nonneg h0] at q
  exact q

/-! ## an own def, with all that a call wants -/
structure Own (P : Program) (w : World) (K : PySem.W.Frag) (mg : Str → Option Value) (base : Heap) (CX : CXT) (k : Nat) (x : Str) (ps : List Str) (sp : Sp) (f : Addr) (fd : FuncData) : Prop where
  ok : FnOk P w K mg base CX k f fd ps sp
  m : mg x = some (.ref f)
  kp : PySem.W.keepIn K (.ref f) = true
  b : Binds K fd ps []
structure OwnG (P : Program) (w : World) (K : PySem.W.Frag) (mg : Str → Option Value) (base : Heap) (CX : CXT) (k : Nat) (x : Str) (ps : List Str) (sp : Sp) (f : Addr) (fd : FuncData) : Prop where
  ok : FnG P w K mg base CX k f fd ps sp
  m : mg x = some (.ref f)
  kp : PySem.W.keepIn K (.ref f) = true
  b : Binds K fd ps []
section
variable {X : Cx} {CX : CXT} {k : Nat} {f : Addr} {fd : FuncData} {ps ks : List Str} {sp : Sp} {x : Str} {p pos : Pos} {e : Expr} {es : List Expr} {t tk : TA} {kws : List Keyword} {g : List Value → List Value → List Value} {gV : List V → List V → List V}
theorem pe_own (O : Own X.prog X.w X.K X.mg X.base CX0 k x ps sp f fd) (hr : Room k X.A) (ha : PA X (e :: es) t) (hg : Gl X x := by rfl) (hdb : (x == ("__debug__" : Str)) = false := by decide)
    (he : starEach (e :: es) X.env = (false, eval e X.env) :: starEach es X.env := by rfl) (hpl : (backTo pos (starEach es X.env)).any (fun q => q.1) = false := by rfl) :
    PE X (.Call (.Name x p) (e :: es) [] pos) (tCall sp [] E0 t) := pe_call O.ok hr hg O.m O.kp O.b .nil pass0 ha hdb he hpl
theorem pe_own0 (O : Own X.prog X.w X.K X.mg X.base CX0 k x ps sp f fd) (hr : Room k X.A) (hg : Gl X x := by rfl) (hdb : (x == ("__debug__" : Str)) = false := by decide) :
    PE X (.Call (.Name x p) [] [] pos) (tCall sp [] E0 tNil) := pe_call0 O.ok hr hg O.m O.kp O.b .nil pass0 hdb
theorem pe_owng (O : OwnG X.prog X.w X.K X.mg X.base CX0 k x ps sp f fd) (hgd : X.A.guards = some []) (hr : Room k X.A) (ha : PA X (e :: es) t) (hg : Gl X x := by rfl) (hdb : (x == ("__debug__" : Str)) = false := by decide)
    (he : starEach (e :: es) X.env = (false, eval e X.env) :: starEach es X.env := by rfl) (hpl : (backTo pos (starEach es X.env)).any (fun q => q.1) = false := by rfl) :
    PE X (.Call (.Name x p) (e :: es) [] pos) (tCall sp [] E0 t) := pe_callg O.ok hgd hr hg O.m O.kp O.b .nil pass0 ha hdb he hpl
theorem pe_owng0 (O : OwnG X.prog X.w X.K X.mg X.base CX0 k x ps sp f fd) (hgd : X.A.guards = some []) (hr : Room k X.A) (hg : Gl X x := by rfl) (hdb : (x == ("__debug__" : Str)) = false := by decide) :
    PE X (.Call (.Name x p) [] [] pos) (tCall sp [] E0 tNil) := pe_callg0 O.ok hgd hr hg O.m O.kp O.b .nil pass0 hdb
theorem pe_ownW (O : Own X.prog X.w X.K X.mg X.base CX0 k x ps sp f fd) (hb : KBn X.K fd ps 0 ks g gV) (hr : Room k X.A) (hkw : PK X kws tk) (hg : Gl X x := by rfl)
    (hall : (backToKw pos (keywordEach kws X.env)).all (fun q => q.1.isSome) = true := by rfl)
    (hks : (backToKw pos (keywordEach kws X.env)).filterMap (fun q => q.1) = ks := by rfl)
    (hdb : (x == ("__debug__" : Str)) = false := by decide)
    (hpl : ((backTo pos (starEach [] X.env)).any (fun q => q.1) || (backToKw pos (keywordEach kws X.env)).any (fun q => q.1.isNone)) = false := by rfl) :
    PE X (.Call (.Name x p) [] kws pos) (tCallN 0 ks.length sp gV E0 tNil tk) := pe_callW O.ok hr hg O.m O.kp hb pass0 hkw hall hks hdb hpl
/-- a constant of the module -/
theorem pe_gi {i : Int} (h : ∃ t, X.mg x = some (.int i t)) (hg : Gl X x := by rfl) (hd : (x == ("__debug__" : Str)) = false := by decide) : PE X (.Name x pos) (tC (.int i)) :=
  h.elim fun t e => pe_glob hg e ⟨t, rfl⟩ hd
theorem pe_gs {z : Str} (h : ∃ t, X.mg x = some (.str z t)) (hg : Gl X x := by rfl) (hd : (x == ("__debug__" : Str)) = false := by decide) : PE X (.Name x pos) (tC (.str z)) :=
  h.elim fun t e => pe_glob hg e ⟨t, rfl⟩ hd
end
end Lw
namespace Lw
open PySem PySem.Spec PyProof.Rows L2
theorem Off.put {a D : Addr} {H H' : Hp} {o : HO} (x : Off a H H') (h : H D = none) : Off a H (upd H' D o) := by
  intro b u g
  obtain ⟨n, e⟩ := off_get g
  rw [off_ne n, upd_ne (ne_of_none e h)]
  exact x.get e n
theorem PotAt.put {H : Hp} {a D : Addr} {o : HO} (h : PotAt H a) (n : D ≠ a) : PotAt (upd H D o) a := by
  obtain ⟨x, y, e, r⟩ := h
  exact ⟨x, y, by rw [upd_ne n.symm]; exact e, r⟩
theorem small_int {i : Int} (h : i.natAbs < 2 ^ 1000) : Small 2000 (.int i) := by
  have h1 : i.natAbs.log2 < 1920 := Nat.lt_of_lt_of_le (PySem.Flt.log2_lt_of (by decide) h) (by decide)
  refine ⟨?_, ?_, ?_⟩
  · show decide (i.natAbs.log2 < 1920) = true
    exact decide_eq_true h1
  · have e := int_text_len_1921 h1
    show (Str.ofString (toString i)).length ≤ 2000
    omega
  · simp [PyData.depth]

/-! ## displays of data -/
def Mk (K : PySem.W.Frag) (te : TE) (d : PyData) : Prop := ∀ σ H (Q : VK), (∀ v H', Same H H' → (∀ a, H a ≠ none → Dq K (off H' a) v d) → Q v H') → te σ H Q
def MkA (K : PySem.W.Frag) (ta : TA) (ds : List PyData) : Prop := ∀ σ H (Q : List V → Hp → Prop), (∀ vs H', Same H H' → vs.length = ds.length → (∀ a, H a ≠ none → DqAll K (off H' a) vs ds) → Q vs H') → ta σ H Q
theorem off_mono {H H' : Hp} {a : Addr} (s : Same H H') : Same (off H a) (off H' a) := Off.same s
theorem same_some {H H' : Hp} {a : Addr} (s : Same H H') (h : H a ≠ none) : H' a ≠ none := by
  cases e : H a with
  | none => exact absurd e h
  | some o =>
    rw [s _ _ e]
    exact fun z => nomatch z
section
variable {K : PySem.W.Frag}
theorem Mk.non : Mk K (tC .non) .none := fun _ H Q h => h _ H (Same.refl H) fun _ _ => .non
theorem Mk.bl {b : Bool} : Mk K (tC (.bl b)) (.bool b) := fun _ H Q h => h _ H (Same.refl H) fun _ _ => .bl b
theorem Mk.int {i : Int} : Mk K (tC (.int i)) (.int i) := fun _ H Q h => h _ H (Same.refl H) fun _ _ => .int i
theorem Mk.str {x : Str} : Mk K (tC (.str x)) (.str x) := fun _ H Q h => h _ H (Same.refl H) fun _ _ => .str x
theorem Mk.neg {i : Int} : Mk K (tUn (rU fun i => .int (-i)) (tC (.int i))) (.int (-i)) := fun _ H Q h => ⟨i, rfl, h _ H (Same.refl H) fun _ _ => .int _⟩
theorem MkA.nil : MkA K tNil [] := fun _ H Q h => h _ H (Same.refl H) rfl fun _ _ => .nil
theorem MkA.cons {te : TE} {ta : TA} {d : PyData} {ds : List PyData} (h1 : Mk K te d) (h2 : MkA K ta ds) : MkA K (tCons te ta) (d :: ds) := by
  intro σ H Q h
  refine h1 σ H _ fun v H1 s1 q1 => h2 σ H1 _ fun vs H2 s2 l2 q2 => h _ H2 (s1.trans s2) (congrArg Nat.succ l2) fun a ha => ?_
  exact .cons (Dq.same (off_mono s2) (q1 a ha)) (q2 a (same_some s1 ha))
theorem mk_new {H : Hp} {p a : Addr} {o : HO} (hp : H p = none) (ha : H a ≠ none) : off (upd H p o) a p = some o := by
  have n : p ≠ a := fun e => ha (e ▸ hp)
  rw [off_ne n, upd_same]
theorem Mk.tup {ta : TA} {ds : List PyData} (h1 : MkA K ta ds) (hl : ds.length ≤ 1000 := by decide) : Mk K (tTup ta) (.tuple ds) := by
  intro σ H Q h
  refine h1 σ H _ fun vs H1 s1 l1 q1 => ⟨?_, fun p hp => h _ _ (s1.trans (same_upd hp)) fun a ha => ?_⟩
  · rw [l1]
    exact Nat.le_of_lt (small1000 hl)
  · exact .tup (.inl (.inl (mk_new hp (same_some s1 ha)))) (DqAll.same (off_mono (same_upd hp)) (q1 a ha))
theorem Mk.lst {ta : TA} {ds : List PyData} (h1 : MkA K ta ds) (hl : ds.length ≤ 1000 := by decide) : Mk K (tLst ta) (.list ds) := by
  intro σ H Q h
  refine h1 σ H _ fun vs H1 s1 l1 q1 => ⟨?_, fun p hp => h _ _ (s1.trans (same_upd hp)) fun a ha => ?_⟩
  · rw [l1]
    exact Nat.le_of_lt (small1000 hl)
  · exact .lst (.inl (.inl (mk_new hp (same_some s1 ha)))) (DqAll.same (off_mono (same_upd hp)) (q1 a ha))
theorem Mk.dict : Mk K tDNewK (.dict []) := by
  intro σ H Q h
  intro p hp
  exact h _ _ (same_upd hp) fun a ha => .dic (mk_new hp ha)
theorem dq_at {H : Hp} : ∀ {vs : List V} {ds : List PyData}, DqAll K H vs ds → ∀ v ∈ vs, ∃ d ∈ ds, Dq K H v d
  | _, _, .nil, v, h => nomatch h
  | _, _, .cons h g, v, hv => by
    rcases List.mem_cons.mp hv with rfl | hv
    · exact ⟨_, List.mem_cons_self .., h⟩
    · obtain ⟨d, hd, e⟩ := dq_at g v hv
      exact ⟨d, List.mem_cons_of_mem _ hd, e⟩
theorem dq_app {H : Hp} : ∀ {vs ws : List V} {ds es : List PyData}, DqAll K H vs ds → DqAll K H ws es → DqAll K H (vs ++ ws) (ds ++ es)
  | _, _, _, _, .nil, q => q
  | _, _, _, _, .cons h g, q => .cons h (dq_app g q)
end
end Lw
namespace Lw
open PySem PySem.Spec PyProof.Rows L2
section
variable {K : PySem.W.Frag}
theorem s_lst {ta : TA} {ds : List PyData} {i : Nat} {u : TS} {D : Ends} {σ : L2.St} {H : Hp} (h : MkA K ta ds) (hl : ds.length ≤ 1000)
    (k : ∀ vs H1 p, Same H H1 → vs.length = ds.length → (∀ a, H a ≠ none → DqAll K (off H1 a) vs ds) → H1 p = none → u D (σ.set i (some (.ref p))) (upd H1 p (.lst vs))) :
    tSeq (tAsg (tLst ta) (gName i)) u D σ H := by
  refine h σ H _ fun vs H1 s l d => ⟨?_, fun p np => k vs H1 p s l d np⟩
  rw [l]
  exact Nat.le_of_lt (small1000 hl)
/-- x + [..] -/
theorem e_cat {ta : TA} {ds : List PyData} {i : Nat} {σ : L2.St} {H : Hp} {Q : VK} {t : Addr} {xs : List V} (h : MkA K ta ds) (hl : xs.length + ds.length ≤ 1000) (hi : σ[i]? = some (some (.ref t))) (ht : H t = some (.lst xs))
    (k : ∀ vs H1 p, Same H H1 → vs.length = ds.length → (∀ a, H a ≠ none → DqAll K (off H1 a) vs ds) → H1 p = none → Q (.ref p) (upd H1 p (.lst (xs ++ vs)))) :
    tOp rCat (tVar i) (tLst ta) σ H Q := by
  refine ⟨.ref t, hi, h σ H _ fun vs H1 s l d => ⟨?_, fun p np => ⟨t, p, xs, vs, rfl, rfl, ?_, upd_same, ?_, fun p2 np2 => ?_⟩⟩⟩
  · rw [l]
    exact Nat.le_of_lt (small1000 (by omega))
  · rw [upd_ne (ne_of_none (s _ _ ht) np)]
    exact s _ _ ht
  · rw [l]
    exact Nat.le_of_lt (small1000 hl)
  · refine k vs (upd H1 p (.lst vs)) p2 (s.trans (same_upd np)) l (fun a ha => DqAll.same (off_mono (same_upd np)) (d a ha)) np2
def rLenQ (K : PySem.W.Frag) : List V → Hp → VK → Prop := fun xs H Q => ∃ (p : Addr) (ys : List V), xs = [.ref p] ∧ (SqL K H p ys ∨ SqT K H p ys) ∧ Q (.int ys.length) H
theorem call_lenQ {X : Cx} : CallR X (.builtin "len") (rLenQ X.K) := call_len_seq
end
end Lw

set_option Elab.async false
set_option linter.all false
set_option maxRecDepth 100000
set_option maxHeartbeats 4000000
namespace Lw
open PySem PySem.Spec PyProof.Rows L2

/-! ## own exceptions over one of the built-in ones -/
/-- own classes, then the mro of a built-in one -/
def refsT (tl : List Value) : List Value → Bool
  | .ref _ :: r => refsT tl r
  | l => l == tl
theorem refsT_or (tl : List Value) (l : List Value) (h : refsT tl l = true) : (∃ c r, l = .ref c :: r ∧ refsT tl r = true) ∨ l = tl := by
  cases l with
  | nil => exact .inr (beq_iff_eq.mp h)
  | cons a r =>
    cases a with
    | ref c => exact .inl ⟨c, r, rfl, h⟩
    | _ => exact .inr (beq_iff_eq.mp h)
/-- what the built-in class says -/
structure ExB (B newId initId : String) (tl : List Value) : Prop where
  fb : ExcBaseFacts B newId initId tl
  kf : PySem.W.KxsFacts B initId
  pass : ∀ self, PySem.refuseLoop self "__setattr__" tl = pure ()
  obj : tl.contains (.type "object") = true
  nn : tl ≠ []
abbrev tlOf (B : String) : List Value := [.type B, .type "Exception", .type "BaseException", .type "object"]
theorem exb_V : ExB "ValueError" "ValueError.__new__" "ValueError.__init__" (tlOf "ValueError") := ⟨F.excBase_ValueError, PySem.W.kxs_ValueError, F.store_ValueError.passes, by decide +kernel, by simp⟩
theorem exb_L : ExB "LookupError" "LookupError.__new__" "LookupError.__init__" (tlOf "LookupError") := ⟨F.excBase_LookupError, PySem.W.kxs_LookupError, F.store_LookupError.passes, by decide +kernel, by simp⟩
theorem exb_R : ExB "RuntimeError" "RuntimeError.__new__" "RuntimeError.__init__" (tlOf "RuntimeError") := ⟨F.excBase_RuntimeError, PySem.W.kxs_RuntimeError, F.store_RuntimeError.passes, by decide +kernel, by simp⟩
theorem exb_A : ExB "ArithmeticError" "ArithmeticError.__new__" "ArithmeticError.__init__" (tlOf "ArithmeticError") := ⟨F.excBase_ArithmeticError, PySem.W.kxs_ArithmeticError, F.store_ArithmeticError.passes, by decide +kernel, by simp⟩
theorem refsT_pass {B newId initId : String} {tl : List Value} (E : ExB B newId initId tl) (self : Value) : ∀ l : List Value, refsT tl l = true → PySem.refuseLoop self "__setattr__" l = pure () := by
  intro l
  induction l with
  | nil =>
    intro h
    exact absurd (beq_iff_eq.mp h).symm E.nn
  | cons a r ih =>
    intro h
    rcases refsT_or tl _ h with ⟨c, r', q, g⟩ | q
    · cases q
      rw [PySem.refuseLoop_ref]
      exact ih g
    · rw [q]
      exact E.pass self
theorem refsT_obj {B newId initId : String} {tl : List Value} (E : ExB B newId initId tl) : ∀ l : List Value, refsT tl l = true → l.contains (.type "object") = true ∧ l.isEmpty = false := by
  intro l
  induction l with
  | nil =>
    intro h
    exact absurd (beq_iff_eq.mp h).symm E.nn
  | cons a r ih =>
    intro h
    refine ⟨?_, rfl⟩
    rcases refsT_or tl _ h with ⟨c, r', q, g⟩ | q
    · cases q
      rw [List.contains_cons, (ih g).1, Bool.or_true]
    · rw [q]
      exact E.obj
/-- what the written part says of a class of exceptions -/
def clsB (K : PySem.W.Frag) (C : Addr) (tl : List Value) (newId : String) : Bool :=
  PySem.W.excInitIn K C tl newId && (((PySem.W.clsIn K C).any fun cd => cd.hasDict && refsT tl cd.mro) && (decide (PySem.W.findIn K (.ref C) "__setattr__" = some (some (.builtin "object.__setattr__"))) &&
    (decide (PySem.W.subIn K (.ref C) (.type "BaseException") = some true) && (decide (PySem.W.typeIn K (.ref C) = some (.type "type")) && PySem.W.keepIn K (.ref C)))))
structure ExcK (K : PySem.W.Frag) (C : Addr) (tl : List Value) (newId : String) : Prop where
  ini : PySem.W.excInitIn K C tl newId = true
  cls : ∃ cd, PySem.W.clsIn K C = some cd ∧ cd.hasDict = true ∧ refsT tl cd.mro = true
  sa : PySem.W.findIn K (.ref C) "__setattr__" = some (some (.builtin "object.__setattr__"))
  exC : PySem.W.subIn K (.ref C) (.type "BaseException") = some true
  tyC : PySem.W.typeIn K (.ref C) = some (.type "type")
  kC : PySem.W.keepIn K (.ref C) = true
theorem clsB_ok {K : PySem.W.Frag} {C : Addr} {tl : List Value} {newId : String} (h : clsB K C tl newId = true) : ExcK K C tl newId := by
  unfold clsB at h
  simp only [Bool.and_eq_true, decide_eq_true_eq] at h
  obtain ⟨h1, h2, h3, h4, h5, h6⟩ := h
  obtain ⟨cd, e, h7⟩ := (Option.any_eq_true _ _).mp h2
  rw [Bool.and_eq_true] at h7
  exact ⟨h1, ⟨cd, e, h7.1, h7.2⟩, h3, h4, h5, h6⟩

section
open PySem.Builtin PySem.Builtin.ObjectAttr
variable {prog : Program} {w : World} {A : Around} {R : Result → Shared → Prop} {hp : Heap} {g : Array GenState} {d : Drawn} {t : Nat} {os : OsState}
/-- the first field of an exception -/
theorem osa_b {B newId initId : String} {tl : List Value} (EB : ExB B newId initId tl) {K : PySem.W.Frag} {name : Str} {tk : Tok} {v : Value} {x C : Addr} {fv : Array Value} {cd : ClassData}
    (X : K.In hp) (hx : hp.get? x = some { cls := .ref C, data := .fields fv }) (hcd : PySem.W.clsIn K C = some cd) (hm : refsT tl cd.mro = true) (hh : cd.hasDict = true) (ha : PySem.W.findIn K (.ref C) name = some none)
    (hq : ∀ h' tk' dx, (∀ b o, b ≠ x → hp.get? b = some o → h'.get? b = some o) → hp.objs.size ≤ dx → dx ≠ x → h'.get? x = some { cls := .ref C, dict := some dx, data := .fields fv } →
      h'.Ns1 dx (fun y => if y = name then some v else none) → R (.ok (.ret .none)) ⟨h', g, d, tk', os⟩) :
    codeAny (model prog w) A (.call (.builtin "object.__setattr__") ⟨[.ref x, .str name tk, v], []⟩) R ⟨hp, g, d, t, os⟩ := by
  obtain ⟨hob, hne⟩ := refsT_obj EB _ hm
  have I : PySem.W.InstAt hp x { cls := .ref C, data := .fields fv } C none := ⟨hx, rfl, rfl, trivial⟩
  have SF := F.store_object
  have hxs : x ≠ hp.objs.size := Nat.ne_of_lt (Heap.lt_size hx)
  have hmro : PySem.W.mroIn K C (.type "object") = some true := by
    unfold PySem.W.mroIn
    rw [hcd, Option.bind_some, if_neg (by rw [hne]; decide), hob]
  have sub : PySem.W.Looks (model prog w) hp (isInstance (.ref x) (.type "object")) true := I.type.andThen (PySem.W.looks_mroIn X hmro)
  refine codeAny_call_builtin SF.slot.plain SF.entry (@PySem.W.check_slot (model prog w) _ _ ⟨hp, g, d, t, os⟩ "object.__setattr__" "object" "__setattr__" (.ref x) [.str name tk, v] [] _ SF.kind SF.split sub (SF.args (.ref x) (.str name tk) v) ?_)
  have hcls : PySem.W.Looks (model prog w) hp (classData C) cd := PySem.W.looks_clsIn X hcd
  have hmr : PySem.W.Looks (model prog w) hp (mroOf (.ref C)) cd.mro := hcls.andThen .now
  have L3 : PySem.W.Looks (model prog w) hp (storeTaker? none) none := .now
  rw [PySem.W.osa_eq, refuse_eq]
  refine wpAny_bind (wpAny_bind (I.type.at (wpAny_bind (hmr.at ?_))))
  rw [refsT_pass EB _ _ hm]
  refine wpAny_pure (wpAny_bind (I.type.at (wpAny_bind ((PySem.W.looks_findIn X ha).at (wpAny_bind (L3.at ?_))))))
  show wpAny _ _ (storeInOwnDict (.ref x) (.ref C) (.str name tk) name v false) _ _ _
  obtain ⟨nm, bs, mro, ns, qn, hd, sn, sb, ab, col, del⟩ := cd
  dsimp only at hh
  subst hh
  unfold storeInOwnDict ownDictForStores
  repeat (first | with_reducible refine HandSPX.store_in_new ?_ ?_ | with_reducible refine wpAny_loadPart_at hx ?_ | with_reducible refine hcls.at ?_ | wp_step)
  · exact ⟨_, #[], _, (Heap.get?_update_ne _ _ _ _ hxs.symm).trans (Heap.get?_push_at rfl rfl), rfl, fun e he => absurd he (by simp), fun _ => rfl⟩
  · intro h' tk' hn' hs
    have hx₁ : (hp.push { cls := .type "dict", data := .dict #[] }).get? x = some { cls := .ref C, data := .fields fv } := Heap.get?_push_of_some _ hx
    refine hq h' tk' hp.objs.size (fun b o hb ho => ?_) (Nat.le_refl _) hxs.symm ?_ hn'
    · exact (hs.2 b (Nat.ne_of_lt (Heap.lt_size ho))).trans ((Heap.get?_update_ne _ _ _ _ hb).trans (Heap.get?_push_of_some _ ho))
    · exact (hs.2 x hxs).trans (Heap.get?_update_self _ hx₁ rfl)
end
end Lw

set_option Elab.async false
set_option linter.all false
set_option maxRecDepth 100000
set_option maxHeartbeats 4000000
namespace Lw
open PySem PySem.Spec PyProof.Rows L2

/-- the words of a def `__init__` that closes over its class -/
structure IniW where
  name : Str
  qual : Str
  params : Arguments
  body : List Stmt
  scope : Scope
/-- such a def as it stands behind the top: its cell cc, its code object cda, its class C -/
structure IniK (P : Program) (K : PySem.W.Frag) (mg : Str → Option Value) (W : IniW) (f cc cda C : Addr) (B initId : String) : Prop where
  lk : ∃ (oc doc pm ct : Value) (od : Option Addr) (osl : Array (Option Value)), K.lookup f = some ⟨oc, od, .func (PySem.W.fnX W.name W.qual W.params W.body W.scope [("__class__", cc)] .none .none doc pm none (.ref cda) ct), osl⟩
  hcd : PySem.W.codeIn K (.ref cda) W.qual = true
  code : ∃ (ccl : Value) (cdd : Option Addr) (vs : Array Value) (ccs : Array (Option Value)) (file : Str) (tf : Tok), K.lookup cda = some ⟨ccl, cdd, .fields vs, ccs⟩ ∧ vs[2]? = some (.str file tf) ∧ ((P.main.file : Str) == file) = true
  cell : ∃ (cl : Value) (cld : Option Addr) (csl : Array (Option Value)), K.lookup cc = some ⟨cl, cld, .cell (some (.ref C)), csl⟩
  top : (P.main.scope.names.lookup ("super" : Str)).isSome = false
  sup : mg "super" = none
  self : (W.params.posonlyargs ++ W.params.args).head?.map (fun a => a.arg) = some "self"
  kind : W.scope.kind = .function
  ksup : W.scope.names.lookup ("super" : Str) = some .globalImplicit
  kcls : W.scope.names.lookup ("__class__" : Str) = some .free
  kself : W.scope.names.lookup ("self" : Str) = some .local
  opq : PySem.W.nsIn K cStatics "thirdparty.any" = some none
  meth : PySem.W.ks_superIn K C C "__init__" = some (some (.builtin initId))
  subB : PySem.W.subIn K (.ref C) (.type B) = some true
  subC : PySem.W.mroIn K C (.ref C) = some true

section
variable {X : Cx} {pins : List (Addr × Obj)} {σ : L2.St} {H : Hp} {s : Shared} {a f cc cda C : Addr} {W : IniW} {B newId initId : String} {tl : List Value} {body : List Stmt} {E : Value → Shared → Prop}
/-- the built-in __init__, bound to the exception, is called -/
theorem mw_call (EB : ExB B newId initId tl) (T : ExcK X.K C tl newId) (I : Inv X pins σ H s) (ha : H a = some (exo a C none)) {u : Addr} (hu : s.heap.get? u = some (PySem.W.kxs_mw initId a)) {rest : List Value} (hz : rest.length ≤ sizeLine)
    {Q : Value → Shared → Prop} (h : ∀ s', Inv X pins σ H s' → Q .none s') : wpAny (model X.prog X.w) X.A (call (.ref u) rest) Q E s := by
  obtain ⟨nm, N', qn, bs, bm, hdct, sn, sub, ab, col, dd, k0, k1, k2, k3, k5, hC, hT⟩ := PySem.W.excInit_of I.kIn T.ini
  obtain ⟨t1, he⟩ := exo_at I.hok ha
  obtain ⟨hh, g, d, tk, os⟩ := s
  refine wpAny_call (codeAny_of_tree ?_)
  show wpAny _ X.A.in1 (callAny (.ref u) ⟨rest, []⟩) _ _ _
  simp only [callAny]
  refine wpAny_bind (wpAny_load hu ?_)
  have e1 : (Value.type "method-wrapper" == Value.type "method" || Value.type "method-wrapper" == Value.type "builtin_function_or_method" || Value.type "method-wrapper" == Value.type "method-wrapper") = true := by decide
  simp only [PySem.W.kxs_mw, e1, if_true]
  refine PySem.W.KFB.if_so (by decide) ?_
  refine wpAny_bind (PySem.W.check_bound_init EB.fb.toExcCallFacts hC he rfl ?_)
  refine wpAny_bind (wpAny_pure (wpAny_pure ?_))
  refine ⟨plainId_quiet EB.fb.init.plain _, codeAny_builtin EB.fb.initEntry ?_⟩
  refine PySem.W.exc_init_tree (cls := .ref C) (t0 := t1) (dv := none) (c2 := .none) (c3 := .none) (b4 := .bool false) he hz fun h' k e' t' => ?_
  have J := I.write (t' := tk) (x := a) (e := a) (o := exo a C none) (by rw [ha]; exact True.intro) (.inl rfl) k ⟨_, e'⟩ (exo_ok e')
  have eu : upd H a (exo a C none) = H := by
    funext b
    by_cases hb : b = a
    · rw [hb, upd_same, ha]
    · rw [upd_ne hb]
  rw [eu] at J
  exact h _ J

/-- super().__init__('..') -/
theorem sup_stmt {p0 p1 p2 p3 p4 p5 : Pos} {j : Nat} {msg : Str} (EB : ExB B newId initId tl) (T : ExcK X.K C tl newId) (S : IniK X.prog X.K X.mg W f cc cda C B initId) (I : Inv X pins σ H s)
    (hsc : X.env.scope = W.scope) (hfn : X.env.func = some f) (hco : X.env.code = .ref cda) (hce : X.env.cells = [(("__class__" : Str), cc)])
    (hN : X.N[0]? = some ("self" : Str)) (h0 : σ[0]? = some (some (.ref a))) (ha : H a = some (exo a C none)) {pl : Sem Bool}
    (hev : eval (.Call (.Attribute (.Call (.Name "super" p0) [] [] p1) "__init__" p2) [.Constant (.str msg) j p3] [] p4) X.env = (do
      let ov ← attributeBase (.Call (.Name "super" p0) [] [] p1) "__init__" X.env (eval (.Call (.Name "super" p0) [] [] p1) X.env)
      standAt p2.atName
      let fx ← holding [ov] (getMethod ov "__init__" pl)
      callWith p4 fx.1 fx.2 (backTo p4 (starEach [.Constant (.str msg) j p3] X.env)) []))
    {Q : Flow → Shared → Prop} (h : ∀ s', Inv X pins σ H s' → Q .next s') :
    PySem.wpAt (model X.prog X.w) X.A (.func body X.env) (exec (.Expr (.Call (.Attribute (.Call (.Name "super" p0) [] [] p1) "__init__" p2) [.Constant (.str msg) j p3] [] p4) p5) X.env) Q E s := by
  have gk : ∀ x : Str, X.env.kindOf x = W.scope.names.lookup x := fun x => by
    show X.env.scope.names.lookup x = _
    rw [hsc]
  refine ks_wpAt_Expr_any ?_ I.quiet rfl
  refine ks_wpAt_MethodCall ?_ hev
  obtain ⟨oc, doc, pm, ct, od, osl, lk⟩ := S.lk
  obtain ⟨ccl, cdd, vs, ccs, file, tf, lc, hvs, hfile⟩ := S.code
  obtain ⟨cl, cld, csl, lcell⟩ := S.cell
  obtain ⟨ar, hp, har⟩ := Option.map_eq_some_iff.mp S.self
  obtain ⟨cd, hcd, _, _⟩ := T.cls
  have KX := I.kIn
  refine ks_wpAt_super_base (env := X.env) ((gk _).trans S.ksup) ((gk _).trans S.kcls) (by decide) hfn (KX _ _ lk) rfl hp hco (KX _ _ lc) rfl hvs hfile S.top ?_
  -- super
  obtain ⟨mb, b1, b2⟩ := I.mod.blt
  refine PySem.W.ks_loadName_global I.ok.kind ((gk _).trans S.ksup) (Calls.loadGlobal_builtin (by rw [I.ok.glob]; exact I.mod.glob.keeps I.bk) S.sup (by rw [I.ok.blt]; exact b1.keeps I.bk) ((b2 _ (by decide)).trans (by first | boot_by_name | rfl | kernel_rfl)) ⟨rfl, ?_⟩)
  -- __class__
  refine wpAny_loadName_free I.ok.kind ((gk _).trans S.kcls) (c := cc) (by rw [hce]; rfl) ⟨_, KX _ _ lcell, rfl⟩ ?_
  -- self
  rw [har]
  obtain ⟨m, hn, hl⟩ := I.loc
  obtain ⟨us, rs, ls⟩ := hl 0 "self" _ hN h0 (.inl (by rw [hsc]; exact S.kself))
  cases (show us = Value.ref a from rs)
  have hm : m "self" = some (.ref a) := by
    rcases ls with ⟨_, q⟩ | ⟨q, _⟩
    · exact q
    · rw [gk, S.kself] at q
      rcases q with q | q <;> cases q
  refine wpAny_loadName_local I.ok.kind ((gk _).trans S.kself) hn hm ?_
  -- the super object
  obtain ⟨t1, he⟩ := exo_at I.hok ha
  obtain ⟨oD, hD1, hD2⟩ : ∃ oD, s.heap.get? C = some oD ∧ oD.data = .cls cd := by
    unfold PySem.W.clsIn at hcd
    split at hcd
    · rename_i c d cd' sl ho
      cases hcd
      exact ⟨_, KX _ _ ho, rfl⟩
    · cases hcd
  have In : PySem.W.InstAt s.heap a { cls := .ref C, dict := none, data := .fields #[.ref t1, .none, .none, .none, .bool false, .none] } C none := ⟨he, rfl, rfl, trivial⟩
  have nac : a ≠ C := PySem.W.ks_ne KX In hcd
  have subB := S.subB
  have meth := S.meth
  have opq := S.opq
  obtain ⟨hh, g, d, t, os⟩ := s
  refine ks_wpAny_isType_cls hD1 hD2 ⟨rfl, ?_⟩
  refine ks_wpAny_call_super hD1 hD2 he rfl (fun c e => nomatch e) (PySem.W.looks_mroIn KX S.subC) (fun h' e k => ?_)
  have I2 : Inv X pins σ H ⟨h', g, d, t, os⟩ := I.kept (t' := t) k
  obtain ⟨t2, he2⟩ := exo_at I2.hok ha
  have In2 : PySem.W.InstAt h' a { cls := .ref C, dict := none, data := .fields #[.ref t2, .none, .none, .none, .bool false, .none] } C none := ⟨he2, rfl, rfl, trivial⟩
  unfold PySem.W.ks_superIn at meth
  rw [hcd] at meth
  refine PySem.W.kxs_getMethod EB.kf e (PySem.W.looks_opaque I2.kIn opq) (l₀ := cd.mro) (fun A Q E s k q => wpAny_bind ((PySem.W.looks_clsIn I2.kIn hcd) A _ E s k (wpAny_pure q))) rfl I2.kIn meth (In2.type.andThen (PySem.W.looks_subIn I2.kIn subB)) nac (by decide) ?_
  have k3 : ∀ b o, h'.get? b = some o → (h'.push (PySem.W.kxs_mw initId a)).get? b = some o := fun b o e => Heap.get?_push_of_some _ e
  have I3 : Inv X pins σ H ⟨h'.push (PySem.W.kxs_mw initId a), g, d, t + 1, os⟩ := I2.kept (t' := t + 1) k3
  have hu : (h'.push (PySem.W.kxs_mw initId a)).get? h'.objs.size = some (PySem.W.kxs_mw initId a) := Heap.get?_push_at rfl rfl
  -- the call
  show wpAny _ _ (callWith p4 (.ref h'.objs.size) [] (backTo p4 (starEach [.Constant (.str msg) j p3] X.env)) []) _ _ _
  have hse : starEach [.Constant (.str msg) j p3] X.env = (false, eval (.Constant (.str msg) j p3) X.env) :: starEach [] X.env := rfl
  rw [hse]
  refine PySem.W.kxs_callWith (i := initId) (x := a) rfl ?_
  refine Calls.evalArgs_plain ?_
  refine Calls.spliced_cons (@Calls.Constant_str _ _ _ _ _ msg j p3 _ (Calls.spliced_nil ⟨hu, ?_⟩))
  exact mw_call EB T (I3.tok _) ha hu (by show 1 ≤ sizeLine; decide) h
end

/-! ## the promise of such an `__init__` -/
section
open NdefX
variable {P : Program} {w : World} {K : PySem.W.Frag} {mg : Str → Option Value} {base : Heap} {f cc cda C : Addr} {W : IniW} {B newId initId : String} {tl : List Value}
abbrev IniW.nf (W : IniW) (cc cda : Addr) : NF := ⟨W.name, W.qual, W.params, W.body, W.scope, [("__class__", cc)], cda⟩
/-- the first statement is super().__init__('..'), the rest is walked -/
theorem ini_ok {CX : CXT} {N ps : List Str} {k : Nat} {sp : Sp} {p0 p1 p2 p3 p4 p5 : Pos} {j : Nat} {msg : Str} {rest : List Stmt} {fd : FuncData} (EB : ExB B newId initId tl) (T : ExcK K C tl newId) (S : IniK P K mg W f cc cda C B initId)
    (hb : W.body = .Expr (.Call (.Attribute (.Call (.Name "super" p0) [] [] p1) "__init__" p2) [.Constant (.str msg) j p3] [] p4) p5 :: rest)
    (SC : NScope N ps ["__class__"] W.scope) (hp0 : ps[0]? = some ("self" : Str)) (len : ∀ vs H Q E, sp vs H Q E → vs.length = ps.length)
    (hself : ∀ vs H Q E, sp vs H Q E → ∃ a, vs[0]? = some (.ref a) ∧ H a = some (exo a C none))
    (hev : ∀ L, ∃ pl, eval (.Call (.Attribute (.Call (.Name "super" p0) [] [] p1) "__init__" p2) [.Constant (.str msg) j p3] [] p4) (envF (W.nf cc cda) f L) = (do
      let ov ← attributeBase (.Call (.Name "super" p0) [] [] p1) "__init__" (envF (W.nf cc cda) f L) (eval (.Call (.Name "super" p0) [] [] p1) (envF (W.nf cc cda) f L))
      standAt p2.atName
      let fx ← holding [ov] (getMethod ov "__init__" pl)
      callWith p4 fx.1 fx.2 (backTo p4 (starEach [.Constant (.str msg) j p3] (envF (W.nf cc cda) f L))) []))
    (hbody : ∀ (A : Around) (outer : List Env) (s : Shared) (H : Hp) (vs : List V) (Q : VK) (E : XK), Room k (A.deeper (envF (W.nf cc cda) f s.heap.objs.size)) → sp vs H Q E →
      ∃ t, PSs (ncx CX P w K mg base N (W.nf cc cda) f A outer s H E) rest t ∧ t { nx := fun _ H' => Q .non H', rt := Q } (startF N vs [some (.ref C)]) H)
    (hfd : ∃ (oc : Value) (od : Option Addr) (osl : Array (Option Value)), K.lookup f = some ⟨oc, od, .func fd, osl⟩) :
    FnOk P w K mg base CX (k + 1) f fd ps sp := by
  refine ⟨len, fun A outer s H args us vs Q E hr e0 hbnd r hsp => ?_⟩
  have keep := fun b o e => (e0.bs b o e).1
  have KX : K.In s.heap := e0.mod.kin.keeps keep
  obtain ⟨oc, doc, pm, ct, od, osl, lk⟩ := S.lk
  obtain ⟨oc', od', osl', lk'⟩ := hfd
  rw [lk] at lk'
  cases lk'
  obtain ⟨cl, cld, csl, lcell⟩ := S.cell
  have hl := len _ _ _ _ hsp
  refine ks_codeAny_call_defAt (body := W.body) hr.depth (KX _ _ lk) rfl (e0.mod.nolimit.keeps keep) (PySem.W.codeRec_of KX S.hcd) rfl hbnd SC.nocell (fun y hy => SC.par y.1 (List.of_mem_zip hy).1) (fun h₁ hns kp => ?_) SC.co SC.gen SC.kind
  have CA : CellsAt [(("__class__" : Str), cc)] ["__class__"] [some (.ref C)] s.heap H := by
    refine ⟨rfl, fun y c hc => ?_, fun x y c hx hy => ?_, fun i y hy => ?_⟩
    · have e : c = cc := by
        by_cases q : y = "__class__"
        · subst q
          exact (Option.some.inj hc).symm
        · have z : ([(("__class__" : Str), cc)]).lookup y = none := by
            simp [List.lookup, show (y == ("__class__" : Str)) = false by simpa using q]
          rw [z] at hc
          cases hc
      subst e
      exact ⟨(e0.bs _ _ (e0.mod.kin _ _ lcell)).2, _, _, KX _ _ lcell, rfl⟩
    · have key : ∀ z : Str, ([(("__class__" : Str), cc)]).lookup z = some c → z = "__class__" := fun z hz => by
        refine Classical.byContradiction fun q => ?_
        simp [List.lookup, show (z == ("__class__" : Str)) = false by simpa using q] at hz
      rw [key x hx, key y hy]
    · match i, hy with
      | 0, hy =>
        cases hy
        refine ⟨cc, rfl, fun v hv => ?_⟩
        cases hv
        exact ⟨.ref C, rfl, _, KX _ _ lcell, rfl⟩
  have I : Inv (ncx CX P w K mg base N (W.nf cc cda) f A outer s H E) [] (startF N vs [some (.ref C)]) H { s with heap := h₁, toks := s.toks + (ps.zip us).length } := inv_startN SC hr.hd e0 hl r CA hns kp
  obtain ⟨a, hv0, ha⟩ := hself _ _ _ _ hsp
  have hN : N[0]? = some ("self" : Str) := by
    have q := congrArg (fun l : List Str => l[0]?) SC.pre
    have pl : 0 < ps.length := (List.getElem?_eq_some_iff.mp hp0).1
    rw [List.getElem?_take_of_lt (by omega), List.getElem?_append_left pl] at q
    exact q.trans hp0
  have h0 : (startF N vs [some (.ref C)])[0]? = some (some (.ref a)) := by
    unfold startF
    have vl : 0 < vs.length := (List.getElem?_eq_some_iff.mp hv0).1
    rw [List.getElem?_append_left (by simpa using vl), List.getElem?_map, hv0]
    rfl
  obtain ⟨pl, hev⟩ := hev s.heap.objs.size
  obtain ⟨t, ht, hq⟩ := hbody A outer s H vs Q E (hr.deeper _) hsp
  show PySem.wpAt _ _ _ (execs W.body (envF (W.nf cc cda) f s.heap.objs.size)) _ _ _
  rw [hb]
  refine ks_wpAt_execs_cons ?_
  refine sup_stmt (X := ncx CX P w K mg base N (W.nf cc cda) f A outer s H E) (W := W) EB T S I rfl rfl rfl rfl hN h0 ha hev fun s' J => ?_
  refine wpAt_of_wpAny ?_
  refine wpAny_mono (ht.run [] s' (startF N vs [some (.ref C)]) H _ J hq) (fun fl s'' hs => ?_) fun e s'' hs => hs
  cases fl with
  | ret u =>
    obtain ⟨v, σ', H', J', rv, q⟩ := hs
    exact ⟨v, H', J'.os, J'.bare, J'.base, J'.hok, rv, q⟩
  | next =>
    obtain ⟨σ', H', J', q⟩ := hs
    exact ⟨V.non, H', J'.os, J'.bare, J'.base, J'.hok, rfl, q⟩
  | brk => exact hs.elim fun _ z => z.elim fun _ z => z.2.elim
  | cont => exact hs.elim fun _ z => z.elim fun _ z => z.2.elim
end
end Lw

set_option Elab.async false
set_option linter.all false
set_option maxRecDepth 100000
set_option maxHeartbeats 4000000
namespace Lw
open PySem PySem.Spec PyProof.Rows L2
section
variable {X : Cx} {pins : List (Addr × Obj)} {σ : L2.St} {H : Hp} {s : Shared} {a C dx : Addr} {f : Str} {y : V} {u : Value} {E : Value → Shared → Prop} {A : Around} {B newId initId : String} {tl : List Value}
/-- self.f = y, the first field of an exception -/
theorem ost_b (EB : ExB B newId initId tl) (T : ExcK X.K C tl newId) (I : Inv X pins σ H s) (e : H a = some (exo a C none)) (hno : PySem.W.findIn X.K (.ref C) f = some none) (ry : L2.RelV y u) {Q : Unit → Shared → Prop}
    (h : ∀ dx s', H dx = none → dx ≠ a → Inv X pins σ (upd (upd H dx (exd dx [(f, y)])) a (exo a C (some dx))) s' → Q () s') : wpAny (model X.prog X.w) A (setAttr (.ref a) f u) Q E s := by
  obtain ⟨cd, hcd, hdict, hmro⟩ := T.cls
  obtain ⟨t1, ho⟩ := exo_at I.hok e
  obtain ⟨hp, g, d, t, os⟩ := s
  refine PySem.W.set_plain I.kIn (ox := { cls := .ref C, dict := none, data := .fields #[.ref t1, .none, .none, .none, .bool false, .none] }) (od := none) ⟨ho, rfl, rfl, trivial⟩ T.sa ?_
  refine osa_b EB I.kIn ho hcd hmro hdict hno fun h' tk' dx k dn dne hx hn => ?_
  have hnd : H dx = none := I.hok.fresh dn
  have na : ∀ {b : Addr}, H b = none → b ≠ a := fun {b} n z => by
    rw [z, e] at n
    cases n
  have nd : ∀ {b : Addr} {o : Obj}, hp.get? b = some o → b ≠ dx := fun {b o} q => Nat.ne_of_lt (Nat.lt_of_lt_of_le (Heap.lt_size q) dn)
  have keepT : ∀ {b : Addr} {o : HO}, H b = some o → exo a C none ≠ o → upd (upd H dx (exd dx [(f, y)])) a (exo a C (some dx)) b = some o := fun {b o} q ne => by
    rw [upd_ne (at_ne e q ne), upd_ne (ne_of_none q hnd)]
    exact q
  have U : Un X.fs [] H (upd (upd H dx (exd dx [(f, y)])) a (exo a C (some dx))) hp h' := by
    refine ⟨fun b o q n _ _ => k b o (na n) q, fun b o q n _ _ => ⟨o.slots, k b o (na n) q⟩, fun b o q n _ => ?_, fun b o q _ => ?_, fun b xs q => keepT q exo_tup, fun b o v q => keepT q exo_frz, fun b ps q => ⟨#[], ?_⟩⟩
    · rw [upd_ne (na n), upd_ne (nd q)]
      exact n
    · by_cases hb : b = a
      · rw [hb]
        exact ⟨_, hx⟩
      · exact ⟨o, k b o hb q⟩
    · rw [keepT q exo_tbl]
      simp
  refine h dx _ hnd dne (I.un (t' := tk') U fun b o q => ?_)
  by_cases hb : b = a
  · subst hb
    rw [upd_same] at q
    cases q
    exact exo_ok hx
  · rw [upd_ne hb] at q
    by_cases hd : b = dx
    · subst hd
      rw [upd_same] at q
      cases q
      exact exd_ok hn (relO_put (fs := []) ry fun g => True.intro)
    · rw [upd_ne hd] at q
      refine (I.hok b o q).stay (fun c v hc z => k c v ?_ z) (fun c hc => keepT hc exo_own) fun c xs hc => keepT hc exo_tup
      rcases hc with hc | hc
      · rw [hc]
        exact hb
      · exact at_ne e hc exo_own
end
/-- self.f = e as the reading of a statement -/
def tOstB (K : PySem.W.Frag) (tl : List Value) (newId : String) (f : Str) (to te : TE) : TS := fun D σ H => te σ H fun y H1 => to σ H1 fun x H2 => ∃ a C : Addr, x = .ref a ∧ ExcK K C tl newId ∧ PySem.W.findIn K (.ref C) f = some none ∧
  H2 a = some (exo a C none) ∧ ∀ dx, H2 dx = none → dx ≠ a → D.nx σ (upd (upd H2 dx (exd dx [(f, y)])) a (exo a C (some dx)))
section
variable {X : Cx} {o e : Expr} {es : List Expr} {to te : TE} {ta : TA} {f : Str} {p p' pos : Pos} {B newId initId : String} {tl : List Value}
theorem ps_ostB (EB : ExB B newId initId tl) (ho : PE X o to) (he : PE X e te) (hs : swapsWith e (some (.Attribute o f p')) pos.line X.env = pure false := by rfl) : PS X (.Assign [.Attribute o f p'] e pos) (tOstB X.K tl newId f to te) := by
  constructor
  intro pins s σ H D I h
  refine plainObj_wpAny_Assign_Attribute (thn (he.run pins s σ H _ I h) fun v s1 hv => ?_) hs
  obtain ⟨y, H1, I1, r1, q1⟩ := hv
  refine thn (ho.run pins s1 σ H1 _ I1 q1) fun u s2 hu => ?_
  obtain ⟨x, H2, I2, r2, a, C, ex, T, hno, ea, q⟩ := hu
  subst ex
  cases (show u = Value.ref a from r2)
  exact ost_b EB T I2 ea hno r1 fun dx s' n ne J => ⟨σ, _, J, q dx n ne⟩
/-- C(e, ..) as what a raise makes -/
theorem pmk_b {CX : CXT} {x : Str} {C fI : Addr} {k : Nat} {fd : FuncData} {ps : List Str} {sp : Sp} (EB : ExB B newId initId tl) (T : ExcK X.K C tl newId) (iC : PySem.W.findIn X.K (.ref C) "__init__" = some (some (.ref fI))) (tI : PySem.W.typeIn X.K (.ref fI) = some (.type "function"))
    (F1 : FnOk X.prog X.w X.K X.mg X.base CX k fI fd ps sp) (hr : Room (k + 1) X.A) (hb : Binds X.K fd ps []) (hx : Passes CX X (fun _ _ _ => False)) (hm : X.mg x = some (.ref C)) (ha : PA X (e :: es) ta) (hg : Gl X x := by rfl)
    (hdb : (x == ("__debug__" : Str)) = false := by decide) (he : starEach (e :: es) X.env = (false, eval e X.env) :: starEach es X.env := by rfl) (hpl : (backTo pos (starEach es X.env)).any (fun q => q.1) = false := by rfl) :
    PMk X (.Call (.Name x p) (e :: es) [] pos) (tMkO C sp [] ta) := by
  intro pins s σ H Q I h
  refine wpAny_Call_Name_kw (ld_glob I hg hm (PySem.W.callWith_K (h₀ := X.base) I.ok.mod.kin T.kC (thn (ha.run pos pins s σ H _ I h) fun us s1 hu => ?_) he hpl) hdb)
  obtain ⟨vs, H1, I1, r1, hz, q1⟩ := hu
  refine ⟨I1.kIn, ?_⟩
  show wpAny _ _ (call (.ref C) us) _ _ _
  obtain ⟨nm, N', qn, bs, bm, hdct, sn, sub, ab, col, dd, k0, k1, k2, k3, k5, hC, hT⟩ := PySem.W.excInit_of I1.kIn T.ini
  obtain ⟨hp, g, dr, tk, os⟩ := s1
  generalize hA : hp.objs.size + 1 = A1
  have hsz : hp.objs.size ≤ A1 := by omega
  have hq := q1 A1 (I1.hok.fresh hsz)
  have kk : ∀ b o, hp.get? b = some o → ((hp.push (PySem.W.kdv_tup us)).push (HandSPX.excO C hp.objs.size)).get? b = some o := fun b o e => Heap.get?_push_of_some _ (Heap.get?_push_of_some _ e)
  have hget : ((hp.push (PySem.W.kdv_tup us)).push (HandSPX.excO C hp.objs.size)).get? A1 = some (HandSPX.excO C hp.objs.size) := by
    rw [← hA]
    heap_get
  have I2 : Inv X pins σ (upd H1 A1 (exo A1 C none)) ⟨(hp.push (PySem.W.kdv_tup us)).push (HandSPX.excO C hp.objs.size), g, dr, tk, os⟩ :=
    I1.laid (t' := tk) (a := A1) (o := exo A1 C none) (h' := (hp.push (PySem.W.kdv_tup us)).push (HandSPX.excO C hp.objs.size)) kk hsz (exo_ok hget)
  have r2 : Vals (V.ref A1 :: (vs ++ [])) (Value.ref A1 :: (us ++ [])) := .cons rfl (r1.append .nil)
  have hl : (Value.ref A1 :: us ++ []).length = ps.length := (r2.length.symm.trans (F1.len _ _ _ _ hq))
  have hus : us.length ≤ sizeLine := by
    rw [← Paired.length r1]
    exact Nat.le_of_lt (small1000 hz)
  refine wpAny_call (HandSPX.call_own EB.fb hT hC (PySem.W.looks_findIn I1.kIn iC) (fun self => PySem.W.bind_fn I1.kIn self tI) hus ?_)
  rw [hA]
  have hbd := hb ⟨(hp.push (PySem.W.kdv_tup us)).push (HandSPX.excO C hp.objs.size), g, dr, tk, os⟩ (Value.ref A1 :: us) I2.kIn hl
  rw [List.cons_append] at hbd
  refine codeAny_mono (F1.run _ X.stack _ _ ⟨Value.ref A1 :: us, []⟩ (Value.ref A1 :: (us ++ [])) _ _ (fun _ _ _ => False) (hr.make C us []) (I2.env0.make C us []) hbd r2 hq) fun r s' hq' => ?_
  match r, hq' with
  | .error er, hq' => exact hx pins σ _ _ er s' I2 hq'
  | .ok .next, hq' => exact False.elim hq'
  | .ok .brk, hq' => exact False.elim hq'
  | .ok .cont, hq' => exact False.elim hq'
  | .ok (.ret u), hq' =>
    obtain ⟨v, H2, os2, bare2, un2, hok2, rv, ev, d, fs, ea, ed, hd1, q2⟩ := hq'
    subst ev
    obtain ⟨h2, g2, d2, t2, os'⟩ := s'
    exact ⟨rv, mk_end (raises_own T.exC T.tyC) I1 hsz kk un2 hok2 os2 bare2 ea ed hd1 q2⟩
end
end Lw

set_option Elab.async false
set_option linter.all false
set_option maxRecDepth 100000
set_option maxHeartbeats 2000000
namespace Lw
open PySem PySem.Spec PyProof.Rows L2
/-! ## common divisors -/
theorem gcd_step (a b : Int) : Int.gcd b (a.fmod b) = Int.gcd a b := by
  rw [Int.fmod_def, Int.gcd_sub_mul_left_right, Int.gcd_comm]
theorem fmod_fall (a b : Int) (h : b ≠ 0) : (a.fmod b).natAbs < b.natAbs := by
  by_cases hb : 0 < b
  · have h1 := Int.fmod_lt_of_pos a hb
    have h2 := Int.fmod_nonneg_of_pos a hb
    omega
  · have hb' : 0 < -b := by omega
    have h1 := Int.fmod_lt_of_pos (-a) hb'
    have h2 := Int.fmod_nonneg_of_pos (-a) hb'
    rw [Int.neg_fmod_neg] at h1 h2
    omega
theorem fmod_le (a b : Int) (h : b ≠ 0) {n : Nat} (hb : b.natAbs < n) : (a.fmod b).natAbs < n := Nat.lt_trans (fmod_fall a b h) hb
theorem abs_if (a : Int) : (if a < 0 then -a else a) = (a.natAbs : Int) := by
  split <;> omega
theorem gcd_pos {n d : Int} (h : d ≠ 0) : 0 < Int.gcd n d := by
  refine Nat.pos_of_ne_zero fun e => ?_
  exact h (Int.gcd_eq_zero_iff.mp e).2
theorem gcd_le {n d : Int} (h : d ≠ 0) : Int.gcd n d ≤ d.natAbs := by
  have e : (Int.gcd n d) ∣ d.natAbs := Int.ofNat_dvd_left.mp (Int.gcd_dvd_right n d)
  exact Nat.le_of_dvd (by omega) e
/-- // by a divisor of some thousand digits, of either sign -/
def CDivG (_ j : Int) : Prop := j ≠ 0 ∧ j.natAbs < 2 ^ 1000
theorem op_fdivG {X : Cx} : OpR X (binaryOp .FloorDiv) (rI CDivG fun i j => .int (i.fdiv j)) := opI fun i j _ _ _ _ _ hc q =>
  floordiv_int hc.1 q (.inl (PyProof.noPylong_of_log2 (Nat.lt_of_lt_of_le (PySem.Flt.log2_lt_of (by decide) hc.2) (by decide))))
/-- the number of a numerator and a denominator other than 0, as data -/
def lowC (n d : Int) : Int := if d < 0 then -(Int.gcd n d : Int) else (Int.gcd n d : Int)
def lowD (n d : Int) : PyData := if d.fdiv (lowC n d) = 1 then .int (n.fdiv (lowC n d)) else .tuple [.int (n.fdiv (lowC n d)), .int (d.fdiv (lowC n d))]
theorem lowC_ne {n d : Int} (h : d ≠ 0) : lowC n d ≠ 0 := by
  have := gcd_pos (n := n) h
  unfold lowC
  split <;> omega
theorem lowC_le {n d : Int} (h : d ≠ 0) : (lowC n d).natAbs ≤ d.natAbs := by
  have := gcd_le (n := n) h
  unfold lowC
  split <;> omega
theorem lowC_dvd (n d : Int) : lowC n d ∣ n ∧ lowC n d ∣ d := by
  have h1 := Int.gcd_dvd_left n d
  have h2 := Int.gcd_dvd_right n d
  unfold lowC
  split
  · exact ⟨Int.neg_dvd.mpr h1, Int.neg_dvd.mpr h2⟩
  · exact ⟨h1, h2⟩
theorem fdiv_le {n c : Int} (hc : c ≠ 0) (h : c ∣ n) : (n.fdiv c).natAbs ≤ n.natAbs := by
  obtain ⟨k, rfl⟩ := h
  rw [Int.mul_fdiv_cancel_left _ hc, Int.natAbs_mul]
  exact Nat.le_mul_of_pos_left _ (by omega)
/-- the same by a law's own words: the denominator is made positive first -/
def ratN (n d : Int) : Int := if d < 0 then -n else n
def ratL (d : Int) : Int := if d < 0 then -d else d
def ratD (n d : Int) : PyData := if ratL d = (Int.gcd (ratN n d) (ratL d) : Int) then .int ((ratN n d).fdiv (Int.gcd (ratN n d) (ratL d) : Int)) else .tuple [.int ((ratN n d).fdiv (Int.gcd (ratN n d) (ratL d) : Int)), .int ((ratL d).fdiv (Int.gcd (ratN n d) (ratL d) : Int))]
theorem rat_gcd (n d : Int) : Int.gcd (ratN n d) (ratL d) = Int.gcd n d := by
  unfold ratN ratL
  split
  · rw [Int.gcd_neg, Int.neg_gcd]
  · rfl
theorem rat_div {n d : Int} (h : d ≠ 0) : (ratN n d).fdiv (Int.gcd n d : Int) = n.fdiv (lowC n d) ∧ (ratL d).fdiv (Int.gcd n d : Int) = d.fdiv (lowC n d) := by
  have hp := gcd_pos (n := n) h
  have hg : (Int.gcd n d : Int) ≠ 0 := by omega
  obtain ⟨x, hx⟩ := Int.gcd_dvd_left n d
  obtain ⟨y, hy⟩ := Int.gcd_dvd_right n d
  generalize hG : (Int.gcd n d : Int) = G at *
  have hC : lowC n d = if d < 0 then -G else G := by
    unfold lowC
    rw [hG]
  unfold ratN ratL
  rw [hC]
  by_cases hd : d < 0
  · rw [if_pos hd, if_pos hd, if_pos hd]
    have n1 : -n = G * -x := by rw [hx, Int.mul_neg]
    have d1 : -d = G * -y := by rw [hy, Int.mul_neg]
    have n2 : n = -G * -x := by rw [hx, Int.neg_mul_neg]
    have d2 : d = -G * -y := by rw [hy, Int.neg_mul_neg]
    have e1 : (-n).fdiv G = -x := by rw [n1, Int.mul_fdiv_cancel_left _ hg]
    have e2 : (-d).fdiv G = -y := by rw [d1, Int.mul_fdiv_cancel_left _ hg]
    have e3 : n.fdiv (-G) = -x := by
      rw [n2]
      exact Int.mul_fdiv_cancel_left _ (by omega)
    have e4 : d.fdiv (-G) = -y := by
      rw [d2]
      exact Int.mul_fdiv_cancel_left _ (by omega)
    rw [e1, e2, e3, e4]
    exact ⟨rfl, rfl⟩
  · rw [if_neg hd, if_neg hd, if_neg hd]
    exact ⟨rfl, rfl⟩
theorem ratD_eq {n d : Int} (h : d ≠ 0) : ratD n d = lowD n d := by
  have hp := gcd_pos (n := n) h
  obtain ⟨e1, e2⟩ := rat_div (n := n) h
  unfold ratD lowD
  rw [rat_gcd, e1, e2]
  have key : (ratL d = (Int.gcd n d : Int)) ↔ (d.fdiv (lowC n d) = 1) := by
    rw [← e2]
    have hv : (Int.gcd n d : Int) ∣ ratL d := by
      unfold ratL
      split
      · exact Int.dvd_neg.mpr (Int.gcd_dvd_right n d)
      · exact Int.gcd_dvd_right n d
    obtain ⟨k, hk⟩ := hv
    rw [hk, Int.mul_fdiv_cancel_left _ (by omega)]
    constructor
    · intro q
      have q2 : (Int.gcd n d : Int) * k = (Int.gcd n d : Int) * 1 := by rw [q, Int.mul_one]
      exact Int.eq_of_mul_eq_mul_left (by omega) q2
    · rintro rfl
      rw [Int.mul_one]
  by_cases c : d.fdiv (lowC n d) = 1
  · rw [if_pos (key.mpr c), if_pos c]
  · rw [if_neg (fun q => c (key.mp q)), if_neg c]
/-! ## new data -/
/-- what H' has and H has not -/
def nw (H H' : Hp) : Hp := fun b => match H b with
  | some _ => none
  | none => H' b
theorem nw_at {H H' : Hp} {b : Addr} (h : H b = none) : nw H H' b = H' b := by
  unfold nw
  rw [h]
theorem nw_get {H H' : Hp} {b : Addr} {o : HO} (h : nw H H' b = some o) : H b = none ∧ H' b = some o := by
  cases e : H b with
  | none =>
    rw [nw_at e] at h
    exact ⟨rfl, h⟩
  | some u =>
    unfold nw at h
    rw [e] at h
    cases h
/-- data that lie in what is new -/
def Fresh (K : PySem.W.Frag) (H H' : Hp) (v : V) (d : PyData) : Prop := Dq K (nw H H') v d
theorem nw_same {H H' : Hp} : Same (nw H H') H' := fun _ _ h => (nw_get h).2
theorem nw_off {H H' : Hp} {a : Addr} (h : H a ≠ none) : Same (nw H H') (off H' a) := fun b o g => by
  obtain ⟨h1, h2⟩ := nw_get g
  have n : b ≠ a := fun e => by
    rw [e] at h1
    exact h h1
  rw [off_ne n]
  exact h2
theorem nw_mono {H H1 H' H2 : Hp} (s : ∀ b, H1 b = none → H b = none) (t : ∀ b o, H1 b = none → H' b = some o → H2 b = some o) : Same (nw H1 H') (nw H H2) := fun b o g => by
  obtain ⟨h1, h2⟩ := nw_get g
  rw [nw_at (s b h1)]
  exact t b o h1 h2
theorem same_none {H H' : Hp} (s : Same H H') : ∀ b, H' b = none → H b = none := fun b h => s.free h
theorem Fresh.dq {K : PySem.W.Frag} {H H' : Hp} {v : V} {d : PyData} (h : Fresh K H H' v d) : Dq K H' v d := Dq.same nw_same h
theorem Fresh.away {K : PySem.W.Frag} {H H' : Hp} {v : V} {d : PyData} {a : Addr} (h : Fresh K H H' v d) (ha : H a ≠ none) : Dq K (off H' a) v d := Dq.same (nw_off ha) h
theorem Fresh.later {K : PySem.W.Frag} {H H' H2 : Hp} {v : V} {d : PyData} (h : Fresh K H H' v d) (s : Same H' H2) : Fresh K H H2 v d := Dq.same (nw_mono (fun _ e => e) fun b o _ e => s b o e) h
theorem Fresh.sooner {K : PySem.W.Frag} {H H0 H' : Hp} {v : V} {d : PyData} (h : Fresh K H H' v d) (s : Same H0 H) : Fresh K H0 H' v d := Dq.same (nw_mono (same_none s) fun b o _ e => e) h
mutual
def slim : PyData → Bool
  | .list xs => decide (xs.length ≤ 900) && slimAll xs
  | .tuple xs => decide (xs.length ≤ 900) && slimAll xs
  | _ => true
def slimAll : List PyData → Bool
  | [] => true
  | x :: xs => slim x && slimAll xs
end
theorem slim_at : ∀ {ds : List PyData} {d : PyData}, slimAll ds = true → d ∈ ds → slim d = true
  | [], _, _, h => nomatch h
  | x :: xs, d, h, hd => by
    have h' : (slim x && slimAll xs) = true := by simpa only [slimAll] using h
    rw [Bool.and_eq_true] at h'
    rcases List.mem_cons.mp hd with rfl | hd
    · exact h'.1
    · exact slim_at h'.2 hd
theorem depth_at : ∀ {ds : List PyData} {d : PyData}, d ∈ ds → d.depth ≤ PyData.depthAll ds
  | [], _, h => nomatch h
  | x :: xs, d, hd => by
    simp only [PyData.depthAll]
    rcases List.mem_cons.mp hd with rfl | hd
    · omega
    · have := depth_at (ds := xs) hd
      omega
theorem dqall_snoc {K : PySem.W.Frag} {H : Hp} : ∀ {vs : List V} {ds : List PyData} {v : V} {d : PyData}, DqAll K H vs ds → Dq K H v d → DqAll K H (vs ++ [v]) (ds ++ [d])
  | _, _, _, _, .nil, h => .cons h .nil
  | _, _, _, _, .cons h g, q => .cons h (dqall_snoc g q)
theorem dq_get {K : PySem.W.Frag} {H : Hp} : ∀ {vs : List V} {ds : List PyData} {i : Nat} {v : V}, DqAll K H vs ds → vs[i]? = some v → ∃ d, ds[i]? = some d ∧ Dq K H v d
  | _, _, _, _, .nil, e => by simp at e
  | _, _, 0, _, .cons h _, e => by
    simp at e
    subst e
    exact ⟨_, rfl, h⟩
  | _, _, i + 1, v, .cons _ g, e => by
    obtain ⟨d, h1, h2⟩ := dq_get g (i := i) (v := v) (by simpa using e)
    exact ⟨d, by simpa using h1, h2⟩
theorem dq_len {K : PySem.W.Frag} {H : Hp} : ∀ {vs : List V} {ds : List PyData}, DqAll K H vs ds → vs.length = ds.length
  | _, _, .nil => rfl
  | _, _, .cons _ g => congrArg Nat.succ (dq_len g)
end Lw

set_option Elab.async false
set_option linter.all false
set_option maxRecDepth 100000
set_option maxHeartbeats 2000000
namespace Lw
open PySem PySem.Spec PyProof.Rows L2
/-! ### what is shown -/
def shl (ts : List Str) : Nat := (ts.map fun t => t.length + 2).sum
theorem textFrom_le : ∀ (ts : List Str) (k : Nat) (acc : Str), (textFrom k acc ts).length ≤ acc.length + shl ts
  | [], k, acc => by
    show acc.length ≤ acc.length + _
    omega
  | t :: r, k, acc => by
    have ih := textFrom_le r (k + 1) (acc ++ (if k > 0 then ", " else "" : String) ++ t)
    have e : (acc ++ (if k > 0 then ", " else "" : String) ++ t).length ≤ acc.length + 2 + t.length := by
      rw [strLen_append, strLen_append]
      have : ((if k > 0 then ", " else "" : String) : Str).length ≤ 2 := by
        split <;> decide
      omega
    have e2 : shl (t :: r) = t.length + 2 + shl r := by
      unfold shl
      rw [List.map_cons, List.sum_cons]
    show (textFrom (k + 1) (acc ++ (if k > 0 then ", " else "" : String) ++ t) r).length ≤ _
    omega
theorem len_list (ts : List Str) : (listText ts).length ≤ 2 + shl ts := by
  have h := textFrom_le ts 0 "["
  unfold listText
  rw [strLen_append]
  have e1 : ("[" : Str).length = 1 := rfl
  have e2 : ("]" : Str).length = 1 := rfl
  omega
theorem len_tup2 (a b : Str) : (tupleText [a, b]).length = a.length + b.length + 4 := by
  show (("(" : Str) ++ (a ++ (", " : String) ++ b) ++ (")" : String)).length = _
  simp only [strLen_append]
  show 1 + (a.length + 2 + b.length) + 1 = _
  omega
theorem shown_all : ∀ (ds : List PyData), PyData.shownAll ds = ds.map PyData.shown
  | [] => rfl
  | d :: ds => by
    show d.shown :: PyData.shownAll ds = _
    rw [shown_all ds]
    rfl
theorem small_list {n : Nat} : ∀ {ds : List PyData}, (∀ d ∈ ds, Small n d ∧ d.depth ≤ 8) → Small (2 + ds.length * (n + 2)) (.list ds) := by
  intro ds h
  have h1 : ∀ ds : List PyData, (∀ d ∈ ds, Small n d ∧ d.depth ≤ 8) → PyData.showableAll ds = true ∧ shl (ds.map PyData.shown) ≤ ds.length * (n + 2) ∧ PyData.depthAll ds ≤ 8 := by
    intro ds
    induction ds with
    | nil => exact fun _ => ⟨rfl, Nat.zero_le _, Nat.zero_le _⟩
    | cons d ds ih =>
      intro h
      obtain ⟨i1, i2, i3⟩ := ih fun x hx => h x (List.mem_cons_of_mem _ hx)
      obtain ⟨j1, j2⟩ := h d List.mem_cons_self
      refine ⟨?_, ?_, ?_⟩
      · show (d.showable && PyData.showableAll ds) = true
        rw [j1.sh, i1]
        rfl
      · have e : shl ((d :: ds).map PyData.shown) = d.shown.length + 2 + shl (ds.map PyData.shown) := by
          unfold shl
          rw [List.map_cons, List.map_cons, List.sum_cons]
        have := j1.ln
        rw [e, List.length_cons, Nat.succ_mul]
        omega
      · simp only [PyData.depthAll]
        omega
  obtain ⟨a, b, c⟩ := h1 ds h
  refine ⟨a, ?_, ?_⟩
  · show (listText (PyData.shownAll ds)).length ≤ _
    rw [shown_all]
    have := len_list (ds.map PyData.shown)
    omega
  · simp only [PyData.depth]
    omega
theorem small_tup2 {a b : PyData} {n : Nat} (h1 : Small n a) (h2 : Small n b) (d1 : a.depth ≤ 8) (d2 : b.depth ≤ 8) : Small (2 * n + 4) (.tuple [a, b]) := by
  refine ⟨?_, ?_, ?_⟩
  · have e1 := h1.sh
    have e2 := h2.sh
    simp [PyData.showable, PyData.showableAll, e1, e2]
  · show (tupleText [a.shown, b.shown]).length ≤ _
    rw [len_tup2]
    have e1 := h1.ln
    have e2 := h2.ln
    omega
  · simp only [PyData.depth, PyData.depthAll]
    omega
theorem Small.line {n : Nat} {d : PyData} (h : Small n d) (e : n ≤ 100000) : d.showable = true ∧ d.shown.length ≤ sizeLine ∧ d.depth ≤ 60 :=
  ⟨h.sh, Nat.le_trans h.ln (Nat.le_trans e (by decide)), Nat.le_trans h.dp (by decide)⟩
end Lw

set_option Elab.async false
set_option linter.all false
set_option maxRecDepth 100000
set_option maxHeartbeats 4000000
namespace Lw
open PySem PySem.Spec PyProof.Rows L2
section
open PySem.W
variable {K : Frag} {x D : Addr} {ox : Obj} {od : Option Obj}
theorem find_data {C : Addr} {name : Str} {a g : Value} (hc : (clsIn K C).isSome = true) (ha : findIn K (.ref C) name = some (some a)) (hg : specialIn K a "__get__" = some (some g)) (ht : takesIn K a = some true) : findObj K C od name = some (.bind g a) := by
  cases od with
  | none => exact findObj_dataN hc ha hg ht
  | some o => exact findObj_data hc ha hg ht
/-- the class of an exception, whatever its dict -/
theorem class_exc (T : ExcC K D) {prog : Program} {w : World} {A : Around} {E : Value → Shared → Prop} {Q : Option Value → Shared → Prop} {s : Shared} (X : K.In s.heap) (I : InstAt s.heap x ox D od)
    (h : Q (some (.ref D)) { s with toks := s.toks + 1 }) : wpAny (model prog w) A (getAttr? (.ref x) "__class__") Q E s := by
  have hsome : (clsIn K D).isSome = true := by
    obtain ⟨cd, hc, _⟩ := any_some T.hd
    rw [hc]
    rfl
  have hf : findObj K D od "__class__" = some (.bind (.builtin "getset_descriptor.__get__") (.builtin "object.__class__")) := find_data hsome T.ha T.hn T.ht
  obtain ⟨hp, g, d, t, os⟩ := s
  have L0 := I.type (M := model prog w)
  have LG := looks_findIn (M := model prog w) X T.hg
  have LK := looks_findIn (M := model prog w) X T.hk
  have LF := looks_find (M := model prog w) X I hf
  have sub : Looks (model prog w) hp (isInstance (.ref x) (.type "BaseException")) true := L0.andThen (looks_subIn X T.hs)
  have n1 : (Value.builtin "BaseException.__getattribute__" == Value.builtin "object.__getattribute__") = false := by decide +kernel
  have n2 : (onTheHeap (Value.ref D) && Value.builtin "BaseException.__getattribute__" == Value.builtin "object.__getattribute__") = false := by
    rw [n1]
    rfl
  have n3 : (false && onTheHeap (Value.builtin "BaseException.__getattribute__")) = false := rfl
  unfold getAttr? getAttrBy? getAttrBy
  refine wpAny_bind (wpAny_mkText (wpAny_bind (wpAny_attempt (wpAny_holding (wpAny_bind (L0.at (wpAny_bind (LG.at ?_))))))))
  show wpAny _ _ (if (onTheHeap (Value.ref D) && Value.builtin "BaseException.__getattribute__" == Value.builtin "object.__getattribute__") = true then _ else _) _ _ _
  rw [n2, if_neg Bool.false_ne_true]
  unfold getAttrByItsOwn hookBefore
  refine wpAny_bind ?_
  rw [if_pos (show onTheHeap (Value.ref D) = true from rfl)]
  refine LK.at (wpAny_bind (wpAny_attempt (wpAny_holding ?_)))
  unfold callGetattribute
  rw [n3, if_neg Bool.false_ne_true]
  unfold boundAndCalled
  rw [PySem.F.excAttr_ValueError.ga.bind (.ref x)]
  refine wpAny_bind (wpAny_pure ?_)
  show wpAny _ _ (call (.builtin "BaseException.__getattribute__") [.ref x, .str "__class__" t]) _ _ _
  refine wpAny_call (codeAny_call_builtin PySem.F.excAttr_ValueError.ga.plain PySem.F.entry_bexc_ga ?_)
  refine @check_slot (model prog w) _ _ ⟨hp, g, d, t + 1, os⟩ "BaseException.__getattribute__" "BaseException" "__getattribute__" (.ref x) [.str "__class__" t] [] _ (by decide +kernel) (by decide +kernel) sub (PySem.F.args_bexc_ga (.ref x) (.str "__class__" t)) ?_
  unfold Builtin.«object.__getattribute__»
  refine wpAny_bind (wpAny_of_eq (a := ((Value.ref x : Value), [Value.str "__class__" t])) (by first | rfl | (simp only [slotArgs]; rfl)) ?_)
  refine wpAny_bind (wpAny_pure (wpAny_bind (L0.at (wpAny_bind (LF.at ?_)))))
  show wpAny _ _ (holding [Value.builtin "object.__class__"] (call (.builtin "getset_descriptor.__get__") [.builtin "object.__class__", .ref x, .ref D]) >>= ret) _ _ _
  refine wpAny_bind (wpAny_holding (wpAny_call (class_get (s := ⟨hp, g, d, t + 1, os⟩) (ox := ox) (od := od) X I T.hm ?_)))
  refine wpAny_pure ?_
  show wpAny _ _ (handedOut (.ref D)) _ _ _
  rw [handedOut_of (v := .ref D) rfl]
  first
    | exact wpAny_pure (wpAny_pure h)
    | exact wpAny_pure h
    | exact wpAny_pure (wpAny_bind (wpAny_pure (wpAny_pure h)))
theorem kit_exc (T : ExcC K D) : KitX K (.ref x) (.ref D) (fun h => InstAt h x ox D od) where
  ty := fun _ _ _ I => I.type
  it := fun _ _ X _ => by
    obtain ⟨cd, hc, _⟩ := any_some T.hd
    unfold clsIn at hc
    split at hc
    · rename_i c' d' cd' sl' ho
      intro A' Q' E' s' k q
      unfold isType loadHead
      exact wpAny_bind (wpAny_loadPart (k _ _ (X _ _ ho)) (wpAny_pure q))
    · cases hc
  ne := fun h tp dd its n sl X htp => by
    obtain ⟨cd, hc, _⟩ := any_some T.hd
    refine Bool.eq_false_iff.mpr fun q => ?_
    cases Value.ref.inj (beq_iff_eq.mp q)
    unfold clsIn at hc
    split at hc
    · rename_i c' d' cd' sl' ho
      have z := (X _ _ ho).symm.trans htp
      cases z
    · cases hc
  ca := fun X I k => class_exc T X I k
end
def excB (K : PySem.W.Frag) (D : Addr) : Bool :=
  decide (PySem.W.findIn K (.ref D) "__getattribute__" = some (some (.builtin "BaseException.__getattribute__"))) && (decide (PySem.W.findIn K (.ref D) "__getattr__" = some none) && (decide (PySem.W.subIn K (.ref D) (.type "BaseException") = some true) &&
    (PySem.W.hasDictIn K D && (decide (PySem.W.findIn K (.ref D) "__class__" = some (some (.builtin "object.__class__"))) && (decide (PySem.W.specialIn K (.builtin "object.__class__") "__get__" = some (some (.builtin "getset_descriptor.__get__"))) &&
      (decide (PySem.W.takesIn K (.builtin "object.__class__") = some true) && decide (PySem.W.mroIn K D (.type "object") = some true)))))))
theorem excB_ok {K : PySem.W.Frag} {D : Addr} (h : excB K D = true) : ExcC K D := by
  unfold excB at h
  simp only [Bool.and_eq_true, decide_eq_true_eq] at h
  obtain ⟨h1, h2, h3, h4, h5, h6, h7, h8⟩ := h
  exact ⟨h1, h2, h3, h4, h5, h6, h7, h8⟩
/-- isinstance(e, c), e the exception with a dict that the suite holds -/
def rIsX (K : PySem.W.Frag) (a : Addr) (cls : Value) (d : Option Addr) : List V → Hp → VK → Prop := fun xs H Q =>
  ∃ (D dx : Addr) (c : V) (cv : Value) (b : Bool) (fs : List (Str × V)), cls = .ref D ∧ d = some dx ∧ ExcC K D ∧ xs = [.ref a, c] ∧ ClsV c cv ∧ PySem.W.kitOne K (.ref D) cv = some b ∧ H dx = some (.xd fs) ∧ Q (.bl b) H
/-- isinstance(e, (c, ..)) -/
def rIsXT (K : PySem.W.Frag) (a : Addr) (cls : Value) (d : Option Addr) : List V → Hp → VK → Prop := fun xs H Q =>
  ∃ (D dx tp : Addr) (cs : List V) (us : List Value) (b : Bool) (fs : List (Str × V)), cls = .ref D ∧ d = some dx ∧ ExcC K D ∧ xs = [.ref a, .ref tp] ∧ H tp = some (.tup cs) ∧ Paired ClsV cs us ∧ PySem.W.kitAny K (.ref D) us = some b ∧ H dx = some (.xd fs) ∧ Q (.bl b) H
section
variable {X : Cx} {a : Addr} {oe : Obj} {cls : Value} {d : Option Addr} {pn : List (Addr × Obj)}
theorem inst_of {pins : List (Addr × Obj)} {σ : L2.St} {H : Hp} {s : Shared} {D dx : Addr} {fs : List (Str × V)} (I : Inv (X.suite a ((a, oe) :: pn)) pins σ H s) (hz : Zc (.ref D) (some dx) oe) (hf : ∃ vs, oe.data = .fields vs) (hx : H dx = some (.xd fs)) :
    ∃ od, PySem.W.InstAt s.heap a oe D (some od) := by
  obtain ⟨hget, _⟩ := I.pin (a, oe) (List.mem_append_left _ List.mem_cons_self)
  obtain ⟨mA, ⟨o, es, ep, ho, _⟩, _⟩ := (show ObjOk X.prog X.w H s.heap dx (.xd fs) from I.hok dx _ hx)
  obtain ⟨vs, hv⟩ := hf
  refine ⟨o, hget, hz.1, ?_, ?_⟩
  · unfold PySem.W.notCls
    rw [hv] <;> rfl
  · rw [hz.2]
    exact ho
theorem call_isX (hz : Zc cls d oe) (hf : ∃ vs, oe.data = .fields vs) : CallR (X.suite a ((a, oe) :: pn)) (.builtin "isinstance") (rIsX X.K a cls d) := by
  intro pins s σ H xs us Q I r h
  obtain ⟨D, dx, c, cv, b, fs, rfl, rfl, T, rfl, hc, e, hx, q⟩ := h
  obtain ⟨u1, u2, rfl, r1, r2⟩ := vals2 r
  cases (show u1 = Value.ref a from r1)
  cases hc.eq r2
  obtain ⟨od, J⟩ := inst_of I hz hf hx
  exact PySem.W.kia_one (kit_exc T) I.kIn J e (fun z => nomatch z) fun tk => ⟨.bl b, H, I.tok tk, rfl, q⟩
theorem call_isXT (hz : Zc cls d oe) (hf : ∃ vs, oe.data = .fields vs) : CallR (X.suite a ((a, oe) :: pn)) (.builtin "isinstance") (rIsXT X.K a cls d) := by
  intro pins s σ H xs us Q I r h
  obtain ⟨D, dx, tp, cs, ws, b, fs, rfl, rfl, T, rfl, hT, k, e, hx, q⟩ := h
  obtain ⟨u1, u2, rfl, r1, r2⟩ := vals2 r
  cases (show u1 = Value.ref a from r1)
  cases (show u2 = Value.ref tp from r2)
  obtain ⟨od, J⟩ := inst_of I hz hf hx
  obtain ⟨_, its, rv, o, h1, h2, n, h3⟩ := (show ObjOk X.prog X.w H s.heap tp (.tup cs) from I.hok tp _ hT)
  cases ClsV.all k rv
  obtain ⟨oc, odd, dt, sl⟩ := o
  simp only at h2 h3
  subst h2 h3
  exact PySem.W.kia_tup (kit_exc T) I.kIn J h1 e (fun z => nomatch z) fun tk => ⟨.bl b, H, I.tok tk, rfl, q⟩
end
/-- an own def that may raise, called in a try -/
structure OwnX (P : Program) (w : World) (K : PySem.W.Frag) (mg : Str → Option Value) (base : Heap) (k : Nat) (x : Str) (ps : List Str) (sp : Sp) (f : Addr) (fd : FuncData) : Prop where
  ok : FnOk P w K mg base (L2.CX P w) k f fd ps sp
  m : mg x = some (.ref f)
  kp : PySem.W.keepIn K (.ref f) = true
/-- a class of exceptions with its own __init__ -/
structure OwnE (P : Program) (w : World) (K : PySem.W.Frag) (mg : Str → Option Value) (base : Heap) (k : Nat) (x : Str) (ps : List Str) (sp : Sp) (C fI : Addr) (fd : FuncData) (tl : List Value) (newId : String) : Prop where
  t : ExcK K C tl newId
  i : PySem.W.findIn K (.ref C) "__init__" = some (some (.ref fI))
  ti : PySem.W.typeIn K (.ref fI) = some (.type "function")
  ok : FnOk P w K mg base CX0 k fI fd ps sp
  b : Binds K fd ps []
  m : mg x = some (.ref C)
theorem pmk_e {X : Cx} {k : Nat} {x : Str} {ps : List Str} {sp : Sp} {C fI : Addr} {fd : FuncData} {B newId initId : String} {tl : List Value} {e : Expr} {es : List Expr} {ta : TA} {p pos : Pos} (EB : ExB B newId initId tl) (O : OwnE X.prog X.w X.K X.mg X.base k x ps sp C fI fd tl newId) (hr : Room (k + 1) X.A) (ha : PA X (e :: es) ta)
    (hg : Gl X x := by rfl) (hdb : (x == ("__debug__" : Str)) = false := by decide) (he : starEach (e :: es) X.env = (false, eval e X.env) :: starEach es X.env := by rfl) (hpl : (backTo pos (starEach es X.env)).any (fun q => q.1) = false := by rfl) :
    PMk X (.Call (.Name x p) (e :: es) [] pos) (tMkO C sp [] ta) := pmk_b EB O.t O.i O.ti O.ok hr O.b pass0 O.m ha hg hdb he hpl
end Lw

set_option Elab.async false
set_option linter.all false
set_option maxRecDepth 100000
set_option maxHeartbeats 4000000
namespace Lw
open PySem PySem.Spec PyProof.Rows L2
/-! ## the head's facts: defs, classes of exceptions with an own __init__, one more Bool -/
/-- the `__init__` of the class that a name of the module stands for -/
structure IniD where
  cls : Str
  w : IniW
  B : String
  newId : String
  initId : String
abbrev IniV : Type := Option (Str × Str × Arguments × FuncBody × Scope × Addr × List Str × Value × Value × Option Addr × Addr)
def iniAt (K : PySem.W.Frag) (d : IniD) : Addr := He.ma K (He.ga K d.cls) "__init__"
def iniObs (K : PySem.W.Frag) (d : IniD) : IniV := match K.lookup (iniAt K d) with
  | some ⟨_, _, .func fd, _⟩ => some (fd.name, fd.qualname, fd.params, fd.body, fd.scope, fd.globals, fd.closure.map (fun q => q.1), fd.defaults, fd.kwdefaults, fd.annotations, fd.builtins)
  | _ => none
def IniD.val (d : IniD) : IniV := some (d.w.name, d.w.qual, d.w.params, .stmts d.w.body, d.w.scope, mainGlobals, [("__class__" : Str)], .none, .none, none, builtinsNs)
def fileB (K : PySem.W.Frag) (file : Str) (v : Value) : Bool := match v with
  | .ref c => (match K.lookup c with
    | some ⟨_, _, .fields vs, _⟩ => (match (vs[2]? : Option Value) with
      | some (.str x _) => file == x
      | _ => false)
    | _ => false)
  | _ => false
def cellB (K : PySem.W.Frag) (C : Addr) (cl : List (Str × Addr)) : Bool := match cl with
  | [(_, cc)] => (match K.lookup cc with
    | some ⟨_, _, .cell (some (.ref D)), _⟩ => decide (D = C)
    | _ => false)
  | _ => false
/-- what is asked of the class and its __init__, as one Bool -/
def iniB (K : PySem.W.Frag) (file : Str) (d : IniD) : Bool :=
  (match K.lookup (iniAt K d) with
  | some ⟨_, _, .func fd, _⟩ => PySem.W.codeIn K fd.code d.w.qual && (fileB K file fd.code && cellB K (He.ga K d.cls) fd.closure)
  | _ => false) && (clsB K (He.ga K d.cls) (tlOf d.B) d.newId && (He.eqO (PySem.W.nsIn K cStatics "thirdparty.any") (some none) && (He.eqO (PySem.W.ks_superIn K (He.ga K d.cls) (He.ga K d.cls) "__init__") (some (some (.builtin d.initId))) &&
    (decide (PySem.W.subIn K (.ref (He.ga K d.cls)) (.type d.B) = some true) && (decide (PySem.W.mroIn K (He.ga K d.cls) (.ref (He.ga K d.cls)) = some true) &&
      (He.eqO (PySem.W.findIn K (.ref (He.ga K d.cls)) "__init__") (some (some (.ref (iniAt K d)))) && (decide (PySem.W.typeIn K (.ref (iniAt K d)) = some (.type "function")) && He.eqO (PySem.W.nsIn K mainGlobals d.cls) (some (some (.ref (He.ga K d.cls)))))))))))
/-- what of it the words alone say -/
structure IniF (P : Program) (d : IniD) : Prop where
  top : (P.main.scope.names.lookup ("super" : Str)).isSome = false
  self : (d.w.params.posonlyargs ++ d.w.params.args).head?.map (fun a => a.arg) = some "self"
  kind : d.w.scope.kind = .function
  ksup : d.w.scope.names.lookup ("super" : Str) = some .globalImplicit
  kcls : d.w.scope.names.lookup ("__class__" : Str) = some .free
  kself : d.w.scope.names.lookup ("self" : Str) = some .local
theorem fileB_ok {K : PySem.W.Frag} {file : Str} {v : Value} (h : fileB K file v = true) : ∃ c, v = .ref c ∧ ∃ (ccl : Value) (cdd : Option Addr) (vs : Array Value) (ccs : Array (Option Value)) (x : Str) (tf : Tok), K.lookup c = some ⟨ccl, cdd, .fields vs, ccs⟩ ∧ vs[2]? = some (.str x tf) ∧ (file == x) = true := by
  unfold fileB at h
  split at h
  · rename_i c
    split at h
    · rename_i ccl cdd vs ccs e
      split at h
      · rename_i x tf e2
        exact ⟨c, rfl, ccl, cdd, vs, ccs, x, tf, e, e2, h⟩
      · cases h
    · cases h
  · cases h
theorem cellB_ok {K : PySem.W.Frag} {C : Addr} {cl : List (Str × Addr)} (h : cellB K C cl = true) : ∃ x cc, cl = [(x, cc)] ∧ ∃ (a : Value) (b : Option Addr) (c : Array (Option Value)), K.lookup cc = some ⟨a, b, .cell (some (.ref C)), c⟩ := by
  unfold cellB at h
  split at h
  · rename_i x cc
    split at h
    · rename_i a b D c e
      cases of_decide_eq_true h
      exact ⟨x, cc, rfl, a, b, c, e⟩
    · cases h
  · cases h
/-- the class and its __init__, as they stand -/
structure IniR (P : Program) (K : PySem.W.Frag) (mg : Str → Option Value) (d : IniD) (C f : Addr) (fd : FuncData) : Prop where
  t : ExcK K C (tlOf d.B) d.newId
  s : ∃ cc cda, IniK P K mg d.w f cc cda C d.B d.initId
  i : PySem.W.findIn K (.ref C) "__init__" = some (some (.ref f))
  ti : PySem.W.typeIn K (.ref f) = some (.type "function")
  lk : ∃ (oc : Value) (od : Option Addr) (osl : Array (Option Value)), K.lookup f = some ⟨oc, od, .func fd, osl⟩
  m : mg d.cls = some (.ref C)
  b : ∃ (cl : List (Str × Addr)) (doc pm cdv ct : Value), fd = PySem.W.fnX d.w.name d.w.qual d.w.params d.w.body d.w.scope cl .none .none doc pm none cdv ct
theorem ini_of {P : Program} {K : PySem.W.Frag} {mg : Str → Option Value} {h : Heap} {d : IniD} (X : K.In h) (G : h.Ns mainGlobals mg) (sup : mg "super" = none) (F : IniF P d) (e : iniObs K d = d.val) (c : iniB K (P.main.file : Str) d = true) : ∃ fd, IniR P K mg d (He.ga K d.cls) (iniAt K d) fd := by
  unfold iniB at c
  simp only [Bool.and_eq_true] at c
  obtain ⟨c1, c2, c3, c4, c5, c6, c7, c8, c9⟩ := c
  unfold iniObs at e
  cases q : K.lookup (iniAt K d) with
  | none =>
    rw [q] at c1
    cases c1
  | some o =>
    obtain ⟨oc, od, dt, osl⟩ := o
    rw [q] at c1 e
    cases dt with
    | func fd =>
      obtain ⟨n1, n2, n3, n4, n5, n6, n7, n8, n9, n10, n11, n12, n13, n14, n15⟩ := fd
      have e2 : (some (n1, n2, n3, n4, n5, n6, n7.map (fun q => q.1), n8, n9, n12, n15) : IniV) = some (d.w.name, d.w.qual, d.w.params, .stmts d.w.body, d.w.scope, mainGlobals, [("__class__" : Str)], .none, .none, none, builtinsNs) := e
      simp only [Option.some.injEq, Prod.mk.injEq] at e2
      obtain ⟨h1, h2, h3, h4, h5, h6, h7, h8, h9, h10, h11⟩ := e2
      subst h1 h2 h3 h4 h5 h6 h8 h9 h10 h11
      have c1' : (PySem.W.codeIn K n13 d.w.qual && (fileB K (P.main.file : Str) n13 && cellB K (He.ga K d.cls) n7)) = true := c1
      simp only [Bool.and_eq_true] at c1'
      obtain ⟨k1, k2, k3⟩ := c1'
      obtain ⟨cda, rfl, code⟩ := fileB_ok k2
      obtain ⟨x, cc, rfl, cell⟩ := cellB_ok k3
      have hx : x = ("__class__" : Str) := by
        have := h7
        simp only [List.map_cons, List.map_nil, List.cons.injEq, and_true] at this
        exact this
      subst hx
      refine ⟨_, clsB_ok c2, ⟨cc, cda, ⟨oc, n10, n11, n14, od, osl, q⟩, k1, code, cell, F.top, sup, F.self, F.kind, F.ksup, F.kcls, F.kself, He.eqO_ok c3, He.eqO_ok c4, of_decide_eq_true c5, of_decide_eq_true c6⟩, He.eqO_ok c7, of_decide_eq_true c8, ⟨oc, od, osl, q⟩, PySem.W.mg_of X G (He.eqO_ok c9), ⟨_, _, _, _, _, rfl⟩⟩
    | _ => cases c1
/-! ## the Hook -/
abbrev AlW : Type := He.AlD × Bool × List IniV
def asW (g : Addr → Option Obj) (n : Nat) : List Addr := cStatics :: He.asD g n
def obsW (file : Str) (fa : List He.Fa) (fn : List He.DefD) (is : List IniD) (ex : PySem.W.Frag → Bool) (K : PySem.W.Frag) : AlW := (He.obsD fa fn K, (is.all (fun d => iniB K file d)) && ex K, is.map fun d => iniObs K d)
def valW (fn : List He.DefD) (is : List IniD) : AlW := (He.valD fn, true, is.map IniD.val)
structure SaysW (file : Str) (fa : List He.Fa) (fn : List He.DefD) (is : List IniD) (ex : PySem.W.Frag → Bool) (K : PySem.W.Frag) : Prop where
  d : He.SaysD fa fn K
  i : ∀ x ∈ is, iniB K file x = true ∧ iniObs K x = x.val
  ex : ex K = true
theorem map_at {α β : Type} {f g : α → β} : ∀ {l : List α}, l.map f = l.map g → ∀ x ∈ l, f x = g x
  | [], _, _, h => nomatch h
  | a :: l, e, x, h => by
    simp only [List.map_cons, List.cons.injEq] at e
    rcases List.mem_cons.mp h with rfl | h
    · exact e.1
    · exact map_at e.2 x h
theorem saysW_of {file : Str} {fa : List He.Fa} {fn : List He.DefD} {is : List IniD} {ex : PySem.W.Frag → Bool} {K : PySem.W.Frag} (e : obsW file fa fn is ex K = valW fn is) : SaysW file fa fn is ex K := by
  have e1 : He.obsD fa fn K = He.valD fn := congrArg (fun z : AlW => z.1) e
  have e2 : ((is.all (fun d => iniB K file d)) && ex K) = true := congrArg (fun z : AlW => z.2.1) e
  have e3 : is.map (fun d => iniObs K d) = is.map IniD.val := congrArg (fun z : AlW => z.2.2) e
  obtain ⟨h1, h2⟩ := He.ba e2
  exact ⟨e1, fun x hx => ⟨List.all_eq_true.mp h1 x hx, map_at e3 x hx⟩, h2⟩
def obsWG (n : Nat) (file : Str) (fa : List He.Fa) (fn : List He.DefD) (is : List IniD) (ex : PySem.W.Frag → Bool) (g : Addr → Option Obj) : AlW := obsW file fa fn is ex (He.frG g (asW g n))
def hookW (n : Nat) (file : Str) (fa : List He.Fa) (fn : List He.DefD) (is : List IniD) (ex : PySem.W.Frag → Bool) : PySem.W.Hook where
  α := AlW
  obs := fun s => obsWG n file fa fn is ex s.heap.get?
  val := fun _ => valW fn is
  says := fun _ h => ∃ K : PySem.W.Frag, K.In h ∧ SaysW file fa fn is ex K
  of := fun _ _ e => ⟨_, He.frG_in, saysW_of e⟩
  keeps := fun _ _ _ ⟨K, hK, c⟩ k => ⟨K, PySem.W.Frag.In.keeps hK k, c⟩
theorem obsWG_eq {n : Nat} {file : Str} {fa : List He.Fa} {fn : List He.DefD} {is : List IniD} {ex : PySem.W.Frag → Bool} {g : Addr → Option Obj} {s : Shared} (h : ∀ a, g a = s.heap.get? a) : obsWG n file fa fn is ex g = (hookW n file fa fn is ex).obs s := by
  have e : g = s.heap.get? := funext h
  rw [e] <;> rfl
/-- what its words bind -/
theorem IniR.binds {P : Program} {K : PySem.W.Frag} {mg : Str → Option Value} {d : IniD} {C f : Addr} {fd : FuncData} {ps : List Str} (R : IniR P K mg d C f fd)
    (h : ∀ (cl : List (Str × Addr)) (doc pm cdv ct : Value) (us : List Value), us.length = ps.length → bindArgs (PySem.W.fnX d.w.name d.w.qual d.w.params d.w.body d.w.scope cl .none .none doc pm none cdv ct) ⟨us, []⟩ = pure (ps.zip us)) : Binds K fd ps [] := by
  obtain ⟨cl, doc, pm, cdv, ct, rfl⟩ := R.b
  exact .all fun us hl => h cl doc pm cdv ct us hl
end Lw

set_option Elab.async false
set_option linter.all false
set_option maxRecDepth 100000
set_option maxHeartbeats 4000000
namespace Lw
open PySem PySem.Spec PyProof.Rows L2
/-! ## own defs that may raise, called with values by place -/
structure OwnR (P : Program) (w : World) (K : PySem.W.Frag) (mg : Str → Option Value) (base : Heap) (k : Nat) (x : Str) (sp : Sp) (f : Addr) : Prop where
  ok : FnR P w K mg base (L2.CX P w) k f sp
  m : mg x = some (.ref f)
  kp : PySem.W.keepIn K (.ref f) = true
def tR (sp : Sp) (E : L2.St → XK) (t : TA) : TE := fun σ H Q => t σ H fun vs H1 => sp vs H1 Q (E σ)
theorem passF {X : Cx} : Passes (L2.CX X.prog X.w) X E0 := fun _ _ _ _ _ _ _ h => by
  obtain ⟨_, _, _, _, _, _, _, _, _, _, _, _, h⟩ := h
  exact h.elim
section
variable {X : Cx} {k : Nat} {f : Addr} {sp : Sp} {W : WX} {E : L2.St → XK} {x : Str} {p pos : Pos} {e : Expr} {es : List Expr} {t : TA}
theorem run_at {pins : List (Addr × Obj)} {σ : L2.St} {H : Hp} {s : Shared} {Q : VK} {us : List Value} {vs : List V} (F : FnR X.prog X.w X.K X.mg X.base (L2.CX X.prog X.w) k f sp) (hr : Room k X.A) (hx : PassesAt (L2.CX X.prog X.w) X σ (E σ))
    (I : Inv X pins σ H s) (r : Vals vs us) (h : sp vs H Q (E σ)) : wpAny (model X.prog X.w) X.A (call (.ref f) us) (EP X pins σ Q) X.xe s := by
  refine wpAny_call (codeAny_mono (F X.A X.stack s H us vs Q (E σ) hr I.env0 r h) fun res st hq => ?_)
  match res, hq with
  | .error ev, hq => exact hx pins H s ev st I hq
  | .ok (.ret _), hq => exact I.after hq
  | .ok .next, hq => exact False.elim hq
  | .ok .brk, hq => exact False.elim hq
  | .ok .cont, hq => exact False.elim hq
theorem pe_at (O : OwnR X.prog X.w X.K X.mg X.base k x sp f) (hx : ∀ σ, PassesAt (L2.CX X.prog X.w) X σ (E σ)) (hr : Room k X.A) (ha : PA X (e :: es) t) (hg : Gl X x := by rfl) (hdb : (x == ("__debug__" : Str)) = false := by decide)
    (he : starEach (e :: es) X.env = (false, eval e X.env) :: starEach es X.env := by rfl) (hpl : (backTo pos (starEach es X.env)).any (fun q => q.1) = false := by rfl) :
    PE X (.Call (.Name x p) (e :: es) [] pos) (tR sp E t) := by
  constructor
  intro pins s σ H Q I h
  refine wpAny_Call_Name_kw (ld_glob I hg O.m ?_ hdb)
  exact PySem.W.callWith_K (h₀ := X.base) I.ok.mod.kin O.kp (thn (ha.run pos pins s σ H _ I h) fun us s1 ⟨vs, H1, I1, r, q⟩ => ⟨I1.kIn, run_at O.ok hr (hx σ) I1 r q⟩) he hpl
theorem pe_at0 (O : OwnR X.prog X.w X.K X.mg X.base k x sp f) (hx : ∀ σ, PassesAt (L2.CX X.prog X.w) X σ (E σ)) (hr : Room k X.A) (hg : Gl X x := by rfl) (hdb : (x == ("__debug__" : Str)) = false := by decide) :
    PE X (.Call (.Name x p) [] [] pos) (tR sp E tNil) := by
  constructor
  intro pins s σ H Q I h
  refine wpAny_Call_Name_kw (ld_glob I hg O.m ?_ hdb)
  exact PySem.W.callWith_K0 I.kIn O.kp (run_at (us := []) O.ok hr (hx σ) I .nil h)
/-- what it raises is taken at the caller -/
theorem pe_ownR (O : OwnR X.prog X.w X.K X.mg X.base k x sp f) (tk : Takes X W) (hr : Room k X.A) (ha : PA X (e :: es) t) (hg : Gl X x := by rfl) (hdb : (x == ("__debug__" : Str)) = false := by decide)
    (he : starEach (e :: es) X.env = (false, eval e X.env) :: starEach es X.env := by rfl) (hpl : (backTo pos (starEach es X.env)).any (fun q => q.1) = false := by rfl) :
    PE X (.Call (.Name x p) (e :: es) [] pos) (tR sp (WE W) t) := pe_at O (fun σ => passAt tk σ) hr ha hg hdb he hpl
theorem pe_ownR0 (O : OwnR X.prog X.w X.K X.mg X.base k x sp f) (tk : Takes X W) (hr : Room k X.A) (hg : Gl X x := by rfl) (hdb : (x == ("__debug__" : Str)) = false := by decide) :
    PE X (.Call (.Name x p) [] [] pos) (tR sp (WE W) tNil) := pe_at0 O (fun σ => passAt tk σ) hr hg hdb
/-- it raises nothing here -/
theorem pe_ownF (O : OwnR X.prog X.w X.K X.mg X.base k x sp f) (hr : Room k X.A) (ha : PA X (e :: es) t) (hg : Gl X x := by rfl) (hdb : (x == ("__debug__" : Str)) = false := by decide)
    (he : starEach (e :: es) X.env = (false, eval e X.env) :: starEach es X.env := by rfl) (hpl : (backTo pos (starEach es X.env)).any (fun q => q.1) = false := by rfl) :
    PE X (.Call (.Name x p) (e :: es) [] pos) (tR sp (fun _ => E0) t) := pe_at O (fun σ pins H s ev st I c => passF pins σ H s ev st I c) hr ha hg hdb he hpl
theorem pe_ownF0 (O : OwnR X.prog X.w X.K X.mg X.base k x sp f) (hr : Room k X.A) (hg : Gl X x := by rfl) (hdb : (x == ("__debug__" : Str)) = false := by decide) :
    PE X (.Call (.Name x p) [] [] pos) (tR sp (fun _ => E0) tNil) := pe_at0 O (fun σ pins H s ev st I c => passF pins σ H s ev st I c) hr hg hdb
theorem pe_ownXW {fd : FuncData} {ps ks : List Str} {tk : TA} {kws : List Keyword} {g : List Value → List Value → List Value} {gV : List V → List V → List V} (O : OwnX X.prog X.w X.K X.mg X.base k x ps sp f fd) (hb : KBn X.K fd ps 0 ks g gV) (hr : Room k X.A) (hkw : PK X kws tk) (hg : Gl X x := by rfl)
    (hall : (backToKw pos (keywordEach kws X.env)).all (fun q => q.1.isSome) = true := by rfl)
    (hks : (backToKw pos (keywordEach kws X.env)).filterMap (fun q => q.1) = ks := by rfl)
    (hdb : (x == ("__debug__" : Str)) = false := by decide)
    (hpl : ((backTo pos (starEach [] X.env)).any (fun q => q.1) || (backToKw pos (keywordEach kws X.env)).any (fun q => q.1.isNone)) = false := by rfl) :
    PE X (.Call (.Name x p) [] kws pos) (tCallN 0 ks.length sp gV E0 tNil tk) := pe_callW O.ok hr hg O.m O.kp hb passF hkw hall hks hdb hpl
end
theorem ownR_of {P : Program} {w : World} {K : PySem.W.Frag} {mg : Str → Option Value} {base : Heap} {k : Nat} {x : Str} {ps : List Str} {sp : Sp} {f : Addr} {fd : FuncData} (F : FnOk P w K mg base (L2.CX P w) k f fd ps sp) (hb : Binds K fd ps []) (m : mg x = some (.ref f)) (kp : PySem.W.keepIn K (.ref f) = true) :
    OwnR P w K mg base k x sp f := ⟨fun A outer s H us vs Q E hr e0 r hs => (FnOk.raw F hb .nil) A outer s H us vs Q E hr e0 r (by show sp (vs ++ []) H Q E; rw [List.append_nil]; exact hs), m, kp⟩
def flip2 {α : Type} : List α → List α
  | [a, b] => [b, a]
  | _ => []
theorem flip_rel {vs : List V} {us : List Value} (h : Vals vs us) : Vals (flip2 vs) (flip2 us) := by
  match vs, us, h with
  | [], _, .nil => exact .nil
  | [_], _, .cons _ .nil => exact .nil
  | [_, _], _, .cons a (.cons b .nil) => exact .cons b (.cons a .nil)
  | _ :: _ :: _ :: _, _, .cons a (.cons b (.cons c d)) => exact .nil
/-- two keywords, in the other order -/
theorem kb2 {K : PySem.W.Frag} {y qual : Str} {params : Arguments} {body : List Stmt} {scope : Scope} {kw : List (Str × V)} {f : Addr} {fd : FuncData} {a b : Str} (F : FunD K y qual params body scope [] kw f fd)
    (h : ∀ (kV doc pm : Value) (an : Option Addr) (cdv ct u v : Value), bindArgs (PySem.W.fnOf y qual params body scope .none kV doc pm an cdv ct) ⟨[], [(b, u), (a, v)]⟩ = pure [(a, v), (b, u)]) :
    KBn K fd [a, b] 0 [b, a] (fun _ ws => flip2 ws) (fun _ zs => flip2 zs) := by
  obtain ⟨oc, od, dV, kV, doc, pm, an, cdv, ct, osl, rfl, lk, hcd, hD, hK⟩ := F.ex
  rcases hD with ⟨_, rfl⟩ | ⟨e, _⟩
  · refine ⟨fun s us ws X l1 l2 => ?_, fun _ r => flip_rel r⟩
    match us, ws, l1, l2 with
    | [], [u, v], _, _ => exact .of_eq (h kV doc pm an cdv ct u v)
  · exact absurd rfl e
end Lw

set_option Elab.async false
set_option linter.all false
set_option maxRecDepth 100000
set_option maxHeartbeats 4000000
namespace Lw
open PySem PySem.Spec PyProof.Rows L2
section
variable {X : Cx}
/-- a list and the empty one -/
def rNeE (K : PySem.W.Frag) : R2 := fun x y H Q => ∃ (a b : Addr) (xs : List V), x = .ref a ∧ y = .ref b ∧ SqL K H a xs ∧ SqL K H b [] ∧ Q (.bl (!xs.isEmpty)) H
theorem op_neE (hu : X.A.units + 64 < cLine) : OpR X (compareOp .NotEq) (rNeE X.K) := by
  intro pins s σ H x y v u Q I rx ry h
  obtain ⟨a, b, xs, rfl, rfl, ha, hb, q⟩ := h
  cases (show v = Value.ref a from rx)
  cases (show u = Value.ref b from ry)
  obtain ⟨its, rv, ⟨o, n, ho, hc, _, hd⟩, _⟩ := I.list ha
  obtain ⟨its2, rv2, ⟨o2, n2, ho2, hc2, _, hd2⟩, _⟩ := I.list hb
  cases rv2
  have l1 : s.heap.IsList a its.toArray := ⟨o, ho, hc, n, hd⟩
  have l2 : s.heap.IsList b (([] : List Value).toArray) := ⟨o2, ho2, hc2, n2, hd2⟩
  cases rv with
  | nil => exact PySem.SeqAt.RcNeAt.lists (e := fun _ => true) l1 l2 rfl (by omega) (fun j h1 _ => absurd h1 (Nat.not_lt_zero _)) X.prog X.w X.xe _ ⟨.bl _, H, I, rfl, q⟩
  | cons r1 r2 => exact PySem.SeqAt.RcNeAt.lists_lengths l1 l2 rfl (by omega) X.prog X.w X.xe _ ⟨.bl _, H, I, rfl, q⟩
/-- x is True -/
def rIsB : R2 := fun x y H Q => ∃ b c : Bool, x = .bl b ∧ y = .bl c ∧ Q (.bl (b == c)) H
theorem op_isB : OpR X (compareOp .Is) rIsB := by
  intro pins s σ H x y v u Q I rx ry h
  obtain ⟨b, c, rfl, rfl, q⟩ := h
  cases rx
  cases ry
  exact is_bool ⟨.bl _, H, I, rfl, q⟩
/-- a list of bools counted -/
def rCountB (K : PySem.W.Frag) : V → List V → Hp → VK → Prop := fun x vs H Q => ∃ (a : Addr) (bs : List Bool) (c : Bool), x = .ref a ∧ vs = [.bl c] ∧ SqL K H a (bs.map V.bl) ∧ Q (.int ((bs.countP fun b => b == c : Nat) : Int)) H
theorem reads_bools {h : Heap} : ∀ {bs : List Bool} {us : List Value}, Vals (bs.map V.bl) us → ∃ as, ReadsAll h us (bs.map PyData.bool) as
  | [], _, .nil => ⟨_, .nil⟩
  | b :: bs, _, .cons r rs => by
    cases r
    obtain ⟨as, q⟩ := reads_bools (h := h) rs
    exact ⟨_, .cons (.bool b) q⟩
theorem count_bools {bs : List Bool} {c : Bool} : (bs.map PyData.bool).countP (fun y => PyData.eqv y (.bool c)) = bs.countP fun b => b == c := by
  rw [List.countP_map]
  rfl
theorem plain_bools : ∀ bs : List Bool, PyData.plainAll (bs.map PyData.bool) = true
  | [] => rfl
  | b :: bs => by
    show (PyData.plain (.bool b) && PyData.plainAll (bs.map PyData.bool)) = true
    rw [plain_bools bs]
    rfl
theorem mt_countB (hu : X.A.units + 64 < cLine) : MtR X "list.count" (rCountB X.K) := by
  intro pins s σ H x vs v us Q I rx rv h
  obtain ⟨a, bs, c, rfl, rfl, ha, q⟩ := h
  cases (show v = Value.ref a from rx)
  obtain ⟨u, rfl, ru⟩ := vals1 rv
  cases (show u = Value.bool c from ru)
  obtain ⟨its, rs, ⟨o, n, ho, hc, _, hd⟩, _⟩ := I.list ha
  obtain ⟨as, r1⟩ := reads_bools (h := s.heap) rs
  refine PySem.SeqAt.count_list_data (l := a) (vs := its.toArray) (bs := []) ⟨o, ho, hc, n, hd⟩ (by simpa using r1) (.bool c) (plain_bools bs) rfl ?_ ?_
  · have : min (PyData.depthAll (bs.map PyData.bool)) (PyData.bool c).depth ≤ 0 := by
      simp [PyData.depth]
    omega
  · rw [count_bools]
    exact ⟨.int _, H, I.tok _, ⟨_, rfl⟩, q⟩
end
end Lw

set_option Elab.async false
set_option linter.all false
set_option maxRecDepth 100000
set_option maxHeartbeats 4000000
namespace Lw
open PySem PySem.Spec PyProof.Rows L2 PySem.HandSPX
section
variable {M : Model} {A : Around} {E : Value → Shared → Prop} {h : Heap} {g : Array GenState} {d : Drawn} {t : Nat} {os : OsState}
variable {nm q : Str} {C N : Addr} {bs bm bmB : List Value} {hdct : Bool} {sn : List Str} {sub : List Value} {ab : Bool} {col : Option Bool} {dd : Option Addr} {k0 k1 k2 k3 k5 : Option Value} {B newId initId : String}
/-! ## an own exception, made by keywords -/
theorem check_new_kw (F : ExcBaseFacts B newId initId bmB) (hT : ∀ X : String, bm.contains (.type X) = bmB.contains (.type X)) {rest : List Value} {kw : List (Str × Value)} {Q : Unit → Shared → Prop}
    (hC : h.get? C = some (excClassObj nm q C N bs bm hdct sn sub ab col dd k0 k1 k2 k3 k5 newId)) (hq : Q () ⟨h, g, d, t, os⟩) : wpAny M A (checkBuiltinCall newId ⟨.ref C :: rest, kw⟩) Q E ⟨h, g, d, t, os⟩ := by
  have hcont : (Value.ref C :: bm).contains (.type B) = true := by rw [List.contains_cons, hT, F.hasB, Bool.or_true]
  have hstar := F.noStar
  simp only [checkBuiltinCall, F.newKind, F.newSplit, F.newRow]
  repeat (first | refine wpAny_loadPart_at hC ?_ | (refine wpAny_isSubtype_exc hC ?_; rw [hcont]) | refine wpAny_staticBase_exc hC ?_ | refine wpAny_madeBy_exc hC ?_ | simp only [bne_self_eq_false, Bool.false_eq_true, if_false] | wp_step)
  exact hq
theorem check_type_kw {rest : List Value} {kw : List (Str × Value)} {Q : Unit → Shared → Prop} (hC : h.get? C = some (excClassObj nm q C N bs bm hdct sn sub ab col dd k0 k1 k2 k3 k5 newId))
    (hq : Q () ⟨h, g, d, t, os⟩) : wpAny M A (checkBuiltinCall "type.__call__" ⟨.ref C :: rest, kw⟩) Q E ⟨h, g, d, t, os⟩ := by
  have f3 := tc_sub
  have hT : (⟨h, g, d, t, os⟩ : Shared).TypeIs (.ref C) "type" := ⟨_, hC, rfl⟩
  simp only [checkBuiltinCall, tc_kind, tc_split]
  repeat (any_goals (first | assumption | with_reducible refine wpAny_loadPart_at hC ?_ | with_reducible refine wpAny_onRaise ?_ | with_reducible refine wpAny_map ?_ | wp_step))
end
section
variable {prog : Program} {w : World} {A : Around} {E : Value → Shared → Prop} {R : Result → Shared → Prop} {h : Heap} {g : Array GenState} {d : Drawn} {t : Nat} {os : OsState}
variable {nm q : Str} {C N : Addr} {bs bm bmB : List Value} {hdct : Bool} {sn : List Str} {sub : List Value} {ab : Bool} {col : Option Bool} {dd : Option Addr} {k0 k1 k2 k3 k5 : Option Value} {B newId initId : String}
theorem new_kw (F : ExcBaseFacts B newId initId bmB) (hT : ∀ X : String, bm.contains (.type X) = bmB.contains (.type X)) {rest : List Value} {kw : List (Str × Value)}
    (hC : h.get? C = some (excClassObj nm q C N bs bm hdct sn sub ab col dd k0 k1 k2 k3 k5 newId))
    (hq : R (.ok (.ret (.ref (h.objs.size + 1)))) ⟨(h.push { cls := .type "tuple", data := .seq rest.toArray }).push
      { cls := .ref C, data := .fields #[.ref h.objs.size, .none, .none, .none, .bool false, .none] }, g, d, t, os⟩) (hrest : rest.length ≤ sizeLine) :
    codeAny (model prog w) A (.builtin newId ⟨.ref C :: rest, kw⟩) R ⟨h, g, d, t, os⟩ := by
  have hends := F.ends
  have hcB : (Value.ref C :: bm).contains (.type B) = true := by rw [List.contains_cons, hT, F.hasB, Bool.or_true]
  have hcA : (Value.ref C :: bm).contains (.type "AttributeError") = false := by rw [List.contains_cons, hT, F.noAttr]; rfl
  have hcN : (Value.ref C :: bm).contains (.type "NameError") = false := by rw [List.contains_cons, hT, F.noName]; rfl
  refine codeAny_builtinAt F.entry ?_
  unfold Builtin.«BaseException.__new__»
  refine PySem.wpAt_bind ?_
  show PySem.wpAt _ _ _ (stack >>= _) _ _ _
  refine PySem.wpAt_bind (PySem.wpAt_stack fun p below => PySem.wpAt_of_wpAny ?_)
  wp_walk
  refine PySem.wpAt_of_wpAny ?_
  rw [F.owner]
  repeat (first | with_reducible refine wpAny_madeHere_exc F.canon hC ?_ | with_reducible refine wpAny_loadPart_at hC ?_ | (with_reducible refine wpAny_isSubtype_exc hC ?_; first | rw [hcB] | rw [hcA] | rw [hcN]) | wp_step)
  show R _ _
  rw [Heap.size_push]
  exact hq
theorem type_call_kw (F : ExcBaseFacts B newId initId bmB) (hT : ∀ X : String, bm.contains (.type X) = bmB.contains (.type X)) {rest : List Value} {kw : List (Str × Value)} {fI : Addr} {Q : Fin → Shared → Prop}
    (hC : h.get? C = some (excClassObj nm q C N bs bm hdct sn sub ab col dd k0 k1 k2 k3 k5 newId))
    (hi : W.Looks (model prog w) h (typeLookup (.ref C) "__init__") (some (.ref fI))) (hb : ∀ self, W.Looks (model prog w) h (bindSpecial (.ref fI) self) (.ref fI, [self])) (hrest : rest.length ≤ sizeLine)
    (hq : codeAny (model prog w) A (.call (.ref fI) ⟨.ref (h.objs.size + 1) :: rest, kw⟩)
      (fun r s' => match r with | .ok (.ret v) => v = .none ∧ Q (.done (.ret (.ref (h.objs.size + 1)))) s' | .ok _ => False | .error e => E e s')
      ⟨(h.push (W.kdv_tup rest)).push (excO C h.objs.size), g, d, t, os⟩) :
    wpAny (model prog w) A (Builtin.«type.__call__» ⟨.ref C :: rest, kw⟩) Q E ⟨h, g, d, t, os⟩ := by
  repeat (first | with_reducible refine wpAny_loadPart_at hC ?_ | with_reducible refine wpAny_madeBy_exc hC ?_ | wp_step)
  refine codeAny_call_builtin_code (Code.quiet_builtin _ F.quiet) (check_new_kw F hT hC ?_)
  refine new_kw F hT hC ?_ hrest
  show wpAny _ _ _ _ _ _
  have k : ∀ b o, h.get? b = some o → ((h.push (W.kdv_tup rest)).push (excO C h.objs.size)).get? b = some o := fun b o e => Heap.get?_push_of_some _ (Heap.get?_push_of_some _ e)
  have hC₁ := k _ _ hC
  have hget : ((h.push (W.kdv_tup rest)).push (excO C h.objs.size)).get? (h.objs.size + 1) = some (excO C h.objs.size) := by heap_get
  have hcC : (Value.ref C :: bm).contains (.ref C) = true := by simp
  have i1 := hi.keeps k
  have b1 := (hb (.ref (h.objs.size + 1))).keeps k
  unfold isInstance
  repeat (first | with_reducible refine wpAny_loadPart_at hget ?_ | (with_reducible refine wpAny_isSubtype_exc hC₁ ?_; rw [hcC]) | wp_step)
  show wpAny _ _ (typeLookup (.ref C) _) _ _ _
  refine i1.at ?_
  refine wpAny_holding (wpAny_bind (b1.at ?_))
  refine wpAny_bind (wpAny_call (codeAny_mono hq fun r s' z => ?_))
  rcases r with e | (v | _ | _ | _) <;> first | exact z | exact z.elim | skip
  obtain ⟨rfl, z⟩ := z
  first
    | exact wpAny_pure (wpAny_pure z)
    | (wp_walk; exact z)
theorem call_kw (F : ExcBaseFacts B newId initId bmB) (hT : ∀ X : String, bm.contains (.type X) = bmB.contains (.type X)) {rest : List Value} {kw : List (Str × Value)} {fI : Addr}
    (hC : h.get? C = some (excClassObj nm q C N bs bm hdct sn sub ab col dd k0 k1 k2 k3 k5 newId))
    (hi : W.Looks (model prog w) h (typeLookup (.ref C) "__init__") (some (.ref fI))) (hb : ∀ self, W.Looks (model prog w) h (bindSpecial (.ref fI) self) (.ref fI, [self])) (hrest : rest.length ≤ sizeLine)
    (hq : codeAny (model prog w) (A.under (.builtin "type.__call__" ⟨.ref C :: rest, kw⟩)) (.call (.ref fI) ⟨.ref (h.objs.size + 1) :: rest, kw⟩) (W.InitBack (h.objs.size + 1) R)
      ⟨(h.push (W.kdv_tup rest)).push (excO C h.objs.size), g, d, t, os⟩) :
    codeAny (model prog w) A (.call (.ref C) ⟨rest, kw⟩) R ⟨h, g, d, t, os⟩ := by
  have f1 := tc_lookup
  have f2 := tc_bind (.ref C)
  have hTy : (⟨h, g, d, t, os⟩ : Shared).TypeIs (.ref C) "type" := ⟨_, hC, rfl⟩
  refine codeAny_of_tree ?_
  show wpAny _ _ (callAny (.ref C) _) _ _ _
  repeat (any_goals (first | assumption | with_reducible refine wpAny_loadPart_at hC ?_ | wp_step))
  refine ⟨rfl, ?_⟩
  refine codeAny_call_builtin_at (Code.quiet_builtin _ (by decide +kernel)) entry_typeCall (check_type_kw hC (type_call_kw F hT hC hi hb hrest ?_))
  refine codeAny_mono hq fun r s' z => ?_
  rcases r with e | (v | _ | _ | _) <;> exact z
end
end Lw

set_option Elab.async false
set_option linter.all false
set_option maxRecDepth 100000
set_option maxHeartbeats 4000000
namespace Lw
open PySem PySem.Spec PyProof.Rows L2
/-! ## exceptions as values -/
/-- an exception of the class at D -/
def IsE (H : Hp) (v : V) (D : Addr) : Prop := ∃ a, v = .ref a ∧ ((∃ (dx : Addr) (fs : List (Str × V)), H a = some (exo a D (some dx)) ∧ H dx = some (exd dx fs)) ∨ H a = some (ExO (.ref D) a))
theorem IsE.same {H H' : Hp} {v : V} {D : Addr} (h : IsE H v D) (s : Same H H') : IsE H' v D := by
  obtain ⟨a, e, ⟨dx, fs, h1, h2⟩ | h1⟩ := h
  · exact ⟨a, e, .inl ⟨dx, fs, s _ _ h1, s _ _ h2⟩⟩
  · exact ⟨a, e, .inr (s _ _ h1)⟩
section
variable {X : Cx} {pins : List (Addr × Obj)} {σ : L2.St} {H : Hp} {s : Shared}
theorem IsE.inst {a D : Addr} (I : Inv X pins σ H s) (h : IsE H (.ref a) D) : ∃ (ox : Obj) (od : Option Obj), PySem.W.InstAt s.heap a ox D od := by
  obtain ⟨b, e, h⟩ := h
  cases e
  rcases h with ⟨dx, fs, h1, h2⟩ | h1
  · obtain ⟨t1, ho⟩ := exo_at I.hok h1
    obtain ⟨mA, ⟨o, es, ep, e1, _⟩, _⟩ := exd_at I.hok h2
    exact ⟨_, some o, ho, rfl, rfl, e1⟩
  · obtain ⟨⟨oe, vs, e1, z, d, _⟩, _⟩ := (show ObjOk X.prog X.w H s.heap a (ExO (.ref D) a) from I.hok a _ h1)
    refine ⟨oe, none, e1, z.1, ?_, ?_⟩
    · unfold PySem.W.notCls
      rw [d] <;> rfl
    · rw [z.2]
      trivial
end
/-- isinstance(e, c) -/
def rIsE (K : PySem.W.Frag) : List V → Hp → VK → Prop := fun xs H Q => ∃ (v : V) (D : Addr) (c : V) (cv : Value) (b : Bool), xs = [v, c] ∧ IsE H v D ∧ ExcC K D ∧ ClsV c cv ∧ PySem.W.kitOne K (.ref D) cv = some b ∧ Q (.bl b) H
/-- isinstance(e, (c, ..)) -/
def rIsET (K : PySem.W.Frag) : List V → Hp → VK → Prop := fun xs H Q => ∃ (v : V) (D tp : Addr) (cs : List V) (us : List Value) (b : Bool), xs = [v, .ref tp] ∧ IsE H v D ∧ ExcC K D ∧ H tp = some (.tup cs) ∧ Paired ClsV cs us ∧ PySem.W.kitAny K (.ref D) us = some b ∧ Q (.bl b) H
section
variable {X : Cx}
theorem call_isE : CallR X (.builtin "isinstance") (rIsE X.K) := by
  intro pins s σ H xs us Q I r h
  obtain ⟨v, D, c, cv, b, rfl, hv, T, hc, e, q⟩ := h
  obtain ⟨u1, u2, rfl, r1, r2⟩ := vals2 r
  obtain ⟨a, rfl, _⟩ := id hv
  cases (show u1 = Value.ref a from r1)
  cases hc.eq r2
  obtain ⟨ox, od, J⟩ := hv.inst I
  exact PySem.W.kia_one (kit_exc T) I.kIn J e (fun z => nomatch z) fun tk => ⟨.bl b, H, I.tok tk, rfl, q⟩
theorem call_isET : CallR X (.builtin "isinstance") (rIsET X.K) := by
  intro pins s σ H xs us Q I r h
  obtain ⟨v, D, tp, cs, ws, b, rfl, hv, T, hT, k, e, q⟩ := h
  obtain ⟨u1, u2, rfl, r1, r2⟩ := vals2 r
  obtain ⟨a, rfl, _⟩ := id hv
  cases (show u1 = Value.ref a from r1)
  cases (show u2 = Value.ref tp from r2)
  obtain ⟨ox, od, J⟩ := hv.inst I
  obtain ⟨_, its, rv, o, h1, h2, n, h3⟩ := (show ObjOk X.prog X.w H s.heap tp (.tup cs) from I.hok tp _ hT)
  cases ClsV.all k rv
  obtain ⟨oc, odd, dt, sl⟩ := o
  simp only at h2 h3
  subst h2 h3
  exact PySem.W.kia_tup (kit_exc T) I.kIn J h1 e (fun z => nomatch z) fun tk => ⟨.bl b, H, I.tok tk, rfl, q⟩
/-- e.f of an exception -/
def tXfE (K : PySem.W.Frag) (f : Str) (te : TE) : TE := fun σ H Q => te σ H fun x H1 => ∃ (a D dx : Addr) (fs : List (Str × V)) (v : V), x = .ref a ∧ H1 a = some (exo a D (some dx)) ∧ H1 dx = some (exd dx fs) ∧ XfC K D ∧ PySem.W.findIn K (.ref D) f = some none ∧ fs.lookup f = some v ∧ Q v H1
theorem pe_xfE {e : Expr} {te : TE} {pos : Pos} {n : Str} (he : PE X e te) (hb : attributeBase e n X.env (eval e X.env) = eval e X.env := by rfl) : PE X (.Attribute e n pos) (tXfE X.K n te) := by
  refine ⟨fun pins s σ H Q I h => ?_⟩
  refine attr_of hb (thn (he.run pins s σ H _ I h) fun u s1 hh => ?_)
  obtain ⟨x, H1, I1, rx, a, D, dx, fs, v, ex, ea, ed, T, hno, l, q⟩ := hh
  subst ex
  obtain rfl : u = Value.ref a := rx
  obtain ⟨t1, ho⟩ := exo_at I1.hok ea
  obtain ⟨mA, hns, hr⟩ := exd_at I1.hok ed
  obtain ⟨od, hod, hl⟩ := lookIn_ns hns
  obtain ⟨u, hu, ru⟩ := RelO.some_of (v := v) (o := mA n) (by rw [← l]; exact hr n)
  have J : PySem.W.InstAt s1.heap a { cls := .ref D, dict := some dx, data := .fields #[.ref t1, .none, .none, .none, .bool false, .none] } D (some od) := ⟨ho, rfl, rfl, hod⟩
  exact PySem.HandSPX.exc_get I1.kIn J T.ga T.gg T.exC (PySem.W.findObj_own T.hdC hno rfl (by rw [hl, hu])) (handed_of ru) ⟨v, H1, I1.tok _, ru, q⟩
end
/-! ## made and held -/
def tMkV (C : Addr) (sp : Sp) (ta : TA) : TE := fun σ H Q => ta σ H fun vs H1 => vs.length ≤ 1000 ∧ ∀ a, H1 a = none → sp (.ref a :: vs) (upd H1 a (exo a C none)) (fun v H2 => v = .non ∧ Q (.ref a) H2) E0
def tMkW (C : Addr) (m : Nat) (sp : Sp) (gV : List V → List V → List V) (tk : TA) : TE := fun σ H Q => tk σ H fun zs H1 => zs.length = m ∧ ∀ a, H1 a = none → sp (gV [.ref a] zs) (upd H1 a (exo a C none)) (fun v H2 => v = .non ∧ Q (.ref a) H2) E0
section
variable {X : Cx} {k : Nat} {x : Str} {ps : List Str} {sp : Sp} {C fI : Addr} {fd : FuncData} {B newId initId : String} {tl : List Value} {e : Expr} {es : List Expr} {ta tk : TA} {p pos : Pos} {ks : List Str} {kws : List Keyword} {g : List Value → List Value → List Value} {gV : List V → List V → List V}
theorem run_mkV {pins : List (Addr × Obj)} {σ : L2.St} {H : Hp} {s : Shared} {Q : VK} {us : List Value} {kw : List (Str × Value)} {all : Addr → List Value} {vs : Addr → List V} (EB : ExB B newId initId tl) (O : OwnE X.prog X.w X.K X.mg X.base k x ps sp C fI fd tl newId) (hr : Room (k + 1) X.A) (I : Inv X pins σ H s) (hus : us.length ≤ sizeLine)
    (hb : ∀ (s' : Shared) (a : Addr), X.K.In s'.heap → BindsTo s' fd ⟨.ref a :: us, kw⟩ (ps.zip (all a))) (hv : ∀ a, Vals (vs a) (all a))
    (h : ∀ a, H a = none → sp (vs a) (upd H a (exo a C none)) (fun v H2 => v = .non ∧ Q (.ref a) H2) E0) : wpAny (model X.prog X.w) X.A (call (.ref C) us kw) (EP X pins σ Q) X.xe s := by
  obtain ⟨nm, N', qn, bs, bm, hdct, sn, sub, ab, col, dd, k0, k1, k2, k3, k5, hC, hT⟩ := PySem.W.excInit_of I.kIn O.t.ini
  obtain ⟨hp, gg, dr, tk, os⟩ := s
  generalize hA : hp.objs.size + 1 = A1
  have hsz : hp.objs.size ≤ A1 := by omega
  have hq := h A1 (I.hok.fresh hsz)
  have kk : ∀ b o, hp.get? b = some o → ((hp.push (PySem.W.kdv_tup us)).push (PySem.HandSPX.excO C hp.objs.size)).get? b = some o := fun b o e => Heap.get?_push_of_some _ (Heap.get?_push_of_some _ e)
  have hget : ((hp.push (PySem.W.kdv_tup us)).push (PySem.HandSPX.excO C hp.objs.size)).get? A1 = some (PySem.HandSPX.excO C hp.objs.size) := by
    rw [← hA]
    heap_get
  have I2 : Inv X pins σ (upd H A1 (exo A1 C none)) ⟨(hp.push (PySem.W.kdv_tup us)).push (PySem.HandSPX.excO C hp.objs.size), gg, dr, tk, os⟩ :=
    I.laid (t' := tk) (a := A1) (o := exo A1 C none) (h' := (hp.push (PySem.W.kdv_tup us)).push (PySem.HandSPX.excO C hp.objs.size)) kk hsz (exo_ok hget)
  refine wpAny_call (call_kw EB.fb hT hC (PySem.W.looks_findIn I.kIn O.i) (fun self => PySem.W.bind_fn I.kIn self O.ti) hus ?_)
  rw [hA]
  refine codeAny_mono (O.ok.run _ X.stack _ _ ⟨Value.ref A1 :: us, kw⟩ (all A1) _ _ E0 (hr.make C us kw) (I2.env0.make C us kw) (hb _ A1 I2.kIn) (hv A1) hq) fun r s' hq' => ?_
  match r, hq' with
  | .error er, hq' => exact pass0 pins σ _ _ er s' I2 hq'
  | .ok .next, hq' => exact False.elim hq'
  | .ok .brk, hq' => exact False.elim hq'
  | .ok .cont, hq' => exact False.elim hq'
  | .ok (.ret u), hq' =>
    obtain ⟨v, H', I3, rv, ev, q3⟩ := I2.after hq'
    subst ev
    exact ⟨rv, ⟨V.ref A1, H', I3, rfl, q3⟩⟩
theorem pe_mkV (EB : ExB B newId initId tl) (O : OwnE X.prog X.w X.K X.mg X.base k x ps sp C fI fd tl newId) (hr : Room (k + 1) X.A) (ha : PA X (e :: es) ta)
    (hg : Gl X x := by rfl) (hdb : (x == ("__debug__" : Str)) = false := by decide) (he : starEach (e :: es) X.env = (false, eval e X.env) :: starEach es X.env := by rfl) (hpl : (backTo pos (starEach es X.env)).any (fun q => q.1) = false := by rfl) :
    PE X (.Call (.Name x p) (e :: es) [] pos) (tMkV C sp ta) := by
  constructor
  intro pins s σ H Q I h
  refine wpAny_Call_Name_kw (ld_glob I hg O.m (PySem.W.callWith_K (h₀ := X.base) I.ok.mod.kin O.t.kC (thn (ha.run pos pins s σ H _ I h) fun us s1 hu => ?_) he hpl) hdb)
  obtain ⟨vs, H1, I1, r1, hz, q1⟩ := hu
  refine ⟨I1.kIn, ?_⟩
  have hus : us.length ≤ sizeLine := by
    rw [← Paired.length r1]
    exact Nat.le_of_lt (small1000 hz)
  refine run_mkV (all := fun a => .ref a :: us) (vs := fun a => .ref a :: vs) EB O hr I1 hus (fun s' a hk => ?_) (fun a => .cons rfl r1) q1
  have hl : (Value.ref a :: us).length = ps.length := by
    have n := O.ok.len _ _ _ _ (q1 (s1.heap.objs.size) (I1.hok.fresh (Nat.le_refl _)))
    rw [← n, List.length_cons, List.length_cons, Paired.length r1]
  have b := O.b s' (Value.ref a :: us) hk (by rw [List.append_nil]; exact hl)
  rw [List.append_nil] at b
  exact b
theorem pe_mkW (EB : ExB B newId initId tl) (O : OwnE X.prog X.w X.K X.mg X.base k x ps sp C fI fd tl newId) (hb : KBn X.K fd ps 1 ks g gV) (hr : Room (k + 1) X.A) (hkw : PK X kws tk)
    (hg : Gl X x := by rfl) (hall : (backToKw pos (keywordEach kws X.env)).all (fun q => q.1.isSome) = true := by rfl)
    (hks : (backToKw pos (keywordEach kws X.env)).filterMap (fun q => q.1) = ks := by rfl)
    (hdb : (x == ("__debug__" : Str)) = false := by decide)
    (hpl : ((backTo pos (starEach [] X.env)).any (fun q => q.1) || (backToKw pos (keywordEach kws X.env)).any (fun q => q.1.isNone)) = false := by rfl) :
    PE X (.Call (.Name x p) [] kws pos) (tMkW C ks.length sp gV tk) := by
  constructor
  intro pins s σ H Q I h
  refine wpAny_Call_Name_kw (ld_glob I hg O.m ?_ hdb)
  refine PySem.W.callWith_KW0 (h₀ := X.base) I.ok.mod.kin O.t.kC hall ?_ hpl
  refine thn (hkw.run pos pins s σ H _ I h) fun ws s2 hq => ?_
  obtain ⟨zs, H2, I2, rz, l2, q2⟩ := hq
  refine ⟨I2.kIn, ?_⟩
  rw [hks]
  have lw : ws.length = ks.length := by
    rw [← Paired.length rz]
    exact l2
  exact run_mkV (us := []) (kw := ks.zip ws) (all := fun a => g [.ref a] ws) (vs := fun a => gV [.ref a] zs) EB O hr I2 (Nat.zero_le _) (fun s' a hk => hb.to s' [.ref a] ws hk rfl lw) (fun a => hb.rel (.cons rfl .nil) rz) q2
/-- a class by its name -/
theorem pe_cls {c : Addr} (m : X.mg x = some (.ref c)) (hg : Gl X x := by rfl) (hd : (x == ("__debug__" : Str)) = false := by decide) : PE X (.Name x pos) (tC (.ref c)) := pe_glob (v := .ref c) hg m rfl hd
/-- a class of exceptions without an own __init__, called with nothing -/
theorem pe_exc0 {bmB : List Value} (F : ExcBaseFacts B newId initId bmB) (q : PySem.W.excIn X.K C bmB newId = true) (gC : X.mg x = some (.ref C)) (kC : PySem.W.keepIn X.K (.ref C) = true) (hg : Gl X x) (hdb : (x == ("__debug__" : Str)) = false := by decide) :
    PE X (.Call (.Name x p) [] [] pos) (fun σ H Q => ∀ a, H a = none → Q (.ref a) (upd H a (ExO (.ref C) a))) := by
  constructor
  intro pins s σ H Q I h
  refine wpAny_Call_Name_kw (ld_glob I hg gC (PySem.W.callWith_K0 I.kIn kC ?_) hdb)
  obtain ⟨bm, N, nm, qn, bs, hdct, sn, sub, ab, col, dd, k0, k1, k2, k3, k5, mN, hC, hN, hni, T⟩ := exc_obj I.kIn q
  refine wpAny_call_exc_subT F T hC hN hni (fun h' a hm => ?_) (by show 0 ≤ sizeLine; omega)
  have hn : H a = none := I.hok.gone hm.new
  obtain ⟨t, ht, _, _⟩ := hm.there
  exact ⟨.ref a, upd H a (ExO (.ref C) a), I.laidN hm.keeps hm.new hn (exO_ok ht ⟨rfl, rfl⟩ rfl rfl rfl (show 4 < 6 by decide)), rfl, h a hn⟩
end
/-! ## a further field -/
section
open PySem.Builtin PySem.Builtin.ObjectAttr
variable {prog : Program} {w : World} {A : Around} {R : Result → Shared → Prop} {hp : Heap} {g : Array GenState} {d : Drawn} {t : Nat} {os : OsState}
theorem osa_more {B newId initId : String} {tl : List Value} (EB : ExB B newId initId tl) {K : PySem.W.Frag} {name : Str} {tk : Tok} {v : Value} {x C dx : Addr} {fv : Array Value} {cd : ClassData} {m0 : Str → Option Value} {nl : List Str}
    (X : K.In hp) (hx : hp.get? x = some { cls := .ref C, dict := some dx, data := .fields fv }) (hns : hp.Ns1 dx m0) (hw : Within m0 nl) (hz : nl.length ≤ 1000) (hcd : PySem.W.clsIn K C = some cd) (hm : refsT tl cd.mro = true) (hh : cd.hasDict = true)
    (ha : PySem.W.findIn K (.ref C) name = some none)
    (hq : ∀ h' tk', (∀ b o, b ≠ dx → hp.get? b = some o → h'.get? b = some o) → h'.Ns1 dx (fun y => if y = name then some v else m0 y) → R (.ok (.ret .none)) ⟨h', g, d, tk', os⟩) :
    codeAny (model prog w) A (.call (.builtin "object.__setattr__") ⟨[.ref x, .str name tk, v], []⟩) R ⟨hp, g, d, t, os⟩ := by
  obtain ⟨hob, hne⟩ := refsT_obj EB _ hm
  obtain ⟨oD, esD, epD, hoD, hdD, _⟩ := hns.count hw
  have I : PySem.W.InstAt hp x { cls := .ref C, dict := some dx, data := .fields fv } C (some oD) := ⟨hx, rfl, rfl, hoD⟩
  have SF := F.store_object
  have hmro : PySem.W.mroIn K C (.type "object") = some true := by
    unfold PySem.W.mroIn
    rw [hcd, Option.bind_some, if_neg (by rw [hne]; decide), hob]
  have sub : PySem.W.Looks (model prog w) hp (isInstance (.ref x) (.type "object")) true := I.type.andThen (PySem.W.looks_mroIn X hmro)
  refine codeAny_call_builtin SF.slot.plain SF.entry (@PySem.W.check_slot (model prog w) _ _ ⟨hp, g, d, t, os⟩ "object.__setattr__" "object" "__setattr__" (.ref x) [.str name tk, v] [] _ SF.kind SF.split sub (SF.args (.ref x) (.str name tk) v) ?_)
  have hcls : PySem.W.Looks (model prog w) hp (classData C) cd := PySem.W.looks_clsIn X hcd
  have hmr : PySem.W.Looks (model prog w) hp (mroOf (.ref C)) cd.mro := hcls.andThen .now
  have L3 : PySem.W.Looks (model prog w) hp (storeTaker? none) none := .now
  rw [PySem.W.osa_eq, refuse_eq]
  refine wpAny_bind (wpAny_bind (I.type.at (wpAny_bind (hmr.at ?_))))
  rw [refsT_pass EB _ _ hm]
  refine wpAny_pure (wpAny_bind (I.type.at (wpAny_bind ((PySem.W.looks_findIn X ha).at (wpAny_bind (L3.at ?_))))))
  show wpAny _ _ (storeInOwnDict (.ref x) (.ref C) (.str name tk) name v false) _ _ _
  obtain ⟨nm, bs, mro, ns, qn, hd, sn, sb, ab, col, del⟩ := cd
  dsimp only at hh
  subst hh
  unfold storeInOwnDict ownDictForStores
  repeat (first | with_reducible refine PySem.OEX.store_in_old hns hw hz ?_ | with_reducible refine wpAny_loadPart_at hx ?_ | with_reducible refine hcls.at ?_ | wp_step)
  intro h' tk' hn' hs
  exact hq h' tk' (fun b o hb ho => (hs.2 b hb).trans ho) hn'
end
section
variable {X : Cx} {pins : List (Addr × Obj)} {σ : L2.St} {H : Hp} {s : Shared} {a C dx : Addr} {f : Str} {y : V} {u : Value} {fs : List (Str × V)} {E : Value → Shared → Prop} {A : Around} {B newId initId : String} {tl : List Value}
theorem ost_more (EB : ExB B newId initId tl) (T : ExcK X.K C tl newId) (I : Inv X pins σ H s) (e : H a = some (exo a C (some dx))) (ed : H dx = some (exd dx fs)) (hl : fs.length ≤ 900) (hno : PySem.W.findIn X.K (.ref C) f = some none) (ry : L2.RelV y u) {Q : Unit → Shared → Prop}
    (h : ∀ s', Inv X pins σ (upd H dx (exd dx ((f, y) :: fs))) s' → Q () s') : wpAny (model X.prog X.w) A (setAttr (.ref a) f u) Q E s := by
  obtain ⟨cd, hcd, hdict, hmro⟩ := T.cls
  obtain ⟨t1, ho⟩ := exo_at I.hok e
  obtain ⟨mA, hns, rel⟩ := exd_at I.hok ed
  have hw := within_of rel
  obtain ⟨hp, g, d, t, os⟩ := s
  obtain ⟨oD, _, _, hoD, _, _⟩ := hns.count hw
  refine PySem.W.set_plain I.kIn (ox := { cls := .ref C, dict := some dx, data := .fields #[.ref t1, .none, .none, .none, .bool false, .none] }) (od := some oD) ⟨ho, rfl, rfl, hoD⟩ T.sa ?_
  refine osa_more EB I.kIn ho hns hw (by rw [List.length_map]; omega) hcd hmro hdict hno (fun h' tk' k hn => ?_)
  have hd : ∃ o, h'.get? dx = some o := by
    obtain ⟨o, _, _, e', _⟩ := hn
    exact ⟨o, e'⟩
  exact h _ (I.write (t' := tk') (x := dx) (e := dx) (o := exd dx ((f, y) :: fs)) (by rw [ed]; exact True.intro) (.inl rfl) k hd (exd_ok hn (relO_put ry rel)))
end
def tOstM (K : PySem.W.Frag) (tl : List Value) (newId : String) (f : Str) (to te : TE) : TS := fun D σ H => te σ H fun y H1 => to σ H1 fun x H2 => ∃ (a C dx : Addr) (fs : List (Str × V)), x = .ref a ∧ ExcK K C tl newId ∧ PySem.W.findIn K (.ref C) f = some none ∧
  H2 a = some (exo a C (some dx)) ∧ H2 dx = some (exd dx fs) ∧ fs.length ≤ 900 ∧ D.nx σ (upd H2 dx (exd dx ((f, y) :: fs)))
theorem ps_ostM {X : Cx} {o e : Expr} {to te : TE} {f : Str} {p' pos : Pos} {B newId initId : String} {tl : List Value} (EB : ExB B newId initId tl) (ho : PE X o to) (he : PE X e te) (hs : swapsWith e (some (.Attribute o f p')) pos.line X.env = pure false := by rfl) : PS X (.Assign [.Attribute o f p'] e pos) (tOstM X.K tl newId f to te) := by
  constructor
  intro pins s σ H D I h
  refine plainObj_wpAny_Assign_Attribute (thn (he.run pins s σ H _ I h) fun v s1 hv => ?_) hs
  obtain ⟨y, H1, I1, r1, q1⟩ := hv
  refine thn (ho.run pins s1 σ H1 _ I1 q1) fun u s2 hu => ?_
  obtain ⟨x, H2, I2, r2, a, C, dx, fs, ex, T, hno, ea, ed, hl, q⟩ := hu
  subst ex
  cases (show u = Value.ref a from r2)
  exact ost_more EB T I2 ea ed hl hno r1 fun s' J => ⟨σ, _, J, q⟩
end Lw

set_option Elab.async false
set_option linter.all false
set_option maxRecDepth 100000
set_option maxHeartbeats 4000000
namespace Lw
open PySem PySem.Spec PyProof.Rows L2
/-! ## exceptions with fields that are data -/
def ExF (K : PySem.W.Frag) (H : Hp) (v : V) (D : Addr) (fd : List (Str × PyData)) : Prop := ∃ (a dx : Addr) (fs : List (Str × V)), v = .ref a ∧ H a = some (exo a D (some dx)) ∧ H dx = some (exd dx fs) ∧ ∀ f d, (f, d) ∈ fd → ∃ y, fs.lookup f = some y ∧ Dq K H y d
theorem ExF.same {K : PySem.W.Frag} {H H' : Hp} {v : V} {D : Addr} {fd : List (Str × PyData)} (h : ExF K H v D fd) (s : Same H H') : ExF K H' v D fd := by
  obtain ⟨a, dx, fs, e, h1, h2, h3⟩ := h
  refine ⟨a, dx, fs, e, s _ _ h1, s _ _ h2, fun f d hf => ?_⟩
  obtain ⟨y, l, q⟩ := h3 f d hf
  exact ⟨y, l, q.same s⟩
theorem ExF.isE {K : PySem.W.Frag} {H : Hp} {v : V} {D : Addr} {fd : List (Str × PyData)} (h : ExF K H v D fd) : IsE H v D := by
  obtain ⟨a, dx, fs, e, h1, h2, _⟩ := h
  exact ⟨a, e, .inl ⟨dx, fs, h1, h2⟩⟩
/-- what may be handed to an exception -/
structure Hx (d : PyData) : Prop where
  dp : d.depth ≤ 5
  sl : slim d = true
/-- the promise of an `__init__` that keeps its arguments as fields -/
def sp_init (K : PySem.W.Frag) (C : Addr) (fl : List Str) : Sp := fun vs H Q _ => ∃ (a : Addr) (xs : List V) (ds : List PyData), vs = .ref a :: xs ∧ xs.length = fl.length ∧ H a = some (exo a C none) ∧ DqAll K (off H a) xs ds ∧ (∀ d ∈ ds, Hx d) ∧
  ∀ H', Same (off H a) H' → ExF K H' (.ref a) C (fl.zip ds) → (∀ m, H m ≠ none → m ≠ a → DqAll K (off (off H a) m) xs ds → ExF K (off H' m) (.ref a) C (fl.zip ds)) → Q .non H'
theorem off_new1 {H : Hp} {a : Addr} {o : HO} (n : H a = none) : Same H (off (upd H a o) a) := fun b u e => by
  have ne := ne_of_none e n
  rw [off_ne ne, upd_ne ne]
  exact e
theorem mk_ok {K : PySem.W.Frag} {C : Addr} {fl : List Str} {xs : List V} {ds : List PyData} {H : Hp} {Q : VK} (hd : DqAll K H xs ds) (hx : ∀ d ∈ ds, Hx d) (hl : xs.length = fl.length)
    (k : ∀ v H', Same H H' → ExF K H' v C (fl.zip ds) → (∀ m, H m ≠ none → DqAll K (off H m) xs ds → ExF K (off H' m) v C (fl.zip ds)) → Q v H') :
    ∀ a, H a = none → sp_init K C fl (.ref a :: xs) (upd H a (exo a C none)) (fun v H2 => v = .non ∧ Q (.ref a) H2) E0 := by
  intro a na
  have s0 : Same H (off (upd H a (exo a C none)) a) := off_new1 na
  refine ⟨a, xs, ds, rfl, hl, upd_same, DqAll.same s0 hd, hx, fun H' s' x' m' => ⟨rfl, k _ H' (s0.trans s') x' fun m hm hdm => m' m ?_ ?_ ?_⟩⟩
  · have n : m ≠ a := fun e => hm (e ▸ na)
    rw [upd_ne n]
    exact hm
  · exact fun e => hm (e ▸ na)
  · exact DqAll.same (off_mono s0) hdm
/-! ## lists of things by numbers -/
inductive AllX (R : Nat → Hp → V → Prop) : Hp → List V → List Nat → Prop
  | nil {H : Hp} : AllX R H [] []
  | cons {H : Hp} {v : V} {i : Nat} {vs : List V} {is : List Nat} (h : R i H v) (g : AllX R H vs is) : AllX R H (v :: vs) (i :: is)
def Mono (R : Nat → Hp → V → Prop) : Prop := ∀ i H H' v, Same H H' → R i H v → R i H' v
theorem AllX.same {R : Nat → Hp → V → Prop} (mono : Mono R) {H H' : Hp} (s : Same H H') : ∀ {vs : List V} {is : List Nat}, AllX R H vs is → AllX R H' vs is
  | _, _, .nil => .nil
  | _, _, .cons h g => .cons (mono _ _ _ _ s h) (AllX.same mono s g)
theorem AllX.app {R : Nat → Hp → V → Prop} {H : Hp} : ∀ {vs ws : List V} {is js : List Nat}, AllX R H vs is → AllX R H ws js → AllX R H (vs ++ ws) (is ++ js)
  | _, _, _, _, .nil, q => q
  | _, _, _, _, .cons h g, q => .cons h (g.app q)
theorem AllX.len {R : Nat → Hp → V → Prop} {H : Hp} : ∀ {vs : List V} {is : List Nat}, AllX R H vs is → vs.length = is.length
  | _, _, .nil => rfl
  | _, _, .cons _ g => congrArg Nat.succ g.len
theorem AllX.get {R : Nat → Hp → V → Prop} {H : Hp} : ∀ {vs : List V} {is : List Nat} {j : Nat} {v : V}, AllX R H vs is → vs[j]? = some v → ∃ i, is[j]? = some i ∧ R i H v
  | _, _, _, _, .nil, e => by simp at e
  | _, _, 0, _, .cons h _, e => by
    simp at e
    subst e
    exact ⟨_, rfl, h⟩
  | _, _, j + 1, v, .cons _ g, e => by
    obtain ⟨i, h1, h2⟩ := AllX.get (j := j) (v := v) g (by simpa using e)
    exact ⟨i, by simpa using h1, h2⟩
/-- a display of such things -/
def MkI (R : Nat → Hp → V → Prop) (ta : TA) (σ : L2.St) (H0 : Hp) (is : List Nat) : Prop := ∀ H (Q : List V → Hp → Prop), Same H0 H → (∀ vs H', Same H H' → AllX R H' vs is → Q vs H') → ta σ H Q
def Mk1 (R : Nat → Hp → V → Prop) (te : TE) (σ : L2.St) (H0 : Hp) (i : Nat) : Prop := ∀ H (Q : VK), Same H0 H → (∀ v H', Same H H' → R i H' v → Q v H') → te σ H Q
section
variable {R : Nat → Hp → V → Prop} {σ : L2.St} {H0 : Hp}
theorem MkI.nil : MkI R tNil σ H0 [] := fun H Q _ k => k _ H (Same.refl H) .nil
theorem MkI.cons (mono : Mono R) {te : TE} {ta : TA} {i : Nat} {is : List Nat} (h1 : Mk1 R te σ H0 i) (h2 : MkI R ta σ H0 is) : MkI R (tCons te ta) σ H0 (i :: is) := fun H Q s k =>
  h1 H _ s fun v H1 s1 r1 => h2 H1 _ (s.trans s1) fun vs H2 s2 r2 => k _ H2 (s1.trans s2) (.cons (mono _ _ _ _ s2 r1) r2)
theorem s_lstX {ta : TA} {is : List Nat} {i : Nat} {u : TS} {D : Ends} (h : MkI R ta σ H0 is) (hl : is.length ≤ 900)
    (k : ∀ vs H1 p, Same H0 H1 → AllX R H1 vs is → H1 p = none → u D (σ.set i (some (.ref p))) (upd H1 p (.lst vs))) : tSeq (tAsg (tLst ta) (gName i)) u D σ H0 := by
  refine h H0 _ (Same.refl H0) fun vs H1 s r => ⟨?_, fun p np => k vs H1 p s r np⟩
  rw [r.len]
  exact Nat.le_of_lt (small1000 (by omega))
theorem s_catX (mono : Mono R) {ta : TA} {is : List Nat} {i : Nat} {u : TS} {D : Ends} {t : Addr} {xs : List V} (h : MkI R ta σ H0 is) (hl : xs.length + is.length ≤ 900) (hi : σ[i]? = some (some (.ref t))) (ht : H0 t = some (.lst xs))
    (k : ∀ vs H1 p, Same H0 H1 → AllX R H1 vs is → H1 p = none → u D (σ.set i (some (.ref p))) (upd H1 p (.lst (xs ++ vs)))) : tSeq (tAsg (tOp rCat (tVar i) (tLst ta)) (gName i)) u D σ H0 := by
  refine ⟨.ref t, hi, h H0 _ (Same.refl H0) fun vs H1 s r => ⟨?_, fun p np => ⟨t, p, xs, vs, rfl, rfl, ?_, upd_same, ?_, fun p2 np2 => ?_⟩⟩⟩
  · rw [r.len]
    exact Nat.le_of_lt (small1000 (by omega))
  · rw [upd_ne (ne_of_none (s _ _ ht) np)]
    exact s _ _ ht
  · rw [r.len]
    exact Nat.le_of_lt (small1000 (by omega))
  · exact k vs (upd H1 p (.lst vs)) p2 (s.trans (same_upd np)) (r.same mono (same_upd np)) np2
end
end Lw

set_option Elab.async false
set_option linter.all false
set_option maxRecDepth 100000
set_option maxHeartbeats 4000000
namespace Lw
open PySem PySem.Spec PyProof.Rows L2
/-! ## list(zip(a, b)) of two lists of one length -/
theorem zip_no_len : typeLookup (.type "zip") "__len__" = pure none := am_miss_of_fast (by decide +kernel)
theorem zip_no_hint : typeLookup (.type "zip") "__length_hint__" = pure none := am_miss_of_fast (by decide +kernel)
structure Zst (z TI TO i1 i2 l1 l2 : Addr) (B : Nat) (xs ys : Array Value) (i : Nat) (h : Heap) : Prop where
  ti : IsPair h TI (.ref i1) (.ref i2)
  a1 : h.IsListIter i1 l1 i
  a2 : h.IsListIter i2 l2 i
  b1 : h.IsList l1 xs
  b2 : h.IsList l2 ys
  z : (IsZip h z TI TO .none ∧ ∃ a b, IsPair h TO a b) ∨ ∃ (T : Addr) (f : Bool) (oT : Obj), IsZipHeld h z TI TO T f ∧ h.get? T = some oT ∧ B ≤ T
section
variable {prog : Program} {w : World} {A : Around} {E : Value → Shared → Prop} {s : Shared} {z TI TO i1 i2 l1 l2 S : Addr} {B : Nat} {xs ys : Array Value}
theorem Zst.frame {i : Nat} {h h' : Heap} (Z : Zst z TI TO i1 i2 l1 l2 B xs ys i h) (n : ∀ b, b = z ∨ b = TI ∨ b = TO ∨ b = i1 ∨ b = i2 ∨ b = l1 ∨ b = l2 ∨ B ≤ b → b ≠ S) (k : ∀ b o, b ≠ S → h.get? b = some o → h'.get? b = some o) : Zst z TI TO i1 i2 l1 l2 B xs ys i h' := by
  refine ⟨k _ _ (n _ (by simp)) Z.ti, Z.a1.at fun o e => k _ o (n _ (by simp)) e, Z.a2.at fun o e => k _ o (n _ (by simp)) e, Z.b1.at fun o e => k _ o (n _ (by simp)) e, Z.b2.at fun o e => k _ o (n _ (by simp)) e, ?_⟩
  rcases Z.z with ⟨hz, a, b, hTO⟩ | ⟨T, f, oT, hz, hT, hB⟩
  · exact .inl ⟨k _ _ (n _ (by simp)) hz, a, b, k _ _ (n _ (by simp)) hTO⟩
  · exact .inr ⟨T, f, oT, k _ _ (n _ (by simp)) hz, k _ _ (n _ (by simp [hB])) hT, hB⟩
theorem far {B b T : Nat} (h1 : b < B) (h2 : B ≤ T) : T ≠ b := by omega
theorem zip_step (D : ZipApart z TI TO i1 i2 l1 l2) (lt : z < B ∧ TI < B ∧ TO < B ∧ i1 < B ∧ i2 < B ∧ l1 < B ∧ l2 < B) {i : Nat} (Z : Zst z TI TO i1 i2 l1 l2 B xs ys i s.heap) (hB : B ≤ s.heap.objs.size) {x y : Value} (hx : xs[i]? = some x) (hy : ys[i]? = some y)
    {Q : Option Value → Shared → Prop} (hQ : ∀ h', IsPair h' s.heap.objs.size x y → Zst z TI TO i1 i2 l1 l2 B xs ys (i + 1) h' → h'.objs.size = s.heap.objs.size + 1 → (∀ c o, c ≠ z → c ≠ TO → c ≠ i1 → c ≠ i2 → s.heap.get? c = some o → h'.get? c = some o) → Q (some (.ref s.heap.objs.size)) { s with heap := h' }) :
    wpAny (model prog w) A (pyNext (.ref z)) Q E s := by
  obtain ⟨lz, lTI, lTO, li1, li2, ll1, ll2⟩ := lt
  rcases Z.z with ⟨hz, a, b, hTO⟩ | ⟨T, f, oT, hz, hT, hT2⟩
  · refine wpAny_pyNext_zip_item D hz Z.ti hTO Z.a1 Z.a2 Z.b1 Z.b2 hx hy fun h' a1 a2 a3 a4 a5 a6 hk => ?_
    exact hQ h' a5 ⟨hk _ _ D.TIz D.TITO D.TIi1 D.TIi2 Z.ti, a3, a4, Z.b1.at fun o e => hk _ o D.l1z D.l1TO D.l1i1 D.l1i2 e, Z.b2.at fun o e => hk _ o D.l2z D.l2TO D.l2i1 D.l2i2 e, .inr ⟨_, false, _, a1, a5, hB⟩⟩ a6 hk
  · refine wpAny_pyNext_zip_item_held D hz hT Z.ti Z.a1 Z.a2 Z.b1 Z.b2 hx hy fun h' a1 a3 a4 a5 a6 hk => ?_
    exact hQ h' a5 ⟨hk _ _ D.TIz D.TIi1 D.TIi2 Z.ti, a3, a4, Z.b1.at fun o e => hk _ o D.l1z D.l1i1 D.l1i2 e, Z.b2.at fun o e => hk _ o D.l2z D.l2i1 D.l2i2 e, .inr ⟨T, true, oT, a1, hk _ _ (far lz hT2) (far li1 hT2) (far li2 hT2) hT, hT2⟩⟩ a6 fun c o c1 _ c3 c4 e => hk c o c1 c3 c4 e
/-- what the list has so far -/
def Pairs (B : Nat) (xs ys acc : Array Value) (h : Heap) : Prop := (∀ (j : Nat) (x y : Value), j < acc.size → xs[j]? = some x → ys[j]? = some y → ∃ T : Addr, acc[j]? = some (Value.ref T) ∧ B ≤ T ∧ IsPair h T x y) ∧ (∀ (j : Nat) (v : Value), acc[j]? = some v → ∃ T : Addr, v = Value.ref T ∧ B ≤ T ∧ T < h.objs.size) ∧ acc.toList.Nodup
theorem zip_loop {R : Result → Shared → Prop} (hh : A.handled = none) (D : ZipApart z TI TO i1 i2 l1 l2) (lt : z < B ∧ TI < B ∧ TO < B ∧ i1 < B ∧ i2 < B ∧ l1 < B ∧ l2 < B) (hS : ∀ b, b = z ∨ b = TI ∨ b = TO ∨ b = i1 ∨ b = i2 ∨ b = l1 ∨ b = l2 ∨ B ≤ b → b ≠ S) (hxy : xs.size = ys.size) (hn : xs.size ≤ 1000) :
    ∀ (k i : Nat) (s : Shared) (acc : Array Value) (c : Nat), xs.size - i = k → i ≤ xs.size → acc.size = i → B ≤ s.heap.objs.size → Zst z TI TO i1 i2 l1 l2 B xs ys i s.heap → s.heap.get? S = some { cls := .type "list", dict := none, data := .seq acc c, slots := #[] } → Pairs B xs ys acc s.heap →
      (∀ h' acc' c', (∀ b o, b ≠ z → b ≠ TO → b ≠ i1 → b ≠ i2 → b ≠ S → s.heap.get? b = some o → h'.get? b = some o) → h'.get? S = some { cls := .type "list", dict := none, data := .seq acc' c', slots := #[] } → acc'.size = xs.size → Pairs B xs ys acc' h' → R (.ok (.ret .none)) { s with heap := h' }) →
      codeAny (model prog w) A (.builtin "list.extend.loop" ⟨[.ref S, .ref z, .none], []⟩) R s := by
  intro k
  induction k with
  | zero =>
    intro i s acc c hk hi ha hB Z hl P hR
    have hin : i = xs.size := by omega
    subst hin
    refine codeAny_builtin F.entry_extend_loop ?_
    rw [Around.under_plainId F.plain_extend_loop _]
    show wpAny _ A.in1 (pyNext (.ref z) >>= _) _ _ s
    have hend : xs[xs.size]? = none ∨ ys[xs.size]? = none := .inl (Array.getElem?_eq_none (Nat.le_refl _))
    have fin : ∀ h', (∀ c o, c ≠ z → c ≠ TO → c ≠ i1 → c ≠ i2 → s.heap.get? c = some o → h'.get? c = some o) → R (.ok (.ret .none)) { s with heap := h' } := fun h' hk => by
      refine hR h' acc c (fun b o b1 b2 b3 b4 _ e => hk b o b1 b2 b3 b4 e) (hk _ _ (hS z (by simp)).symm (hS TO (by simp)).symm (hS i1 (by simp)).symm (hS i2 (by simp)).symm hl) ha ⟨fun j x y hj hx hy => ?_, fun j v hv => ?_, P.2.2⟩
      · obtain ⟨T, e1, e2, e3⟩ := P.1 j x y hj hx hy
        obtain ⟨lz, _, lTO, li1, li2, _⟩ := lt
        exact ⟨T, e1, e2, hk _ _ (far lz e2) (far lTO e2) (far li1 e2) (far li2 e2) e3⟩
      · obtain ⟨T, e1, e2, e3⟩ := P.2.1 j v hv
        refine ⟨T, e1, e2, ?_⟩
        have hj : j < acc.size := (Array.getElem?_eq_some_iff.mp hv).1
        have hjx : j < xs.size := by omega
        have hjy : j < ys.size := by omega
        obtain ⟨T', q1, q2, q3⟩ := P.1 j _ _ hj (Array.getElem?_eq_getElem hjx) (Array.getElem?_eq_getElem hjy)
        rw [hv, e1] at q1
        cases q1
        obtain ⟨lz, _, lTO, li1, li2, _⟩ := lt
        exact Heap.lt_size (hk _ _ (far lz q2) (far lTO q2) (far li1 q2) (far li2 q2) q3)
    rcases Z.z with ⟨hz, a, b, hTO⟩ | ⟨T, f, oT, hz, hT, hT2⟩
    · exact wpAny_bind (wpAny_pyNext_zip_end hh D hz Z.ti hTO Z.a1 Z.a2 Z.b1 Z.b2 hend fun h' hk => wpAny_pure (fin h' hk))
    · exact wpAny_bind (wpAny_pyNext_zip_end_held hh D hz hT Z.ti Z.a1 Z.a2 Z.b1 Z.b2 hend fun h' hk => wpAny_pure (fin h' fun c o c1 _ c3 c4 e => hk c o c1 c3 c4 e))
  | succ k ih =>
    intro i s acc c hk hi ha hB Z hl P hR
    have hix : i < xs.size := by omega
    have hiy : i < ys.size := by omega
    refine codeAny_builtin F.entry_extend_loop ?_
    rw [Around.under_plainId F.plain_extend_loop _]
    show wpAny _ A.in1 (pyNext (.ref z) >>= _) _ _ s
    refine wpAny_bind (zip_step D lt Z hB (Array.getElem?_eq_getElem hix) (Array.getElem?_eq_getElem hiy) fun h' e5 Z' e6 hk' => ?_)
    have hS' := hk' _ _ (hS z (by simp)).symm (hS TO (by simp)).symm (hS i1 (by simp)).symm (hS i2 (by simp)).symm hl
    show wpAny _ A.in1 (updateSeq S (·.push (.ref s.heap.objs.size)) >>= _) _ _ _
    refine wpAny_bind ?_
    have oth : ∀ b o, b ≠ S → h'.get? b = some o → (h'.update S (Obj.mapSeq (·.push (Value.ref s.heap.objs.size)))).get? b = some o := fun b o hb e => (Heap.get?_update_other _ _ (Ne.symm hb)).trans e
    have usz : (h'.update S (Obj.mapSeq (·.push (Value.ref s.heap.objs.size)))).objs.size = h'.objs.size := Heap.size_update ..
    obtain ⟨lz, _, lTO, li1, li2, _⟩ := lt
    refine wpAny_updateSeq hS' rfl (wpAny_pure ⟨plainId_quiet F.plain_extend_loop _, ih (i + 1) _ (acc.push (.ref s.heap.objs.size)) _ (by omega) (by omega) (by rw [Array.size_push, ha]) ?_ (Z'.frame hS oth) (Heap.get?_update_self _ hS' rfl) ⟨fun j x y hj hx hy => ?_, fun j v hv => ?_, ?_⟩ fun h'' acc' c' hm hl' hz' P' => ?_⟩) ?_ ?_
    · show B ≤ (h'.update S _).objs.size
      rw [usz, e6]
      omega
    · rw [Array.size_push] at hj
      by_cases hji : j = i
      · subst hji
        rw [Array.getElem?_eq_getElem hix] at hx
        rw [Array.getElem?_eq_getElem hiy] at hy
        cases hx
        cases hy
        refine ⟨s.heap.objs.size, ?_, hB, oth _ _ (hS _ (by simp [hB])) e5⟩
        rw [← ha]
        exact Array.getElem?_push_size
      · have hj' : j < acc.size := by omega
        obtain ⟨T, q1, q2, q3⟩ := P.1 j x y hj' hx hy
        refine ⟨T, ?_, q2, oth _ _ (hS T (by simp [q2])) (hk' _ _ (far lz q2) (far lTO q2) (far li1 q2) (far li2 q2) q3)⟩
        rw [Array.getElem?_push_lt hj']
        rw [Array.getElem?_eq_getElem hj'] at q1
        exact q1
    · have hj : j < acc.size + 1 := by
        have := (Array.getElem?_eq_some_iff.mp hv).1
        rw [Array.size_push] at this
        exact this
      show ∃ T, v = Value.ref T ∧ B ≤ T ∧ T < (h'.update S _).objs.size
      by_cases hji : j = acc.size
      · subst hji
        rw [Array.getElem?_push_size] at hv
        cases hv
        exact ⟨s.heap.objs.size, rfl, hB, by rw [usz, e6]; exact Nat.lt_succ_self _⟩
      · rw [Array.getElem?_push_lt (by omega)] at hv
        obtain ⟨T, q1, q2, q3⟩ := P.2.1 j v (by rw [Array.getElem?_eq_getElem (by omega)]; exact hv)
        exact ⟨T, q1, q2, by rw [usz, e6]; exact Nat.lt_succ_of_lt q3⟩
    · rw [Array.toList_push]
      refine List.nodup_append.mpr ⟨P.2.2, by simp, fun a ha' b hb => ?_⟩
      cases List.mem_singleton.mp hb
      intro e
      subst e
      obtain ⟨j, hj⟩ := List.mem_iff_getElem?.mp ha'
      rw [Array.getElem?_toList] at hj
      obtain ⟨T, q1, q2, q3⟩ := P.2.1 j _ hj
      cases q1
      exact Nat.lt_irrefl _ q3
    · refine hR h'' acc' c' (fun b o b1 b2 b3 b4 b5 e => ?_) hl' hz' P'
      exact hm b o b1 b2 b3 b4 b5 (oth b o b5 (hk' b o b1 b2 b3 b4 e))
    · rw [ha]
      exact Nat.le_of_lt (small1000 (by omega))
    · show (acc.push _).size ≤ sizeLine + 1
      rw [Array.size_push, ha]
      exact Nat.le_of_lt (Nat.lt_succ_of_lt (small1000 (by omega)))
end
section
variable {prog : Program} {w : World} {A : Around} {E : Value → Shared → Prop} {s : Shared} {l1 l2 : Nat} {N : Nat} {xs ys : Array Value}
theorem al {a b : Nat} (h : a < b) : a < b := h
theorem nl {a b : Nat} (h : a < b) : a ≠ b := Nat.ne_of_lt h
theorem ng {a b : Nat} (h : b < a) : a ≠ b := Nat.ne_of_gt h
theorem call_list_zip {Q : Value → Shared → Prop} (hh : A.handled = none) (hN : s.heap.objs.size = N + 5) (h1 : l1 < N) (h2 : l2 < N) (hxy : xs.size = ys.size) (hn : xs.size ≤ 1000)
    (hz : IsZip s.heap (N + 4) (N + 2) (N + 3) .none) (hTI : IsPair s.heap (N + 2) (.ref N) (.ref (N + 1))) (hTO : IsPair s.heap (N + 3) .none .none) (ha1 : s.heap.IsListIter N l1 0) (ha2 : s.heap.IsListIter (N + 1) l2 0) (hl1 : s.heap.IsList l1 xs) (hl2 : s.heap.IsList l2 ys)
    (hQ : ∀ h' acc' c', (∀ b o, b < N → s.heap.get? b = some o → h'.get? b = some o) → h'.get? (N + 5) = some { cls := .type "list", dict := none, data := .seq acc' c', slots := #[] } → acc'.size = xs.size → Pairs (N + 6) xs ys acc' h' → Q (.ref (N + 5)) { s with heap := h' }) :
    wpAny (model prog w) A (call (.type "list") [.ref (N + 4)]) Q E s := by
  have h1' : (l1 : Nat) < N := h1
  have h2' : (l2 : Nat) < N := h2
  have D : ZipApart (N + 4) (N + 2) (N + 3) N (N + 1) l1 l2 := by
    exact ⟨nl (by omega), nl (by omega), nl (by omega), nl (by omega), nl (by omega), ng (by omega), ng (by omega), ng (by omega), ng (by omega), nl (by omega), nl (by omega), nl (by omega), nl (by omega), nl (by omega), nl (by omega), nl (by omega), nl (by omega), nl (by omega)⟩
  refine callType_codes (Q₁ := fun obj s₁ => obj = .ref s.heap.objs.size ∧ s₁ = { s with heap := s.heap.push { cls := .type "list", data := .seq #[] } }) F.called_list (F.typeCall_list_1 _) F.entry_list_init
    (code_list_new _ ⟨rfl, rfl⟩) fun obj s₁ h₁ => ?_
  obtain ⟨rfl, rfl⟩ := h₁
  have hS : (s.heap.push { cls := .type "list", data := .seq #[] }).get? s.heap.objs.size = some { cls := .type "list", data := .seq #[] } := Heap.get?_push_size _ rfl
  refine ⟨⟨_, hS, rfl⟩, F.args_list_init_2 _ _, ?_⟩
  rw [hN] at hS ⊢
  show wpAny _ A.in1.in1 (do let old ← Builtin.List.listItems (.ref (N + 5)); Builtin.List.listUpdate (.ref (N + 5)) (fun _ => #[]); letGo old.toList.reverse; Builtin.List.listExtendWith (.ref (N + 5)) (.ref (N + 4)) .none) _ _ _
  refine wpAny_bind ?_
  unfold Builtin.List.listItems
  refine wpAny_bind (wpAny_seqItems hS rfl (wpAny_pure ?_))
  show wpAny _ A.in1.in1 (updateSeq (N + 5) (fun _ => #[]) >>= fun _ => letGo (#[] : Array Value).toList.reverse >>= fun _ => Builtin.List.listExtendWith (.ref (N + 5)) (.ref (N + 4)) .none) _ _ _
  refine wpAny_bind (wpAny_updateSeq hS rfl ?_)
  have hS2 := Heap.get?_update_self (Obj.mapSeq (fun _ => (#[] : Array Value))) hS rfl
  refine wpAny_bind (wpAny_letGo ?_)
  unfold Builtin.List.listExtendWith
  have up : ∀ (h : Heap) (f : Obj → Obj), (∀ b o, b ≠ N + 5 → s.heap.get? b = some o → h.get? b = some o) → ∀ b o, b ≠ N + 5 → s.heap.get? b = some o → (h.update (N + 5) f).get? b = some o := fun h f q b o n e =>
    (Heap.get?_update_other _ _ (Ne.symm n)).trans (q b o n e)
  have k1 : ∀ b o, b ≠ N + 5 → s.heap.get? b = some o → (s.heap.push { cls := .type "list", data := .seq #[] }).get? b = some o := fun b o _ e => Heap.get?_push_of_some _ e
  have k2 := up _ (Obj.mapSeq (fun _ => (#[] : Array Value))) k1
  have zty : ∀ {h : Heap}, (∀ b o, b ≠ N + 5 → s.heap.get? b = some o → h.get? b = some o) → IsZip h (N + 4) (N + 2) (N + 3) .none := fun {h} q => q _ _ (nl (by omega)) hz
  refine wpAny_bind (wpAny_typeOf (T := "zip") ⟨_, zty k2, rfl⟩ ?_)
  have e1 : Builtin.List.listSameRef (.ref (N + 5)) (.ref (N + 4)) = false := by simp [Builtin.List.listSameRef]
  have e2 : (Value.type "zip" == Value.type "list") = false := by decide
  have e3 : (Value.type "zip" == Value.type "tuple") = false := by decide
  simp only [e1, e2, e3, Bool.or_false, Bool.false_eq_true, if_false]
  refine wpAny_bind (wpAny_pyIter_zip (zty k2) ?_)
  refine wpAny_bind (wpAny_holding ?_)
  unfold Builtin.List.listLengthHint
  refine wpAny_bind (wpAny_specialOf (T := "zip") ⟨_, zty k2, rfl⟩ zip_no_len ?_)
  show wpAny _ A.in1.in1 (specialOf (Value.ref (N + 4)) (Str.ofString "__length_hint__") >>= _) _ _ _
  refine wpAny_bind (wpAny_specialOf (T := "zip") ⟨_, zty k2, rfl⟩ zip_no_hint ?_)
  refine wpAny_pure ?_
  show wpAny _ A.in1.in1 (rule "list.extend.makes-room" >>= fun _ => Builtin.List.listTouch (.ref (N + 5)) >>= fun _ =>
    again (.builtin "list.extend.loop" ⟨[.ref (N + 5), .ref (N + 4), .none], []⟩)) _ _ _
  refine wpAny_bind (wpAny_rule ?_)
  refine wpAny_bind ?_
  show wpAny _ A.in1.in1 (updateSeq (N + 5) (·.push .none) >>= fun _ => updateSeq (N + 5) (·.pop)) _ _ _
  refine wpAny_bind (wpAny_updateSeq hS2 rfl ?_)
  have hS3 := Heap.get?_update_self (Obj.mapSeq (·.push Value.none)) hS2 rfl
  refine wpAny_updateSeq (hz := by seq_fits) hS3 rfl ?_
  have hS4 := Heap.get?_update_self (Obj.mapSeq (·.pop)) hS3 rfl
  have k4 := up _ (Obj.mapSeq (·.pop)) (up _ (Obj.mapSeq (·.push Value.none)) k2)
  refine wpAny_pure ⟨plainId_quiet F.plain_extend_loop _, ?_⟩
  refine zip_loop (A := A.in1) (B := N + 6) (S := N + 5) hh D ⟨al (by omega), al (by omega), al (by omega), al (by omega), al (by omega), al (by omega), al (by omega)⟩ (fun b hb => by
      rcases hb with rfl | rfl | rfl | rfl | rfl | rfl | rfl | hb
      · exact nl (by omega)
      · exact nl (by omega)
      · exact nl (by omega)
      · exact nl (by omega)
      · exact nl (by omega)
      · exact nl (by omega)
      · exact nl (by omega)
      · exact ng (by omega)) hxy hn xs.size 0 _ #[] _ rfl (Nat.zero_le _) rfl ?_ ?_ hS4 ⟨fun j x y hj => absurd hj (Nat.not_lt_zero _), fun j v hv => by simp at hv, by simp⟩ fun h' acc' c' hk hl hz' P => ?_
  · show N + 6 ≤ (Heap.update _ _ _).objs.size
    rw [Heap.size_update, Heap.size_update, Heap.size_update, Heap.size_push, hN]
    exact Nat.le_refl _
  · have ni : ∀ {b : Nat}, b ≤ N + 4 → b ≠ N + 5 := fun h => by omega
    exact ⟨k4 _ _ (ni (by omega)) hTI, ha1.at fun o e => k4 _ o (ni (by omega)) e, ha2.at fun o e => k4 _ o (ni (by omega)) e, hl1.at fun o e => k4 _ o (ni (by omega)) e, hl2.at fun o e => k4 _ o (ni (by omega)) e, .inl ⟨k4 _ _ (ni (by omega)) hz, _, _, k4 _ _ (ni (by omega)) hTO⟩⟩
  · exact ⟨rfl, hQ h' acc' c' (fun b o hb e => hk b o (nl (by omega)) (nl (by omega)) (nl (by omega)) (nl (by omega)) (nl (by omega)) (k4 b o (nl (by omega)) e)) hl hz' P⟩
end
/-! ### as an expression -/
theorem look_of : ∀ {Ts : List Addr} {ps : List (V × V)} {j : Nat} {T : Addr} {p : V × V}, Ts.Nodup → Ts[j]? = some T → ps[j]? = some p → (Ts.zip ps).lookup T = some p
  | [], _, _, _, _, _, h, _ => by simp at h
  | _ :: _, [], _, _, _, _, _, h => by simp at h
  | t :: ts, q :: qs, 0, T, p, _, h1, h2 => by
    simp at h1 h2
    subst h1 h2
    simp [List.lookup]
  | t :: ts, q :: qs, j + 1, T, p, nd, h1, h2 => by
    simp at h1 h2
    have ne : T ≠ t := by
      intro e
      subst e
      exact (List.nodup_cons.mp nd).1 (List.mem_of_getElem? h1)
    have ih := look_of (ps := qs) (List.nodup_cons.mp nd).2 h1 h2
    show List.lookup T ((t, q) :: ts.zip qs) = _
    rw [List.lookup_cons, show (T == t) = false by simpa using ne]
    exact ih
theorem look_at : ∀ {Ts : List Addr} {ps : List (V × V)} {T : Addr} {p : V × V}, (Ts.zip ps).lookup T = some p → ∃ j : Nat, Ts[j]? = some T ∧ ps[j]? = some p
  | [], _, _, _, h => by simp at h
  | _ :: _, [], _, _, h => by simp at h
  | t :: ts, q :: qs, T, p, h => by
    by_cases e : T = t
    · subst e
      simp [List.lookup] at h
      subst h
      exact ⟨0, rfl, rfl⟩
    · have h' : List.lookup T ((t, q) :: ts.zip qs) = some p := h
      rw [List.lookup_cons, show (T == t) = false by simpa using e] at h'
      obtain ⟨j, h1, h2⟩ := look_at (Ts := ts) (ps := qs) h'
      exact ⟨j + 1, by simpa using h1, by simpa using h2⟩
def tListZip (K : PySem.W.Frag) (ta : TA) : TE := fun σ H Q => ta σ H fun vs H1 => ∃ (a b : Addr) (xs ys : List V), vs = [.ref a, .ref b] ∧ SqL K H1 a xs ∧ SqL K H1 b ys ∧ xs.length = ys.length ∧ xs.length ≤ 1000 ∧
  ∀ (p : Addr) (Ts : List Addr) (H2 : Hp), Same H1 H2 → H2 p = some (.lst (Ts.map V.ref)) → Ts.length = xs.length → (∀ (i : Nat) (x y : V) (T : Addr), xs[i]? = some x → ys[i]? = some y → Ts[i]? = some T → H2 T = some (.tup [x, y])) → Q (.ref p) H2
theorem addrs_of : ∀ {us : List Value}, (∀ v ∈ us, ∃ T : Addr, v = .ref T) → ∃ Ts : List Addr, us = Ts.map Value.ref
  | [], _ => ⟨[], rfl⟩
  | u :: us, h => by
    obtain ⟨T, rfl⟩ := h u (List.mem_cons_self ..)
    obtain ⟨Ts, rfl⟩ := addrs_of fun v hv => h v (List.mem_cons_of_mem _ hv)
    exact ⟨T :: Ts, rfl⟩
theorem vals_refs' : ∀ Ts : List Addr, Vals (Ts.map V.ref) (Ts.map Value.ref)
  | [] => .nil
  | _ :: r => .cons rfl (vals_refs' r)
theorem vals_get : ∀ {xs : List V} {us : List Value} {j : Nat} {x : V}, Vals xs us → xs[j]? = some x → ∃ u, us[j]? = some u ∧ L2.RelV x u
  | _, _, _, _, .nil, h => by simp at h
  | _, _, 0, _, .cons r _, h => by
    simp at h
    subst h
    exact ⟨_, rfl, r⟩
  | _, _, j + 1, _, .cons _ rs, h => by
    obtain ⟨u, e, r⟩ := vals_get (j := j) rs (by simpa using h)
    exact ⟨u, by simpa using e, r⟩
section
variable {X : Cx} {e1 e2 : Expr} {ta : TA} {p p2 pos pos2 : Pos}
theorem pe_listZip (hc : X.calm = true) (hg : Gl X "list") (hm : X.mg "list" = none) (hg2 : Gl X "zip") (hm2 : X.mg "zip" = none) (ha : PA X [e1, e2] ta)
    (hs : starEach [e1, e2] X.env = (false, eval e1 X.env) :: starEach [e2] X.env := by rfl) (hpl : (backTo pos2 (starEach [e2] X.env)).any (fun q => q.1) = false := by rfl)
    (na : starEach [.Call (.Name "zip" p2) [e1, e2] [] pos2] X.env = (false, eval (.Call (.Name "zip" p2) [e1, e2] [] pos2) X.env) :: starEach [] X.env := by rfl) :
    PE X (.Call (.Name "list" p) [.Call (.Name "zip" p2) [e1, e2] [] pos2] [] pos) (tListZip X.K ta) := by
  constructor
  intro pins s σ H Q I h
  refine Call_ (ld_blt I hg hm boot_list (PyProof.Rows.callWith_type1 (args_cons ?_ na) na))
  refine Call_ (ld_blt I hg2 hm2 PyProof.Rows.boot_zip (PyProof.Rows.callWith_type1 (thn (ha.run pos2 pins s σ H _ I h) fun us s1 hu => ?_) hs hpl))
  obtain ⟨vs, H1, I1, r1, a, b, xs, ys, ex, hqx, hqy, hl, hn, q⟩ := hu
  subst ex
  obtain ⟨u1, u2, rfl, q1, q2⟩ := vals2 r1
  cases (show u1 = Value.ref a from q1)
  cases (show u2 = Value.ref b from q2)
  obtain ⟨it1, rv1, pl1, z1⟩ := I1.list hqx
  obtain ⟨it2, rv2, pl2, z2⟩ := I1.list hqy
  have m1 : it1.length = xs.length := (Paired.length rv1).symm
  have m2 : it2.length = ys.length := (Paired.length rv2).symm
  have hl1 := pl1.isList
  have hl2 := pl2.isList
  refine call_zip_2 hl1 hl2 fun h2 b1 b2 b3 b4 b5 b6 b7 => args_nil ?_
  have l1 : a < s1.heap.objs.size := by
    obtain ⟨o, e, _⟩ := hl1
    exact Heap.lt_size e
  have l2 : b < s1.heap.objs.size := by
    obtain ⟨o, e, _⟩ := hl2
    exact Heap.lt_size e
  refine call_list_zip (s := { s1 with heap := h2 }) (N := s1.heap.objs.size) (xs := it1.toArray) (ys := it2.toArray) (I1.ok.hd hc) b6 l1 l2 (by rw [List.size_toArray, List.size_toArray, m1, m2, hl]) (by rw [List.size_toArray, m1]; exact hn) b1 b2 b3 b4 b5 (hl1.at fun o e => b7 _ o e) (hl2.at fun o e => b7 _ o e) fun h' acc c' hk hS hz P => ?_
  have kk : ∀ b o, s1.heap.get? b = some o → h'.get? b = some o := fun b o e => hk b o (Heap.lt_size e) (b7 b o e)
  obtain ⟨P1, P2, P3⟩ := P
  have hacc : ∀ v ∈ acc.toList, ∃ T : Addr, v = .ref T := fun v hv => by
    obtain ⟨j, hj⟩ := List.mem_iff_getElem?.mp hv
    rw [Array.getElem?_toList] at hj
    obtain ⟨T, e, _⟩ := P2 j v hj
    exact ⟨T, e⟩
  obtain ⟨Ts, eT⟩ := addrs_of hacc
  have lT : Ts.length = xs.length := by
    have := congrArg List.length eT
    rw [List.length_map, Array.length_toList, hz, List.size_toArray, m1] at this
    exact this.symm
  have atT : ∀ {j : Nat} {T : Addr}, Ts[j]? = some T → acc[j]? = some (.ref T) := fun {j T} hj => by
    rw [← Array.getElem?_toList, eT, List.getElem?_map, hj]
    rfl
  have ndT : Ts.Nodup := by
    rw [eT] at P3
    exact (List.pairwise_map.mp P3).imp fun h e => h (by rw [e])
  have new : ∀ {j : Nat} {T : Addr}, Ts[j]? = some T → s1.heap.objs.size + 6 ≤ (T : Nat) := fun {j T} hj => by
    obtain ⟨T', e, e2, _⟩ := P2 j _ (atT hj)
    cases e
    exact e2
  generalize hN : s1.heap.objs.size = N at *
  let H2 : Hp := fun b => if b = N + 5 then some (.lst (Ts.map V.ref)) else match (Ts.zip (xs.zip ys)).lookup b with
    | some q => some (.tup [q.1, q.2])
    | none => H1 b
  have H2S : H2 (N + 5) = some (.lst (Ts.map V.ref)) := if_pos rfl
  have H2T : ∀ {j : Nat} {T : Addr} {x y : V}, Ts[j]? = some T → xs[j]? = some x → ys[j]? = some y → H2 T = some (.tup [x, y]) := fun {j T x y} h1 h2 h3 => by
    have hT := new h1
    have lk := look_of ndT h1 (show (xs.zip ys)[j]? = some (x, y) from by rw [List.getElem?_zip_eq_some]; exact ⟨h2, h3⟩)
    show (if T = N + 5 then _ else _) = _
    rw [if_neg (ng (Nat.lt_of_lt_of_le (Nat.lt_succ_self (N + 5)) hT)), lk]
  have H2o : ∀ {b : Addr}, (b : Nat) < N → H2 b = H1 b := fun {b} hb => by
    show (if b = N + 5 then _ else _) = _
    rw [if_neg (nl (Nat.lt_of_lt_of_le hb (Nat.le_add_right N 5)))]
    cases lk : (Ts.zip (xs.zip ys)).lookup b with
    | none => rfl
    | some q =>
      obtain ⟨j, h1, _⟩ := look_at lk
      exact absurd hb (Nat.not_lt.mpr (Nat.le_trans (Nat.le_add_right N 6) (new h1)))
  have old : ∀ {b : Addr} {o : HO}, H1 b = some o → (b : Nat) < N := fun {b o} e => by
    refine Classical.byContradiction fun z => ?_
    have := I1.hok.fresh (a := b) (by rw [hN]; exact Nat.le_of_not_lt z)
    rw [this] at e
    cases e
  have sm : Same H1 H2 := fun b o e => by
    rw [H2o (old e)]
    exact e
  have U : Un X.fs [] H1 H2 s1.heap h' := {
    keep := fun b o e _ _ _ => kk b o e
    slot := fun b o e _ _ _ => ⟨o.slots, kk b o e⟩
    free := fun b o e n _ => by
      rw [H2o (by rw [← hN]; exact Heap.lt_size e)]
      exact n
    there := fun b o e _ => ⟨o, kk b o e⟩
    tups := fun b xs e => sm _ _ e
    frzs := fun b o v e => sm _ _ e
    tbls := fun b ps e => ⟨#[], by rw [sm _ _ e]; simp⟩ }
  have hok : HOk X.prog X.w H2 h' := fun b o e => by
    by_cases hb : b = N + 5
    · subst hb
      rw [H2S] at e
      cases e
      refine ⟨by rw [List.length_map, lT]; exact Nat.le_of_lt (small1000 hn), acc.toList, c', ?_, ?_⟩
      · rw [eT]
        exact vals_refs' Ts
      · rw [Array.toArray_toList]
        exact hS
    · have e' : (match (Ts.zip (xs.zip ys)).lookup b with
        | some q => some (HO.tup [q.1, q.2])
        | none => H1 b) = some o := by
        have e0 : (if b = N + 5 then some (HO.lst (Ts.map V.ref)) else match (Ts.zip (xs.zip ys)).lookup b with
          | some q => some (HO.tup [q.1, q.2])
          | none => H1 b) = some o := e
        rw [if_neg hb] at e0
        exact e0
      cases lk : (Ts.zip (xs.zip ys)).lookup b with
      | some q =>
        rw [lk] at e'
        cases e'
        obtain ⟨j, h1, h2⟩ := look_at lk
        obtain ⟨x, y⟩ := q
        rw [List.getElem?_zip_eq_some] at h2
        obtain ⟨v1, w1, w2⟩ := vals_get rv1 h2.1
        obtain ⟨v2, w3, w4⟩ := vals_get rv2 h2.2
        have hj : j < acc.size := (Array.getElem?_eq_some_iff.mp (atT h1)).1
        obtain ⟨T, t1, t2, t3⟩ := P1 j v1 v2 hj (by simpa using w1) (by simpa using w3)
        rw [atT h1] at t1
        cases t1
        exact ⟨by show 2 ≤ sizeLine; decide, [v1, v2], .cons w2 (.cons w4 .nil), _, t3, rfl, _, rfl⟩
      | none =>
        rw [lk] at e'
        exact (I1.hok b o e').stay (fun c v _ z => kk c v z) (fun c hc => sm _ _ hc) fun c xs hc => sm _ _ hc
  exact ⟨.ref (N + 5), H2, I1.un (t' := s1.toks) U hok, rfl, q _ Ts H2 sm H2S lT fun i x y T h1 h2 h3 => H2T h3 h1 h2⟩
end
end Lw

set_option Elab.async false
set_option linter.all false
set_option maxRecDepth 100000
set_option maxHeartbeats 4000000
namespace K18
open PySem PySem.Spec PyProof.Rows L2 Lw
def topS (i : Nat) : Stmt := PySem.Challenge.pw_lastheld_k18_errors_made.main.body.getD i (.Pass ⟨0, 0, 0, 0⟩)
abbrev s_kept : Stmt := topS 1
abbrev N_kept : List Str := ["value", "key", "item"]
theorem sc_kept : FnScope N_kept ["value"] (defScope s_kept) := ⟨rfl, rfl, rfl, by decide +kernel, rfl, by decide +kernel, by decide +kernel⟩
abbrev s_pot : Stmt := topS 34
abbrev N_pot : List Str := ["_law_script", "_law_k", "_law_digits"]
theorem sc_pot : FnScope N_pot ["_law_script", "_law_k"] (defScope s_pot) := ⟨rfl, rfl, rfl, by decide +kernel, rfl, by decide +kernel, by decide +kernel⟩
abbrev s_draw : Stmt := topS 35
abbrev N_draw : List Str := ["_law_pot_here", "_law_many", "_law_digit"]
theorem sc_draw : FnScope N_draw ["_law_pot_here", "_law_many"] (defScope s_draw) := ⟨rfl, rfl, rfl, by decide +kernel, rfl, by decide +kernel, by decide +kernel⟩
abbrev s_odd : Stmt := topS 36
abbrev N_odd : List Str := ["_law_pot_here", "_law_some"]
theorem sc_odd : FnScope N_odd ["_law_pot_here"] (defScope s_odd) := ⟨rfl, rfl, rfl, by decide +kernel, rfl, by decide +kernel, by decide +kernel⟩
abbrev s_flags : Stmt := topS 37
abbrev N_flags : List Str := ["_law_e", "_law_found", "_law_flag", "_law_place"]
theorem sc_flags : FnScope N_flags ["_law_e"] (defScope s_flags) := ⟨rfl, rfl, rfl, by decide +kernel, rfl, by decide +kernel, by decide +kernel⟩
abbrev s_bases : Stmt := topS 38
abbrev N_bases : List Str := ["_law_e", "_law_found"]
theorem sc_bases : FnScope N_bases ["_law_e"] (defScope s_bases) := ⟨rfl, rfl, rfl, by decide +kernel, rfl, by decide +kernel, by decide +kernel⟩
abbrev s_is : Stmt := topS 39
abbrev N_is : List Str := ["_law_e", "_law_place", "_law_group", "_law_due"]
theorem sc_is : FnScope N_is ["_law_e", "_law_place"] (defScope s_is) := ⟨rfl, rfl, rfl, by decide +kernel, rfl, by decide +kernel, by decide +kernel⟩
abbrev s_values_right : Stmt := topS 40
abbrev N_values_right : List Str := ["_law_thing", "_law_some", "_law_more", "_law_places", "_law_e", "_law_place"]
theorem sc_values_right : FnScope N_values_right ["_law_thing"] (defScope s_values_right) := ⟨rfl, rfl, rfl, by decide +kernel, rfl, by decide +kernel, by decide +kernel⟩
abbrev s_places_right : Stmt := topS 41
abbrev N_places_right : List Str := ["_law_thing", "_law_some", "_law_more", "_law_places", "_law_e", "_law_place"]
theorem sc_places_right : FnScope N_places_right ["_law_thing"] (defScope s_places_right) := ⟨rfl, rfl, rfl, by decide +kernel, rfl, by decide +kernel, by decide +kernel⟩
abbrev s_others_right : Stmt := topS 42
abbrev N_others_right : List Str := ["_law_thing", "_law_mate", "_law_third", "_law_e"]
theorem sc_others_right : FnScope N_others_right ["_law_thing", "_law_mate", "_law_third"] (defScope s_others_right) := ⟨rfl, rfl, rfl, by decide +kernel, rfl, by decide +kernel, by decide +kernel⟩
abbrev s_plain_right : Stmt := topS 43
abbrev N_plain_right : List Str := ["_law_some", "_law_group", "_law_e", "_law_due"]
theorem sc_plain_right : FnScope N_plain_right [] (defScope s_plain_right) := ⟨rfl, rfl, rfl, by decide +kernel, rfl, by decide +kernel, by decide +kernel⟩
abbrev s_law : Stmt := topS 44
abbrev N_law : List Str := ["_law_script", "_law_k", "_law_pot_here", "_law_thing", "_law_mate", "_law_third"]
theorem sc_law : FnScope N_law ["_law_script"] (defScope s_law) := ⟨rfl, rfl, rfl, by decide +kernel, rfl, by decide +kernel, by decide +kernel⟩
abbrev FnP (K : PySem.W.Frag) (x : Str) (st : Stmt) (f : Addr) (fd : FuncData) : Prop := FunD K x x (defArgs st) (defBody st) (defScope st) [] [] f fd
structure Tz (mg : Str → Option Value) : Prop where
  z_isinstance : mg "isinstance" = none
  z_list : mg "list" = none
  z_tuple : mg "tuple" = none
  z_dict : mg "dict" = none
  z_len : mg "len" = none
  z_repr : mg "repr" = none
  z_range : mg "range" = none
  z_max : mg "max" = none
  z_min : mg "min" = none
  z_abs : mg "abs" = none
  z_divmod : mg "divmod" = none
  z_zip : mg "zip" = none
  z_enumerate : mg "enumerate" = none
  z_ValueError : mg "ValueError" = none
  z_LookupError : mg "LookupError" = none
  z_RuntimeError : mg "RuntimeError" = none
  z_ArithmeticError : mg "ArithmeticError" = none
  z_KeyError : mg "KeyError" = none
  z_IndexError : mg "IndexError" = none
  z_super : mg "super" = none
/-- the classes -/
structure Tm (mg : Str → Option Value) (cs : Nat → Addr) : Prop extends Tz mg where
  m_InvalidName : mg "InvalidName" = some (.ref (cs 0))
  m_InvalidNumber : mg "InvalidNumber" = some (.ref (cs 1))
  m_InvalidLevel : mg "InvalidLevel" = some (.ref (cs 2))
  m_InvalidClock : mg "InvalidClock" = some (.ref (cs 3))
  m_InvalidCount : mg "InvalidCount" = some (.ref (cs 4))
  m_InvalidFields : mg "InvalidFields" = some (.ref (cs 5))
  m_InvalidEquation : mg "InvalidEquation" = some (.ref (cs 6))
  m_InvalidEquations : mg "InvalidEquations" = some (.ref (cs 7))
  m_InvalidSetting : mg "InvalidSetting" = some (.ref (cs 8))
  m_InvalidSettings : mg "InvalidSettings" = some (.ref (cs 9))
  m_InvalidPairs : mg "InvalidPairs" = some (.ref (cs 10))
  m_InvalidWishes : mg "InvalidWishes" = some (.ref (cs 11))
  m_InvalidNames : mg "InvalidNames" = some (.ref (cs 12))
  m_InvalidText : mg "InvalidText" = some (.ref (cs 13))
  m_InvalidCommand : mg "InvalidCommand" = some (.ref (cs 14))
  m_UnknownField : mg "UnknownField" = some (.ref (cs 15))
  m_UnknownReplica : mg "UnknownReplica" = some (.ref (cs 16))
  m_UnknownMessage : mg "UnknownMessage" = some (.ref (cs 17))
  m_NotFree : mg "NotFree" = some (.ref (cs 18))
  m_NotDetermined : mg "NotDetermined" = some (.ref (cs 19))
  m_OtherSheet : mg "OtherSheet" = some (.ref (cs 20))
  m_Refused : mg "Refused" = some (.ref (cs 21))
  m_Impossible : mg "Impossible" = some (.ref (cs 22))
  m_RunFailed : mg "RunFailed" = some (.ref (cs 23))
  m_NothingToTakeBack : mg "NothingToTakeBack" = some (.ref (cs 24))
  m_TooMany : mg "TooMany" = some (.ref (cs 25))
  m_NoQuotient : mg "NoQuotient" = some (.ref (cs 26))
  m_LastheldError : mg "LastheldError" = some (.ref (cs 27))
  m_MissingError : mg "MissingError" = some (.ref (cs 28))
  m_StateError : mg "StateError" = some (.ref (cs 29))
  m_LimitError : mg "LimitError" = some (.ref (cs 30))
theorem pos_c {j : Int} (h : 0 < j) : 0 < j := h
section
variable {P : Program} {w : World} {K : PySem.W.Frag} {mg : Str → Option Value} {base : Heap} {f : Addr} {fd : FuncData} {fD : Addr} {fdD : FuncData}
def sp_pot (K : PySem.W.Frag) : Sp := fun vs H Q _ => ∃ (s : Addr) (ns : List Int) (k : Nat), vs = [.ref s, .int k] ∧ SqL K H s (ns.map V.int) ∧ k < 1000 ∧
  ∀ p u v, H p = none → 0 ≤ v → v < 2147483648 → Q (.ref p) (upd H p (.lst [.int u, .int v]))
theorem ok_pot (F : FnP K "_law_pot" s_pot f fd) (T : Tz mg) : FnOk P w K mg base CX0 1 f fd ["_law_script", "_law_k"] (sp_pot K) := by
  refine F.ok sc_pot (fun vs H Q E h => ?_) (fun cdv A outer s H vs Q E hr h => ?_)
  · obtain ⟨a, ns, k, rfl, _⟩ := h
    rfl
  · obtain ⟨a, ns, k, rfl, hS, hk, q⟩ := h
    refine ⟨_, PSs.nox (pss_cons (ps_set (i := 2) sc_pot.nd rfl (Or.inl rfl) (pe_ifExp (pt_cmpR op_lt (pv 1) (pe_callB call_len_seq (by rfl) T.z_len (by decide +kernel) (pa_cons (pv 0) pa_nil)) (nomark _)) (pe_ix ix_list (pv 0) (pv 1) (fun _ _ => rfl)) pe_int))
      (pss_one (ps_ret (pe_lst (pa_cons (pe_callB (call_max2 rfl) (by rfl) T.z_max (by decide +kernel) (pa_cons pe_int (pa_cons (pe_op op_sub (pe_callB call_abs (by rfl) T.z_abs (by decide +kernel) (pa_cons (pv 2) pa_nil)) (pe_op op_pow pe_int pe_int)) pa_nil))) (pa_cons (pe_op op_mod (pe_op op_add (pe_op op_add (pe_op op_mul (pe_op op_mod (pe_callB call_abs (by rfl) T.z_abs (by decide +kernel) (pa_cons (pv 2) pa_nil)) pe_int) pe_int) (pe_op op_mul pe_int (pv 1))) pe_int) pe_int) pa_nil)))))), ?_⟩
    refine ⟨_, rfl, .ref a, rfl, a, _, rfl, .inl hS, _, _, rfl, rfl, _, rfl, ?_⟩
    refine ite2 (fun e => ?_) (fun e => ?_)
    · have e1 : (k : Int) < ((ns.map V.int).length : Nat) := of_decide_eq_true e
      have e2 : k < ns.length := by
        rw [List.length_map] at e1
        omega
      have e3 : (ns.map V.int)[k]? = some (.int ns[k]) := by
        rw [List.getElem?_map, List.getElem?_eq_getElem e2]
        rfl
      refine ⟨.ref a, rfl, .int k, rfl, a, _, _, .int ns[k], rfl, rfl, hS, atI_nat e3, ?_⟩
      refine ⟨.int ns[k], rfl, _, rfl, 10, 18, rfl, rfl, ⟨by decide, by decide, by decide⟩, _, _, rfl, rfl, _, _, rfl, ?_⟩
      refine ⟨.int ns[k], rfl, _, rfl, _, _, rfl, rfl, pos_c (by decide), _, _, rfl, rfl, .inr ⟨by decide, by decide⟩, .int k, rfl, _, _, rfl, rfl, .inl ⟨by decide, by decide⟩, _, _, rfl, rfl, _, _, rfl, rfl, _, _, rfl, rfl, pos_c (by decide), ?_⟩
      exact ⟨by show 2 ≤ sizeLine; decide, fun p np => q p _ _ np (Int.emod_nonneg _ (by decide)) (Int.lt_trans (Int.emod_lt_of_pos _ (by decide)) (by decide))⟩
    · refine ⟨.int 0, rfl, _, rfl, 10, 18, rfl, rfl, ⟨by decide, by decide, by decide⟩, _, _, rfl, rfl, _, _, rfl, ?_⟩
      refine ⟨.int 0, rfl, _, rfl, _, _, rfl, rfl, pos_c (by decide), _, _, rfl, rfl, .inr ⟨by decide, by decide⟩, .int k, rfl, _, _, rfl, rfl, .inl ⟨by decide, by decide⟩, _, _, rfl, rfl, _, _, rfl, rfl, _, _, rfl, rfl, pos_c (by decide), ?_⟩
      exact ⟨by show 2 ≤ sizeLine; decide, fun p np => q p _ _ np (Int.emod_nonneg _ (by decide)) (Int.lt_trans (Int.emod_lt_of_pos _ (by decide)) (by decide))⟩

def sp_draw : Sp := fun vs H Q _ => ∃ (a : Addr) (n : Int), vs = [.ref a, .int n] ∧ PotAt H a ∧ 0 < n ∧ n < 1267650600228229401496703205376 ∧
  ∀ r H', 0 ≤ r → r < n → PotAt H' a → Off a H H' → Q (.int r) H'
theorem ok_draw (F : FnP K "_law_draw" s_draw f fd) (T : Tz mg) : FnOk P w K mg base CX0 1 f fd ["_law_pot_here", "_law_many"] sp_draw := by
  refine F.ok sc_draw (fun vs H Q E h => ?_) (fun cdv A outer s H vs Q E hr h => ?_)
  · obtain ⟨a, n, rfl, _⟩ := h
    rfl
  · obtain ⟨a, n, rfl, ⟨x, y, hp, y0, y1⟩, n0, n1, q⟩ := h
    refine ⟨_, PSs.nox (pss_cons (ps_if (pt_cmpR op_gt (pe_ix ix_list (pv 0) pe_int (fun _ _ => rfl)) pe_int (nomark _)) (pss_cons (ps_asg (pe_callB call_divmodW (by rfl) T.z_divmod (by decide +kernel) (pa_cons (pe_ix ix_list (pv 0) pe_int (fun _ _ => rfl)) (pa_cons (pv 1) pa_nil))) (pg_tup rfl (pgs_cons (pg_sub (pv 0) pe_int set_list) (pgs_cons (pg_name (i := 2) sc_draw.nd rfl (Or.inl rfl)) pgs_nil))))
      (pss_one (ps_ret (pv 2)))) pss_nil)
      (pss_cons (ps_asg (pe_op op_mod (pe_op op_add (pe_op op_mul (pe_ix ix_list (pv 0) pe_int (fun _ _ => rfl)) pe_int) pe_int) pe_int) (pg_sub (pv 0) pe_int set_list))
      (pss_one (ps_ret (pe_op op_mod (pe_op op_fdiv (pe_op op_mod (pe_op op_mul (pe_ix ix_list (pv 0) pe_int (fun _ _ => rfl)) (pe_ix ix_list (pv 0) pe_int (fun _ _ => rfl))) pe_int) pe_int) (pv 1)))))), ?_⟩
    refine ⟨.ref a, rfl, a, _, 0, .int x, rfl, rfl, .inl (.inl hp), rfl, _, _, rfl, rfl, _, rfl, ite2 (fun e => ?_) (fun e => ?_)⟩
    · have x0 : 0 < x := of_decide_eq_true e
      refine ⟨.ref a, rfl, a, _, 0, .int x, rfl, rfl, .inl (.inl hp), rfl, .int n, rfl, x, n, rfl, ⟨n0, PyProof.noPylong_of_log2 (Nat.lt_of_lt_of_le (PySem.Flt.log2_lt_of (k := 100) (by decide) (by omega)) (by decide))⟩, fun t nt => ?_⟩
      have ht : (upd H t (.tup [.int (x / n), .int (x % n)])) a = some (.lst [.int x, .int y]) := by
        rw [upd_ne (ne_of_none hp nt)]
        exact hp
      refine ⟨t, _, rfl, .inl (.inl upd_same), rfl, _, _, rfl, .ref a, rfl, a, _, 0, 0, rfl, rfl, ht, rfl, _, _, rfl, rfl, .int (x % n), rfl, ?_⟩
      exact q _ _ (Int.emod_nonneg _ (by omega)) (Int.emod_lt_of_pos _ n0) ⟨x / n, y, upd_same, y0, y1⟩ ((Off.new nt).trans Off.at)
    · refine ⟨.ref a, rfl, a, _, 1, .int y, rfl, rfl, .inl (.inl hp), rfl, _, _, rfl, rfl, .inr ⟨by decide, by decide⟩, _, _, rfl, rfl, _, _, rfl, rfl, pos_c (by decide), ?_⟩
      refine ⟨.ref a, rfl, a, _, 1, 1, rfl, rfl, hp, rfl, ?_⟩
      have z0 : 0 ≤ (y * 39373 + 12227) % 2147483629 := Int.emod_nonneg _ (by decide)
      have z1 : (y * 39373 + 12227) % 2147483629 < 2147483629 := Int.emod_lt_of_pos _ (by decide)
      refine ⟨.ref a, rfl, a, _, 1, _, rfl, rfl, .inl (.inl upd_same), rfl, .ref a, rfl, a, _, 1, _, rfl, rfl, .inl (.inl upd_same), rfl, _, _, rfl, rfl, .inl ⟨?_, ?_⟩, _, _, rfl, rfl, pos_c (by decide), _, _, rfl, rfl, ⟨by decide, by decide⟩, .int n, rfl, _, _, rfl, rfl, n0, ?_⟩
      · exact Int.lt_of_lt_of_le (by decide) z0
      · exact Int.lt_trans z1 (by decide)
      · exact q _ _ (Int.emod_nonneg _ (by omega)) (Int.emod_lt_of_pos _ n0) ⟨x, _, upd_same, z0, Int.lt_trans z1 (by decide)⟩ Off.at

/-! ### odd -/
def odds1 : List PyData := [.none, .int 0, .int 1, .bool true, .bool false, .str "", .str "A", .str "nineletters", .tuple [], .list [], .dict [], .tuple [.int 1, .int 2], .tuple [.int 2, .int 4], .tuple [.int 3, .int 1], .tuple [.int 1, .int 0], .tuple [.int 1, .int (-2)]]
def odds2 : List PyData := [.tuple [.bool true, .int 2], .list [.int 1, .int 2], .tuple [.int 1, .int 2, .int 3], .tuple [.str "1", .int 2], .tuple [.int 0, .int 2], .tuple [.int (-3), .int 6], .int (-5), .str "a", .str "ab", .str "a b", .str "1", .tuple [.str "a"]]
def odds3 : List PyData := [.tuple [.int 1, .bool true]]
def odds : List PyData := odds1 ++ odds2 ++ odds3
def sp_odd (K : PySem.W.Frag) : Sp := fun vs H Q _ => ∃ a : Addr, vs = [.ref a] ∧ PotAt H a ∧ ∀ v d H', d ∈ odds → Dq K (off H' a) v d → PotAt H' a → Off a H H' → Q v H'
theorem pot_some {H : Hp} {a : Addr} (h : PotAt H a) : H a ≠ none := by
  obtain ⟨x, y, e, _⟩ := h
  rw [e]
  exact fun z => nomatch z
theorem ok_odd (F : FnP K "_law_odd" s_odd f fd) (T : Tz mg) (O_draw : Own P w K mg base CX0 1 "_law_draw" ["_law_pot_here", "_law_many"] sp_draw fD fdD) : FnOk P w K mg base CX0 2 f fd ["_law_pot_here"] (sp_odd K) := by
  refine F.ok sc_odd (fun vs H Q E h => ?_) (fun cdv A outer s H vs Q E hr h => ?_)
  · obtain ⟨a, rfl, _⟩ := h
    rfl
  · obtain ⟨a, rfl, hp, q⟩ := h
    refine ⟨_, PSs.nox (pss_cons (ps_set (i := 1) sc_odd.nd rfl (Or.inl rfl) (pe_lst (pa_cons pe_non (pa_cons pe_int (pa_cons pe_int (pa_cons pe_bl (pa_cons pe_bl (pa_cons pe_str (pa_cons pe_str (pa_cons pe_str (pa_cons (pe_tup pa_nil) (pa_cons (pe_lst pa_nil) (pa_cons pe_dnewK (pa_cons (pe_tup (pa_cons pe_int (pa_cons pe_int pa_nil))) (pa_cons (pe_tup (pa_cons pe_int (pa_cons pe_int pa_nil))) (pa_cons (pe_tup (pa_cons pe_int (pa_cons pe_int pa_nil))) (pa_cons (pe_tup (pa_cons pe_int (pa_cons pe_int pa_nil))) (pa_cons (pe_tup (pa_cons pe_int (pa_cons (pe_un un_neg pe_int) pa_nil))) pa_nil))))))))))))))))))
      (pss_cons (ps_set (i := 1) sc_odd.nd rfl (Or.inl rfl) (pe_op op_cat (pv 1) (pe_lst (pa_cons (pe_tup (pa_cons pe_bl (pa_cons pe_int pa_nil))) (pa_cons (pe_lst (pa_cons pe_int (pa_cons pe_int pa_nil))) (pa_cons (pe_tup (pa_cons pe_int (pa_cons pe_int (pa_cons pe_int pa_nil)))) (pa_cons (pe_tup (pa_cons pe_str (pa_cons pe_int pa_nil))) (pa_cons (pe_tup (pa_cons pe_int (pa_cons pe_int pa_nil))) (pa_cons (pe_tup (pa_cons (pe_un un_neg pe_int) (pa_cons pe_int pa_nil))) (pa_cons (pe_un un_neg pe_int) (pa_cons pe_str (pa_cons pe_str (pa_cons pe_str (pa_cons pe_str (pa_cons (pe_tup (pa_cons pe_str pa_nil)) pa_nil)))))))))))))))
      (pss_one (ps_ret (pe_ix ix_list (pe_op op_cat (pv 1) (pe_lst (pa_cons (pe_tup (pa_cons pe_int (pa_cons pe_bl pa_nil))) pa_nil))) (pe_own O_draw (hr.mono (by first | decide | omega)) (pa_cons (pv 0) (pa_cons pe_int pa_nil))) (fun _ _ => rfl)))))), ?_⟩
    refine s_lst (ds := odds1) (K := K) ?m1 (by decide) fun v1 H1 t1 s1 l1 d1 n1 => ?_
    case m1 => exact .cons .non (.cons .int (.cons .int (.cons .bl (.cons .bl (.cons .str (.cons .str (.cons .str (.cons (.tup .nil) (.cons (.lst .nil) (.cons .dict (.cons (.tup (.cons .int (.cons .int .nil))) (.cons (.tup (.cons .int (.cons .int .nil))) (.cons (.tup (.cons .int (.cons .int .nil))) (.cons (.tup (.cons .int (.cons .int .nil))) (.cons (.tup (.cons .int (.cons .neg .nil))) .nil)))))))))))))))
    have p1 := (hp.same s1).new (o := .lst v1) n1
    refine e_cat (ds := odds2) (K := K) (t := t1) (xs := v1) ?m2 (by rw [l1]; decide) rfl upd_same fun v2 H2 t2 s2 l2 d2 n2 => ?_
    case m2 => exact .cons (.tup (.cons .bl (.cons .int .nil))) (.cons (.lst (.cons .int (.cons .int .nil))) (.cons (.tup (.cons .int (.cons .int (.cons .int .nil)))) (.cons (.tup (.cons .str (.cons .int .nil))) (.cons (.tup (.cons .int (.cons .int .nil))) (.cons (.tup (.cons .neg (.cons .int .nil))) (.cons .neg (.cons .str (.cons .str (.cons .str (.cons .str (.cons (.tup (.cons .str .nil)) .nil)))))))))))
    have p2 := (p1.same s2).new (o := .lst (v1 ++ v2)) n2
    refine e_cat (ds := odds3) (K := K) (t := t2) (xs := v1 ++ v2) ?m3 (by rw [List.length_append, l1, l2]; decide) rfl upd_same fun v3 H3 t3 s3 l3 d3 n3 => ?_
    case m3 => exact .cons (.tup (.cons .int (.cons .bl .nil))) .nil
    have p3 := (p2.same s3).new (o := .lst (v1 ++ v2 ++ v3)) n3
    have sA : Same H1 H3 := (((same_upd n1).trans s2).trans (same_upd n2)).trans s3
    have sB : Same H2 H3 := (same_upd n2).trans s3
    have sC : Same H H3 := s1.trans sA
    have sD : Same H3 (upd H3 t3 (.lst (v1 ++ v2 ++ v3))) := same_upd n3
    have dd : DqAll K (off H3 a) (v1 ++ v2 ++ v3) odds :=
      dq_app (dq_app (DqAll.same (off_mono sA) (d1 a (pot_some hp))) (DqAll.same (off_mono sB) (d2 a (pot_some p1)))) (d3 a (pot_some p2))
    have ll : (v1 ++ v2 ++ v3).length = 29 := by rw [List.length_append, List.length_append, l1, l2, l3]; rfl
    refine ⟨.ref a, rfl, a, 29, rfl, p3, by decide, by decide, fun r H4 r0 r1 p6 o6 => ?_⟩
    obtain ⟨v, hv, _, ev⟩ := at_in (xs := v1 ++ v2 ++ v3) r0 (by rw [ll]; exact r1)
    obtain ⟨d, hd, dv⟩ := dq_at dd v hv
    refine ⟨t3, _, r, v, rfl, rfl, .inl (.inl (o6.get upd_same ((p2.same s3).ne n3))), ev, ?_⟩
    exact q v d H4 hd (Dq.same ((off_mono sD).trans o6) dv) p6 ((Off.same (sC.trans sD)).trans o6)

end
end K18

set_option Elab.async false
set_option linter.all false
set_option maxRecDepth 100000
set_option maxHeartbeats 4000000
namespace K18
open PySem PySem.Spec PyProof.Rows L2 Lw
section
variable {P : Program} {w : World} {K : PySem.W.Frag} {mg : Str → Option Value} {base : Heap} {f : Addr} {fd : FuncData}
def isT : PyData → Bool
  | .tuple _ => true
  | _ => false
def isL : PyData → Bool
  | .list _ => true
  | _ => false
def isDc : PyData → Bool
  | .dict _ => true
  | _ => false
theorem kit_tuple (d : PyData) : kitB (tyD d) "tuple" = some (isT d) := by
  cases d
  all_goals
    simp only [tyD, isT]
    decide +kernel
theorem kit_list (d : PyData) : kitB (tyD d) "list" = some (isL d) := by
  cases d
  all_goals
    simp only [tyD, isL]
    decide +kernel
theorem kit_dict (d : PyData) : kitB (tyD d) "dict" = some (isDc d) := by
  cases d
  all_goals
    simp only [tyD, isDc]
    decide +kernel
/-! ### kept -/
def sp_kept (K : PySem.W.Frag) : Nat → Sp
  | 0 => fun _ _ _ _ => False
  | n + 1 => fun vs H Q _ => ∃ (v : V) (d : PyData), vs = [v] ∧ Dq K H v d ∧ d.depth ≤ n ∧ slim d = true ∧ ∀ v' H', Same H H' → Fresh K H H' v' d → Q v' H'
theorem ok_kept (F : FnP K "kept" s_kept f fd) (T : Tz mg) (m : mg "kept" = some (.ref f)) : ∀ n, FnOk P w K mg base CX0 (n + 1) f fd ["value"] (sp_kept K n)
  | 0 => ⟨fun _ _ _ _ h => h.elim, fun _ _ _ _ _ _ _ _ _ _ _ _ _ h => h.elim⟩
  | n + 1 => by
    have O_kept : Own P w K mg base CX0 (n + 1) "kept" ["value"] (sp_kept K n) f fd := ⟨ok_kept F T m n, m, F.kp, F.bindsN fun _ _ _ _ _ _ us hl => match us, hl with | [_], _ => rfl⟩
    refine F.ok sc_kept (fun vs H Q E h => ?_) (fun cdv A outer s H vs Q E hr h => ?_)
    · obtain ⟨v, d, rfl, _⟩ := h
      rfl
    · obtain ⟨v, d, rfl, hd, hdp, hsl, q⟩ := h
      refine ⟨_, PSs.nox (pss_cons (ps_if (pt_val (pe_callB call_isi (by rfl) T.z_isinstance (by decide +kernel) (pa_cons (pv 0) (pa_cons (pe_bltn (v := .ty "list") (by rfl) T.z_list (by decide +kernel) rfl) pa_nil)))) (pss_one (ps_ret (pe_lc (own := [("item", 2)]) (g := gName 2) (tt := tYes) rfl sc_kept.nd (pi_list (pv 0)) (blkOk_by (own := [("item", 2)]) (N := N_kept) (sc := defScope s_kept) (by decide +kernel)) (fun _ _ _ _ _ => pg_name (i := 2) sc_kept.nd rfl (Or.inl rfl)) (fun _ _ _ _ _ => pts_nil) (fun _ _ _ _ _ => (pe_own O_kept (hr.mono (by first | decide | omega)) (pa_cons (pv 2) pa_nil)))))) pss_nil)
      (pss_cons (ps_if (pt_val (pe_callB call_isi (by rfl) T.z_isinstance (by decide +kernel) (pa_cons (pv 0) (pa_cons (pe_bltn (v := .ty "tuple") (by rfl) T.z_tuple (by decide +kernel) rfl) pa_nil)))) (pss_one (ps_ret (pe_callTy call_tuple_of (by rfl) T.z_tuple (by decide +kernel) (pa_cons (pe_lc (own := [("item", 2)]) (g := gName 2) (tt := tYes) rfl sc_kept.nd (pi_tup (pv 0)) (blkOk_by (own := [("item", 2)]) (N := N_kept) (sc := defScope s_kept) (by decide +kernel)) (fun _ _ _ _ _ => pg_name (i := 2) sc_kept.nd rfl (Or.inl rfl)) (fun _ _ _ _ _ => pts_nil) (fun _ _ _ _ _ => (pe_own O_kept (hr.mono (by first | decide | omega)) (pa_cons (pv 2) pa_nil)))) pa_nil)))) pss_nil)
      (pss_cons (ps_if (pt_val (pe_callB call_isi (by rfl) T.z_isinstance (by decide +kernel) (pa_cons (pv 0) (pa_cons (pe_bltn (v := .ty "dict") (by rfl) T.z_dict (by decide +kernel) rfl) pa_nil)))) (pss_one (ps_ret (pe_lock (pe_dc (own := [("key", 1)]) (g := gName 1) (tt := tYes) rfl sc_kept.nd (pi_keys (pv 0)) (blkOk_by (own := [("key", 1)]) (N := N_kept) (sc := defScope s_kept) (by decide +kernel)) (fun _ _ _ _ _ => pg_name (i := 1) sc_kept.nd rfl (Or.inl rfl)) (fun _ _ _ _ _ => pts_nil) (fun _ _ _ _ _ => (pv 1)) (fun _ _ _ _ _ => (pe_own O_kept (hr.mono (by first | decide | omega)) (pa_cons (pe_dget (hu_of hr) (pv 0) (pv 1) (fun _ _ => rfl)) pa_nil))))))) pss_nil)
      (pss_one (ps_ret (pv 0)))))), ?_⟩
      refine ⟨v, rfl, v, .ty "list", _, _, _, rfl, .ty _, hd.ty, kit_ty (kit_list d), _, rfl, ?_⟩
      -- what a comprehension over items keeps
      have turn : ∀ {xs : List V} {ds : List PyData} {D : Addr} {i : Nat} {x : V} {H2 : Hp} {R : V → Hp → Prop}, DqAll K H xs ds → PyData.depthAll ds < n → slimAll ds = true → ds.length ≤ 900 → H D = none → xs[i]? = some x →
          (Same H H2 ∧ ∃ ws, H2 D = some (.lst ws) ∧ ws.length = i ∧ DqAll K (nw (upd H D (.lst [])) H2) ws (ds.take i)) →
          (∀ y H4, (∃ acc, H4 D = some (.lst acc) ∧ acc.length < sizeLine ∧ (Same H (upd H4 D (.lst (acc ++ [y]))) ∧ ∃ ws, (upd H4 D (.lst (acc ++ [y]))) D = some (.lst ws) ∧ ws.length = i + 1 ∧ DqAll K (nw (upd H D (.lst [])) (upd H4 D (.lst (acc ++ [y])))) ws (ds.take (i + 1)))) → R y H4) →
          sp_kept K n [x] H2 R E0 := by
        intro xs ds D i x H2 R g hdep hsa hlen nD hx ⟨s2, ws, e2, l2, g2⟩ k
        obtain ⟨dx, hdx, dqx⟩ := dq_get g hx
        have hmem : dx ∈ ds := List.mem_of_getElem? hdx
        have hil : i < ds.length := (List.getElem?_eq_some_iff.mp hdx).1
        cases n with
        | zero => omega
        | succ n' =>
          refine ⟨x, dx, rfl, dqx.same s2, ?_, slim_at hsa hmem, fun v' H4 s4 fr => k v' H4 ⟨ws, s4 _ _ e2, ?_, fun b o e => ?_, ws ++ [v'], upd_same, ?_, ?_⟩⟩
          · have := depth_at hmem
            omega
          · rw [l2]
            exact small1000 (by omega)
          · rw [upd_ne (ne_of_none e nD)]
            exact s4 _ _ (s2 _ _ e)
          · rw [List.length_append, l2]
            rfl
          · have hB : ∀ b, H2 b = none → upd H D (.lst []) b = none := fun b hb => by
              have nb : b ≠ D := fun e => by
                rw [e, e2] at hb
                cases hb
              rw [upd_ne nb]
              exact s2.free hb
            have a1 : Same (nw (upd H D (.lst [])) H2) (nw (upd H D (.lst [])) (upd H4 D (.lst (ws ++ [v'])))) := nw_mono (fun _ e => e) fun b o h1 h2 => by
              have nb : b ≠ D := fun e => by
                rw [e, upd_same] at h1
                cases h1
              rw [upd_ne nb]
              exact s4 _ _ h2
            have a2 : Same (nw H2 H4) (nw (upd H D (.lst [])) (upd H4 D (.lst (ws ++ [v'])))) := nw_mono hB fun b o h1 h2 => by
              have nb : b ≠ D := fun e => by
                rw [e, e2] at h1
                cases h1
              rw [upd_ne nb]
              exact h2
            rw [List.take_add_one, hdx]
            exact dqall_snoc (DqAll.same a1 g2) (Dq.same a2 fr)
      have start : ∀ {ds : List PyData} {D : Addr}, H D = none → (Same H (upd H D (.lst [])) ∧ ∃ ws, (upd H D (.lst [])) D = some (.lst ws) ∧ ws.length = 0 ∧ DqAll K (nw (upd H D (.lst [])) (upd H D (.lst []))) ws (ds.take 0)) :=
        fun nD => ⟨same_upd nD, [], upd_same, rfl, .nil⟩
      have base_ : ∀ {D : Addr} {H2 : Hp}, H D = none → Same (nw (upd H D (.lst [])) H2) (nw H H2) := fun {D H2} nD => nw_mono (fun b e => (same_upd nD).free e) fun _ _ _ e => e
      cases hd with
      | @lst a xs ds h g =>
        refine ⟨.ref a, rfl, a, rfl, ⟨_, h⟩, fun D nD => ?_⟩
        have h1 : slim (.list ds) = (decide (ds.length ≤ 900) && slimAll ds) := by simp only [slim]
        rw [h1, Bool.and_eq_true] at hsl
        have l9 : ds.length ≤ 900 := of_decide_eq_true hsl.1
        have hdep : PyData.depthAll ds < n := by
          simp only [PyData.depth] at hdp
          omega
        have le := dq_len g
        refine lc_list (K := K) (a := a) (xs := xs) (fun i H2 => Same H H2 ∧ ∃ ws, H2 D = some (.lst ws) ∧ ws.length = i ∧ DqAll K (nw (upd H D (.lst [])) H2) ws (ds.take i)) (start nD) (fun i H2 _ hp => hp.1.seq h) ?_ ?_
        · intro i x H2 hx hp
          exact ⟨rfl, x, rfl, turn g hdep hsl.2 l9 nD hx hp fun y H4 z => z⟩
        · rintro H2 ⟨s2, ws, e2, l2, g2⟩
          refine q _ H2 s2 (Dq.lst (.inl (.inl ((nw_at nD).trans e2))) ?_)
          rw [List.take_of_length_le (Nat.le_of_eq le.symm)] at g2
          exact DqAll.same (base_ nD) g2
      | @tup a xs ds h g =>
        refine iteF ?_
        refine ⟨.ref a, rfl, .ref a, .ty "tuple", _, _, _, rfl, .ty _, (Dq.tup h g).ty, kit_ty (kit_tuple (.tuple ds)), _, rfl, ?_⟩
        refine ⟨.ref a, rfl, a, rfl, ⟨_, h⟩, fun D nD => ?_⟩
        have h1 : slim (.tuple ds) = (decide (ds.length ≤ 900) && slimAll ds) := by simp only [slim]
        rw [h1, Bool.and_eq_true] at hsl
        have l9 : ds.length ≤ 900 := of_decide_eq_true hsl.1
        have hdep : PyData.depthAll ds < n := by
          simp only [PyData.depth] at hdp
          omega
        have le := dq_len g
        refine lc_tup (K := K) (a := a) (xs := xs) (fun i H2 => Same H H2 ∧ ∃ ws, H2 D = some (.lst ws) ∧ ws.length = i ∧ DqAll K (nw (upd H D (.lst [])) H2) ws (ds.take i)) (start nD) (fun i H2 _ hp => same_t hp.1 h) ?_ ?_
        · intro i x H2 hx hp
          exact ⟨rfl, x, rfl, turn g hdep hsl.2 l9 nD hx hp fun y H4 z => z⟩
        · rintro H2 ⟨s2, ws, e2, l2, g2⟩
          refine ⟨D, ws, rfl, .inl ⟨.inl (.inl e2), fun t nt => ?_⟩⟩
          have nHt : H t = none := s2.free nt
          refine q _ _ (s2.trans (same_upd nt)) (Dq.tup (.inl (.inl ((nw_at nHt).trans upd_same))) ?_)
          rw [List.take_of_length_le (Nat.le_of_eq le.symm)] at g2
          exact DqAll.same ((base_ nD).trans (nw_mono (fun _ e => e) fun b o _ e => same_upd nt _ _ e)) g2
      | @dic a h =>
        refine iteF ?_
        refine ⟨.ref a, rfl, .ref a, .ty "tuple", _, _, _, rfl, .ty _, (Dq.dic h).ty, kit_ty (kit_tuple (.dict [])), _, rfl, iteF ?_⟩
        refine ⟨.ref a, rfl, .ref a, .ty "dict", _, _, _, rfl, .ty _, (Dq.dic h).ty, kit_ty (kit_dict (.dict [])), _, rfl, ?_⟩
        refine ⟨a, .dK [], h, trivial, fun od => ?_⟩
        refine ⟨.ref a, rfl, a, od, rfl, .inl ⟨[], upd_same, fun D nD => ?_⟩⟩
        have nDa : D ≠ a := fun e => by
          rw [e, upd_same] at nD
          cases nD
        have nHD : H D = none := by
          rw [upd_ne nDa] at nD
          exact nD
        refine ⟨fun i m H2 => H2 = upd (upd H a (.frz od (.dK []))) D (.dK []), ⟨0, rfl⟩, ?_⟩
        rintro i m H2 rfl
        refine .inl ⟨⟨?_, Nat.zero_le _⟩, ?_, ?_⟩
        · rw [upd_ne nDa.symm, upd_same]
        · rw [upd_ne nDa.symm, upd_same]
        · refine q _ _ (fun b o e => ?_) (Dq.dic ?_)
          · by_cases hb : b = a
            · subst hb
              rw [upd_same]
              rw [h] at e
              exact e
            · rw [upd_ne hb, upd_ne (ne_of_none e nHD), upd_ne hb]
              exact e
          · rw [nw_at nHD, upd_ne nDa, upd_same]
      | non => exact ⟨_, rfl, _, .ty "tuple", _, _, _, rfl, .ty _, Dq.ty .non, kit_ty (kit_tuple .none), _, rfl, _, rfl, _, .ty "dict", _, _, _, rfl, .ty _, Dq.ty .non, kit_ty (kit_dict .none), _, rfl, _, rfl, q _ H (Same.refl H) Dq.non⟩
      | bl b => exact ⟨_, rfl, _, .ty "tuple", _, _, _, rfl, .ty _, Dq.ty (.bl b), kit_ty (kit_tuple (.bool b)), _, rfl, _, rfl, _, .ty "dict", _, _, _, rfl, .ty _, Dq.ty (.bl b), kit_ty (kit_dict (.bool b)), _, rfl, _, rfl, q _ H (Same.refl H) (Dq.bl b)⟩
      | int i => exact ⟨_, rfl, _, .ty "tuple", _, _, _, rfl, .ty _, Dq.ty (.int i), kit_ty (kit_tuple (.int i)), _, rfl, _, rfl, _, .ty "dict", _, _, _, rfl, .ty _, Dq.ty (.int i), kit_ty (kit_dict (.int i)), _, rfl, _, rfl, q _ H (Same.refl H) (Dq.int i)⟩
      | str z => exact ⟨_, rfl, _, .ty "tuple", _, _, _, rfl, .ty _, Dq.ty (.str z), kit_ty (kit_tuple (.str z)), _, rfl, _, rfl, _, .ty "dict", _, _, _, rfl, .ty _, Dq.ty (.str z), kit_ty (kit_dict (.str z)), _, rfl, _, rfl, q _ H (Same.refl H) (Dq.str z)⟩
end
end K18

set_option Elab.async false
set_option linter.all false
set_option maxRecDepth 100000
set_option maxHeartbeats 4000000
namespace K18
open PySem PySem.Spec PyProof.Rows L2 Lw
abbrev s_InvalidName : Stmt := inClass (topS 3) 0
abbrev W0_InvalidName : IniW := ⟨"__init__", "InvalidName.__init__", defArgs s_InvalidName, defBody s_InvalidName, defScope s_InvalidName⟩
theorem sc_InvalidName : NdefX.NScope ["self", "value", "__class__"] ["self", "value"] ["__class__"] (defScope s_InvalidName) := NdefX.nscope_by (by decide +kernel)
abbrev s_InvalidNumber : Stmt := inClass (topS 4) 0
abbrev W0_InvalidNumber : IniW := ⟨"__init__", "InvalidNumber.__init__", defArgs s_InvalidNumber, defBody s_InvalidNumber, defScope s_InvalidNumber⟩
theorem sc_InvalidNumber : NdefX.NScope ["self", "value", "__class__"] ["self", "value"] ["__class__"] (defScope s_InvalidNumber) := NdefX.nscope_by (by decide +kernel)
abbrev s_InvalidLevel : Stmt := inClass (topS 5) 0
abbrev W0_InvalidLevel : IniW := ⟨"__init__", "InvalidLevel.__init__", defArgs s_InvalidLevel, defBody s_InvalidLevel, defScope s_InvalidLevel⟩
theorem sc_InvalidLevel : NdefX.NScope ["self", "value", "__class__"] ["self", "value"] ["__class__"] (defScope s_InvalidLevel) := NdefX.nscope_by (by decide +kernel)
abbrev s_InvalidClock : Stmt := inClass (topS 6) 0
abbrev W0_InvalidClock : IniW := ⟨"__init__", "InvalidClock.__init__", defArgs s_InvalidClock, defBody s_InvalidClock, defScope s_InvalidClock⟩
theorem sc_InvalidClock : NdefX.NScope ["self", "value", "__class__"] ["self", "value"] ["__class__"] (defScope s_InvalidClock) := NdefX.nscope_by (by decide +kernel)
abbrev s_InvalidCount : Stmt := inClass (topS 7) 0
abbrev W0_InvalidCount : IniW := ⟨"__init__", "InvalidCount.__init__", defArgs s_InvalidCount, defBody s_InvalidCount, defScope s_InvalidCount⟩
theorem sc_InvalidCount : NdefX.NScope ["self", "value", "__class__"] ["self", "value"] ["__class__"] (defScope s_InvalidCount) := NdefX.nscope_by (by decide +kernel)
abbrev s_InvalidFields : Stmt := inClass (topS 8) 0
abbrev W0_InvalidFields : IniW := ⟨"__init__", "InvalidFields.__init__", defArgs s_InvalidFields, defBody s_InvalidFields, defScope s_InvalidFields⟩
theorem sc_InvalidFields : NdefX.NScope ["self", "index", "__class__"] ["self", "index"] ["__class__"] (defScope s_InvalidFields) := NdefX.nscope_by (by decide +kernel)
abbrev s_InvalidEquation : Stmt := inClass (topS 9) 0
abbrev W0_InvalidEquation : IniW := ⟨"__init__", "InvalidEquation.__init__", defArgs s_InvalidEquation, defBody s_InvalidEquation, defScope s_InvalidEquation⟩
theorem sc_InvalidEquation : NdefX.NScope ["self", "value", "__class__"] ["self", "value"] ["__class__"] (defScope s_InvalidEquation) := NdefX.nscope_by (by decide +kernel)
abbrev s_InvalidEquations : Stmt := inClass (topS 10) 0
abbrev W0_InvalidEquations : IniW := ⟨"__init__", "InvalidEquations.__init__", defArgs s_InvalidEquations, defBody s_InvalidEquations, defScope s_InvalidEquations⟩
theorem sc_InvalidEquations : NdefX.NScope ["self", "index", "__class__"] ["self", "index"] ["__class__"] (defScope s_InvalidEquations) := NdefX.nscope_by (by decide +kernel)
abbrev s_InvalidSetting : Stmt := inClass (topS 11) 0
abbrev W0_InvalidSetting : IniW := ⟨"__init__", "InvalidSetting.__init__", defArgs s_InvalidSetting, defBody s_InvalidSetting, defScope s_InvalidSetting⟩
theorem sc_InvalidSetting : NdefX.NScope ["self", "value", "__class__"] ["self", "value"] ["__class__"] (defScope s_InvalidSetting) := NdefX.nscope_by (by decide +kernel)
abbrev s_InvalidSettings : Stmt := inClass (topS 12) 0
abbrev W0_InvalidSettings : IniW := ⟨"__init__", "InvalidSettings.__init__", defArgs s_InvalidSettings, defBody s_InvalidSettings, defScope s_InvalidSettings⟩
theorem sc_InvalidSettings : NdefX.NScope ["self", "index", "__class__"] ["self", "index"] ["__class__"] (defScope s_InvalidSettings) := NdefX.nscope_by (by decide +kernel)
abbrev s_InvalidPairs : Stmt := inClass (topS 13) 0
abbrev W0_InvalidPairs : IniW := ⟨"__init__", "InvalidPairs.__init__", defArgs s_InvalidPairs, defBody s_InvalidPairs, defScope s_InvalidPairs⟩
theorem sc_InvalidPairs : NdefX.NScope ["self", "index", "__class__"] ["self", "index"] ["__class__"] (defScope s_InvalidPairs) := NdefX.nscope_by (by decide +kernel)
abbrev s_InvalidWishes : Stmt := inClass (topS 14) 0
abbrev W0_InvalidWishes : IniW := ⟨"__init__", "InvalidWishes.__init__", defArgs s_InvalidWishes, defBody s_InvalidWishes, defScope s_InvalidWishes⟩
theorem sc_InvalidWishes : NdefX.NScope ["self", "index", "__class__"] ["self", "index"] ["__class__"] (defScope s_InvalidWishes) := NdefX.nscope_by (by decide +kernel)
abbrev s_InvalidNames : Stmt := inClass (topS 15) 0
abbrev W0_InvalidNames : IniW := ⟨"__init__", "InvalidNames.__init__", defArgs s_InvalidNames, defBody s_InvalidNames, defScope s_InvalidNames⟩
theorem sc_InvalidNames : NdefX.NScope ["self", "index", "__class__"] ["self", "index"] ["__class__"] (defScope s_InvalidNames) := NdefX.nscope_by (by decide +kernel)
abbrev s_InvalidText : Stmt := inClass (topS 16) 0
abbrev W0_InvalidText : IniW := ⟨"__init__", "InvalidText.__init__", defArgs s_InvalidText, defBody s_InvalidText, defScope s_InvalidText⟩
theorem sc_InvalidText : NdefX.NScope ["self", "line", "__class__"] ["self", "line"] ["__class__"] (defScope s_InvalidText) := NdefX.nscope_by (by decide +kernel)
abbrev s_InvalidCommand : Stmt := inClass (topS 17) 0
abbrev W0_InvalidCommand : IniW := ⟨"__init__", "InvalidCommand.__init__", defArgs s_InvalidCommand, defBody s_InvalidCommand, defScope s_InvalidCommand⟩
theorem sc_InvalidCommand : NdefX.NScope ["self", "command", "__class__"] ["self", "command"] ["__class__"] (defScope s_InvalidCommand) := NdefX.nscope_by (by decide +kernel)
abbrev s_UnknownField : Stmt := inClass (topS 19) 0
abbrev W0_UnknownField : IniW := ⟨"__init__", "UnknownField.__init__", defArgs s_UnknownField, defBody s_UnknownField, defScope s_UnknownField⟩
theorem sc_UnknownField : NdefX.NScope ["self", "value", "__class__"] ["self", "value"] ["__class__"] (defScope s_UnknownField) := NdefX.nscope_by (by decide +kernel)
abbrev s_UnknownReplica : Stmt := inClass (topS 20) 0
abbrev W0_UnknownReplica : IniW := ⟨"__init__", "UnknownReplica.__init__", defArgs s_UnknownReplica, defBody s_UnknownReplica, defScope s_UnknownReplica⟩
theorem sc_UnknownReplica : NdefX.NScope ["self", "value", "__class__"] ["self", "value"] ["__class__"] (defScope s_UnknownReplica) := NdefX.nscope_by (by decide +kernel)
abbrev s_UnknownMessage : Stmt := inClass (topS 21) 0
abbrev W0_UnknownMessage : IniW := ⟨"__init__", "UnknownMessage.__init__", defArgs s_UnknownMessage, defBody s_UnknownMessage, defScope s_UnknownMessage⟩
theorem sc_UnknownMessage : NdefX.NScope ["self", "value", "__class__"] ["self", "value"] ["__class__"] (defScope s_UnknownMessage) := NdefX.nscope_by (by decide +kernel)
abbrev s_NotFree : Stmt := inClass (topS 23) 0
abbrev W0_NotFree : IniW := ⟨"__init__", "NotFree.__init__", defArgs s_NotFree, defBody s_NotFree, defScope s_NotFree⟩
theorem sc_NotFree : NdefX.NScope ["self", "given", "__class__"] ["self", "given"] ["__class__"] (defScope s_NotFree) := NdefX.nscope_by (by decide +kernel)
abbrev s_NotDetermined : Stmt := inClass (topS 24) 0
abbrev W0_NotDetermined : IniW := ⟨"__init__", "NotDetermined.__init__", defArgs s_NotDetermined, defBody s_NotDetermined, defScope s_NotDetermined⟩
theorem sc_NotDetermined : NdefX.NScope ["self", "field", "__class__"] ["self", "field"] ["__class__"] (defScope s_NotDetermined) := NdefX.nscope_by (by decide +kernel)
abbrev s_OtherSheet : Stmt := inClass (topS 25) 0
abbrev W0_OtherSheet : IniW := ⟨"__init__", "OtherSheet.__init__", defArgs s_OtherSheet, defBody s_OtherSheet, defScope s_OtherSheet⟩
theorem sc_OtherSheet : NdefX.NScope ["self", "index", "__class__"] ["self", "index"] ["__class__"] (defScope s_OtherSheet) := NdefX.nscope_by (by decide +kernel)
abbrev s_Refused : Stmt := inClass (topS 26) 0
abbrev W0_Refused : IniW := ⟨"__init__", "Refused.__init__", defArgs s_Refused, defBody s_Refused, defScope s_Refused⟩
theorem sc_Refused : NdefX.NScope ["self", "field", "level", "cause", "__class__"] ["self", "field", "level", "cause"] ["__class__"] (defScope s_Refused) := NdefX.nscope_by (by decide +kernel)
abbrev s_Impossible : Stmt := inClass (topS 27) 0
abbrev W0_Impossible : IniW := ⟨"__init__", "Impossible.__init__", defArgs s_Impossible, defBody s_Impossible, defScope s_Impossible⟩
theorem sc_Impossible : NdefX.NScope ["self", "conflict", "__class__"] ["self", "conflict"] ["__class__"] (defScope s_Impossible) := NdefX.nscope_by (by decide +kernel)
abbrev s_RunFailed : Stmt := inClass (topS 28) 0
abbrev W0_RunFailed : IniW := ⟨"__init__", "RunFailed.__init__", defArgs s_RunFailed, defBody s_RunFailed, defScope s_RunFailed⟩
theorem sc_RunFailed : NdefX.NScope ["self", "position", "results", "__class__"] ["self", "position", "results"] ["__class__"] (defScope s_RunFailed) := NdefX.nscope_by (by decide +kernel)
abbrev s_TooMany : Stmt := inClass (topS 31) 0
abbrev W0_TooMany : IniW := ⟨"__init__", "TooMany.__init__", defArgs s_TooMany, defBody s_TooMany, defScope s_TooMany⟩
theorem sc_TooMany : NdefX.NScope ["self", "kind", "limit", "__class__"] ["self", "kind", "limit"] ["__class__"] (defScope s_TooMany) := NdefX.nscope_by (by decide +kernel)
abbrev s_NoQuotient : Stmt := inClass (topS 32) 0
abbrev W0_NoQuotient : IniW := ⟨"__init__", "NoQuotient.__init__", defArgs s_NoQuotient, defBody s_NoQuotient, defScope s_NoQuotient⟩
theorem sc_NoQuotient : NdefX.NScope ["self", "value", "__class__"] ["self", "value"] ["__class__"] (defScope s_NoQuotient) := NdefX.nscope_by (by decide +kernel)
section
variable {P : Program} {w : World} {K : PySem.W.Frag} {mg : Str → Option Value} {base : Heap} {f : Addr} {fd : FuncData} {fK : Addr} {fdK : FuncData} {C cc cda : Addr}
/-- the end of an `__init__` with one field -/
theorem end_one {H H' : Hp} {Q : VK} {a dx : Addr} {v v' : V} {d : PyData} {fn : Str} (s' : Same H H') (nd : H' dx = none) (ne : dx ≠ a)
    (fr : ∀ G, (∀ b o, H b = none → H' b = some o → G b = some o) → (∀ b o, b ≠ a → H b = some o → G b = some o) → Dq K G v' d)
    (frm : ∀ G m, H m ≠ none → m ≠ a → Dq K (off (off H a) m) v d → (∀ b o, H b = none → H' b = some o → G b = some o) → (∀ b o, b ≠ a → b ≠ m → H b = some o → G b = some o) → Dq K G v' d)
    (q : ∀ H', Same (off H a) H' → ExF K H' (.ref a) C ([fn].zip [d]) → (∀ m, H m ≠ none → m ≠ a → DqAll K (off (off H a) m) [v] [d] → ExF K (off H' m) (.ref a) C ([fn].zip [d])) → Q .non H') (ha : H a ≠ none) :
    Q .non (upd (upd H' dx (exd dx [(fn, v')])) a (exo a C (some dx))) := by
  have hd : H dx = none := s'.free nd
  have keep : ∀ b o, b ≠ a → H b = some o → (upd (upd H' dx (exd dx [(fn, v')])) a (exo a C (some dx))) b = some o := fun b o n e => by
    rw [upd_ne n, upd_ne (ne_of_none e hd)]
    exact s' _ _ e
  have new : ∀ b o, H b = none → H' b = some o → (upd (upd H' dx (exd dx [(fn, v')])) a (exo a C (some dx))) b = some o := fun b o n e => by
    have nb : b ≠ a := fun z => ha (z ▸ n)
    rw [upd_ne nb, upd_ne (ne_of_none e nd)]
    exact e
  refine q _ (fun b o e => ?_) ⟨a, dx, _, rfl, upd_same, by rw [upd_ne ne, upd_same], fun f d' hf => ?_⟩ fun m hm na hdm => ⟨a, dx, [(fn, v')], rfl, by rw [off_ne (fun z => na z.symm), upd_same], ?_, fun f d' hf => ?_⟩
  · obtain ⟨n, e⟩ := off_get e
    exact keep b o n e
  · cases List.mem_singleton.mp (show (f, d') ∈ [(fn, d)] from hf)
    exact ⟨v', by simp [List.lookup], fr _ new keep⟩
  · have nm : dx ≠ m := fun z => hm (z ▸ hd)
    rw [off_ne nm, upd_ne ne, upd_same]
  · cases List.mem_singleton.mp (show (f, d') ∈ [(fn, d)] from hf)
    cases hdm with
    | cons hv _ =>
      refine ⟨v', by simp [List.lookup], frm _ m hm na hv (fun b o n e => ?_) fun b o n n2 e => ?_⟩
      · have nb : b ≠ m := fun z => hm (z ▸ n)
        rw [off_ne nb]
        exact new b o n e
      · rw [off_ne n2]
        exact keep b o n e
theorem ok_InvalidName (T : ExcK K C (tlOf "ValueError") "ValueError.__new__") (S : IniK P K mg W0_InvalidName f cc cda C "ValueError" "ValueError.__init__") (hno : PySem.W.findIn K (.ref C) "value" = some none)
    (hfd : ∃ (oc : Value) (od : Option Addr) (osl : Array (Option Value)), K.lookup f = some ⟨oc, od, .func fd, osl⟩) (O_kept : Own P w K mg base CX0 7 "kept" ["value"] (sp_kept K 6) fK fdK) : FnOk P w K mg base CX0 8 f fd ["self", "value"] (sp_init K C ["value"]) := by
  refine ini_ok (N := ["self", "value", "__class__"]) exb_V T S rfl sc_InvalidName rfl (fun vs H Q E h => ?_) (fun vs H Q E h => ?_) (fun L => ⟨_, rfl⟩) (fun A outer s H vs Q E hr h => ?_) hfd
  · obtain ⟨a, xs, ds, rfl, hl, _⟩ := h
    show xs.length + 1 = 2
    rw [hl]
    rfl
  · obtain ⟨a, xs, ds, rfl, _, ha, _⟩ := h
    exact ⟨a, rfl, ha⟩
  · obtain ⟨a, xs, ds, rfl, hl, ha, hd, hx, q⟩ := h
    obtain ⟨v, d, rfl, rfl, hv⟩ : ∃ v d, xs = [v] ∧ ds = [d] ∧ Dq K (off H a) v d := by
      match xs, hl, hd with
      | [v], _, .cons hv .nil => exact ⟨v, _, rfl, rfl, hv⟩
    have hxd := hx d (by simp)
    have han : H a ≠ none := by rw [ha]; exact fun z => nomatch z
    refine ⟨_, pss_one (ps_ostB exb_V (pv 0) (pe_own O_kept hr (pa_cons (pv 1) pa_nil))), ?_⟩
    refine ⟨v, rfl, v, d, rfl, hv.same off_same, hxd.dp, hxd.sl, fun v' H' s' fr => ?_⟩
    refine ⟨.ref a, rfl, a, C, rfl, T, hno, s' _ _ ha, fun dx nd ne => end_one (d := d) s' nd ne (fun G g1 _ => ?_) (fun G m _ _ _ g1 _ => ?_) q han⟩
    · exact Dq.same (fun b o e => by obtain ⟨x1, x2⟩ := nw_get e; exact g1 b o x1 x2) fr
    · exact Dq.same (fun b o e => by obtain ⟨x1, x2⟩ := nw_get e; exact g1 b o x1 x2) fr
theorem ok_InvalidNumber (T : ExcK K C (tlOf "ValueError") "ValueError.__new__") (S : IniK P K mg W0_InvalidNumber f cc cda C "ValueError" "ValueError.__init__") (hno : PySem.W.findIn K (.ref C) "value" = some none)
    (hfd : ∃ (oc : Value) (od : Option Addr) (osl : Array (Option Value)), K.lookup f = some ⟨oc, od, .func fd, osl⟩) (O_kept : Own P w K mg base CX0 7 "kept" ["value"] (sp_kept K 6) fK fdK) : FnOk P w K mg base CX0 8 f fd ["self", "value"] (sp_init K C ["value"]) := by
  refine ini_ok (N := ["self", "value", "__class__"]) exb_V T S rfl sc_InvalidNumber rfl (fun vs H Q E h => ?_) (fun vs H Q E h => ?_) (fun L => ⟨_, rfl⟩) (fun A outer s H vs Q E hr h => ?_) hfd
  · obtain ⟨a, xs, ds, rfl, hl, _⟩ := h
    show xs.length + 1 = 2
    rw [hl]
    rfl
  · obtain ⟨a, xs, ds, rfl, _, ha, _⟩ := h
    exact ⟨a, rfl, ha⟩
  · obtain ⟨a, xs, ds, rfl, hl, ha, hd, hx, q⟩ := h
    obtain ⟨v, d, rfl, rfl, hv⟩ : ∃ v d, xs = [v] ∧ ds = [d] ∧ Dq K (off H a) v d := by
      match xs, hl, hd with
      | [v], _, .cons hv .nil => exact ⟨v, _, rfl, rfl, hv⟩
    have hxd := hx d (by simp)
    have han : H a ≠ none := by rw [ha]; exact fun z => nomatch z
    refine ⟨_, pss_one (ps_ostB exb_V (pv 0) (pe_own O_kept hr (pa_cons (pv 1) pa_nil))), ?_⟩
    refine ⟨v, rfl, v, d, rfl, hv.same off_same, hxd.dp, hxd.sl, fun v' H' s' fr => ?_⟩
    refine ⟨.ref a, rfl, a, C, rfl, T, hno, s' _ _ ha, fun dx nd ne => end_one (d := d) s' nd ne (fun G g1 _ => ?_) (fun G m _ _ _ g1 _ => ?_) q han⟩
    · exact Dq.same (fun b o e => by obtain ⟨x1, x2⟩ := nw_get e; exact g1 b o x1 x2) fr
    · exact Dq.same (fun b o e => by obtain ⟨x1, x2⟩ := nw_get e; exact g1 b o x1 x2) fr
theorem ok_InvalidLevel (T : ExcK K C (tlOf "ValueError") "ValueError.__new__") (S : IniK P K mg W0_InvalidLevel f cc cda C "ValueError" "ValueError.__init__") (hno : PySem.W.findIn K (.ref C) "value" = some none)
    (hfd : ∃ (oc : Value) (od : Option Addr) (osl : Array (Option Value)), K.lookup f = some ⟨oc, od, .func fd, osl⟩) (O_kept : Own P w K mg base CX0 7 "kept" ["value"] (sp_kept K 6) fK fdK) : FnOk P w K mg base CX0 8 f fd ["self", "value"] (sp_init K C ["value"]) := by
  refine ini_ok (N := ["self", "value", "__class__"]) exb_V T S rfl sc_InvalidLevel rfl (fun vs H Q E h => ?_) (fun vs H Q E h => ?_) (fun L => ⟨_, rfl⟩) (fun A outer s H vs Q E hr h => ?_) hfd
  · obtain ⟨a, xs, ds, rfl, hl, _⟩ := h
    show xs.length + 1 = 2
    rw [hl]
    rfl
  · obtain ⟨a, xs, ds, rfl, _, ha, _⟩ := h
    exact ⟨a, rfl, ha⟩
  · obtain ⟨a, xs, ds, rfl, hl, ha, hd, hx, q⟩ := h
    obtain ⟨v, d, rfl, rfl, hv⟩ : ∃ v d, xs = [v] ∧ ds = [d] ∧ Dq K (off H a) v d := by
      match xs, hl, hd with
      | [v], _, .cons hv .nil => exact ⟨v, _, rfl, rfl, hv⟩
    have hxd := hx d (by simp)
    have han : H a ≠ none := by rw [ha]; exact fun z => nomatch z
    refine ⟨_, pss_one (ps_ostB exb_V (pv 0) (pe_own O_kept hr (pa_cons (pv 1) pa_nil))), ?_⟩
    refine ⟨v, rfl, v, d, rfl, hv.same off_same, hxd.dp, hxd.sl, fun v' H' s' fr => ?_⟩
    refine ⟨.ref a, rfl, a, C, rfl, T, hno, s' _ _ ha, fun dx nd ne => end_one (d := d) s' nd ne (fun G g1 _ => ?_) (fun G m _ _ _ g1 _ => ?_) q han⟩
    · exact Dq.same (fun b o e => by obtain ⟨x1, x2⟩ := nw_get e; exact g1 b o x1 x2) fr
    · exact Dq.same (fun b o e => by obtain ⟨x1, x2⟩ := nw_get e; exact g1 b o x1 x2) fr
theorem ok_InvalidClock (T : ExcK K C (tlOf "ValueError") "ValueError.__new__") (S : IniK P K mg W0_InvalidClock f cc cda C "ValueError" "ValueError.__init__") (hno : PySem.W.findIn K (.ref C) "value" = some none)
    (hfd : ∃ (oc : Value) (od : Option Addr) (osl : Array (Option Value)), K.lookup f = some ⟨oc, od, .func fd, osl⟩) (O_kept : Own P w K mg base CX0 7 "kept" ["value"] (sp_kept K 6) fK fdK) : FnOk P w K mg base CX0 8 f fd ["self", "value"] (sp_init K C ["value"]) := by
  refine ini_ok (N := ["self", "value", "__class__"]) exb_V T S rfl sc_InvalidClock rfl (fun vs H Q E h => ?_) (fun vs H Q E h => ?_) (fun L => ⟨_, rfl⟩) (fun A outer s H vs Q E hr h => ?_) hfd
  · obtain ⟨a, xs, ds, rfl, hl, _⟩ := h
    show xs.length + 1 = 2
    rw [hl]
    rfl
  · obtain ⟨a, xs, ds, rfl, _, ha, _⟩ := h
    exact ⟨a, rfl, ha⟩
  · obtain ⟨a, xs, ds, rfl, hl, ha, hd, hx, q⟩ := h
    obtain ⟨v, d, rfl, rfl, hv⟩ : ∃ v d, xs = [v] ∧ ds = [d] ∧ Dq K (off H a) v d := by
      match xs, hl, hd with
      | [v], _, .cons hv .nil => exact ⟨v, _, rfl, rfl, hv⟩
    have hxd := hx d (by simp)
    have han : H a ≠ none := by rw [ha]; exact fun z => nomatch z
    refine ⟨_, pss_one (ps_ostB exb_V (pv 0) (pe_own O_kept hr (pa_cons (pv 1) pa_nil))), ?_⟩
    refine ⟨v, rfl, v, d, rfl, hv.same off_same, hxd.dp, hxd.sl, fun v' H' s' fr => ?_⟩
    refine ⟨.ref a, rfl, a, C, rfl, T, hno, s' _ _ ha, fun dx nd ne => end_one (d := d) s' nd ne (fun G g1 _ => ?_) (fun G m _ _ _ g1 _ => ?_) q han⟩
    · exact Dq.same (fun b o e => by obtain ⟨x1, x2⟩ := nw_get e; exact g1 b o x1 x2) fr
    · exact Dq.same (fun b o e => by obtain ⟨x1, x2⟩ := nw_get e; exact g1 b o x1 x2) fr
theorem ok_InvalidCount (T : ExcK K C (tlOf "ValueError") "ValueError.__new__") (S : IniK P K mg W0_InvalidCount f cc cda C "ValueError" "ValueError.__init__") (hno : PySem.W.findIn K (.ref C) "value" = some none)
    (hfd : ∃ (oc : Value) (od : Option Addr) (osl : Array (Option Value)), K.lookup f = some ⟨oc, od, .func fd, osl⟩) (O_kept : Own P w K mg base CX0 7 "kept" ["value"] (sp_kept K 6) fK fdK) : FnOk P w K mg base CX0 8 f fd ["self", "value"] (sp_init K C ["value"]) := by
  refine ini_ok (N := ["self", "value", "__class__"]) exb_V T S rfl sc_InvalidCount rfl (fun vs H Q E h => ?_) (fun vs H Q E h => ?_) (fun L => ⟨_, rfl⟩) (fun A outer s H vs Q E hr h => ?_) hfd
  · obtain ⟨a, xs, ds, rfl, hl, _⟩ := h
    show xs.length + 1 = 2
    rw [hl]
    rfl
  · obtain ⟨a, xs, ds, rfl, _, ha, _⟩ := h
    exact ⟨a, rfl, ha⟩
  · obtain ⟨a, xs, ds, rfl, hl, ha, hd, hx, q⟩ := h
    obtain ⟨v, d, rfl, rfl, hv⟩ : ∃ v d, xs = [v] ∧ ds = [d] ∧ Dq K (off H a) v d := by
      match xs, hl, hd with
      | [v], _, .cons hv .nil => exact ⟨v, _, rfl, rfl, hv⟩
    have hxd := hx d (by simp)
    have han : H a ≠ none := by rw [ha]; exact fun z => nomatch z
    refine ⟨_, pss_one (ps_ostB exb_V (pv 0) (pe_own O_kept hr (pa_cons (pv 1) pa_nil))), ?_⟩
    refine ⟨v, rfl, v, d, rfl, hv.same off_same, hxd.dp, hxd.sl, fun v' H' s' fr => ?_⟩
    refine ⟨.ref a, rfl, a, C, rfl, T, hno, s' _ _ ha, fun dx nd ne => end_one (d := d) s' nd ne (fun G g1 _ => ?_) (fun G m _ _ _ g1 _ => ?_) q han⟩
    · exact Dq.same (fun b o e => by obtain ⟨x1, x2⟩ := nw_get e; exact g1 b o x1 x2) fr
    · exact Dq.same (fun b o e => by obtain ⟨x1, x2⟩ := nw_get e; exact g1 b o x1 x2) fr
theorem ok_InvalidFields (T : ExcK K C (tlOf "ValueError") "ValueError.__new__") (S : IniK P K mg W0_InvalidFields f cc cda C "ValueError" "ValueError.__init__") (hno : PySem.W.findIn K (.ref C) "index" = some none)
    (hfd : ∃ (oc : Value) (od : Option Addr) (osl : Array (Option Value)), K.lookup f = some ⟨oc, od, .func fd, osl⟩) : FnOk P w K mg base CX0 1 f fd ["self", "index"] (sp_init K C ["index"]) := by
  refine ini_ok (N := ["self", "index", "__class__"]) exb_V T S rfl sc_InvalidFields rfl (fun vs H Q E h => ?_) (fun vs H Q E h => ?_) (fun L => ⟨_, rfl⟩) (fun A outer s H vs Q E hr h => ?_) hfd
  · obtain ⟨a, xs, ds, rfl, hl, _⟩ := h
    show xs.length + 1 = 2
    rw [hl]
    rfl
  · obtain ⟨a, xs, ds, rfl, _, ha, _⟩ := h
    exact ⟨a, rfl, ha⟩
  · obtain ⟨a, xs, ds, rfl, hl, ha, hd, hx, q⟩ := h
    obtain ⟨v, d, rfl, rfl, hv⟩ : ∃ v d, xs = [v] ∧ ds = [d] ∧ Dq K (off H a) v d := by
      match xs, hl, hd with
      | [v], _, .cons hv .nil => exact ⟨v, _, rfl, rfl, hv⟩
    have hxd := hx d (by simp)
    have han : H a ≠ none := by rw [ha]; exact fun z => nomatch z
    refine ⟨_, pss_one (ps_ostB exb_V (pv 0) (pv 1)), ?_⟩
    refine ⟨v, rfl, .ref a, rfl, a, C, rfl, T, hno, ha, fun dx nd ne => end_one (d := d) (Same.refl H) nd ne (fun G _ g2 => ?_) (fun G m _ _ hm _ g2 => ?_) q han⟩
    · exact Dq.same (fun b o e => by obtain ⟨x1, x2⟩ := off_get e; exact g2 b o x1 x2) hv
    · exact Dq.same (fun b o e => by obtain ⟨x1, x2⟩ := off_get e; obtain ⟨x3, x4⟩ := off_get x2; exact g2 b o x3 x1 x4) hm
theorem ok_InvalidEquation (T : ExcK K C (tlOf "ValueError") "ValueError.__new__") (S : IniK P K mg W0_InvalidEquation f cc cda C "ValueError" "ValueError.__init__") (hno : PySem.W.findIn K (.ref C) "value" = some none)
    (hfd : ∃ (oc : Value) (od : Option Addr) (osl : Array (Option Value)), K.lookup f = some ⟨oc, od, .func fd, osl⟩) (O_kept : Own P w K mg base CX0 7 "kept" ["value"] (sp_kept K 6) fK fdK) : FnOk P w K mg base CX0 8 f fd ["self", "value"] (sp_init K C ["value"]) := by
  refine ini_ok (N := ["self", "value", "__class__"]) exb_V T S rfl sc_InvalidEquation rfl (fun vs H Q E h => ?_) (fun vs H Q E h => ?_) (fun L => ⟨_, rfl⟩) (fun A outer s H vs Q E hr h => ?_) hfd
  · obtain ⟨a, xs, ds, rfl, hl, _⟩ := h
    show xs.length + 1 = 2
    rw [hl]
    rfl
  · obtain ⟨a, xs, ds, rfl, _, ha, _⟩ := h
    exact ⟨a, rfl, ha⟩
  · obtain ⟨a, xs, ds, rfl, hl, ha, hd, hx, q⟩ := h
    obtain ⟨v, d, rfl, rfl, hv⟩ : ∃ v d, xs = [v] ∧ ds = [d] ∧ Dq K (off H a) v d := by
      match xs, hl, hd with
      | [v], _, .cons hv .nil => exact ⟨v, _, rfl, rfl, hv⟩
    have hxd := hx d (by simp)
    have han : H a ≠ none := by rw [ha]; exact fun z => nomatch z
    refine ⟨_, pss_one (ps_ostB exb_V (pv 0) (pe_own O_kept hr (pa_cons (pv 1) pa_nil))), ?_⟩
    refine ⟨v, rfl, v, d, rfl, hv.same off_same, hxd.dp, hxd.sl, fun v' H' s' fr => ?_⟩
    refine ⟨.ref a, rfl, a, C, rfl, T, hno, s' _ _ ha, fun dx nd ne => end_one (d := d) s' nd ne (fun G g1 _ => ?_) (fun G m _ _ _ g1 _ => ?_) q han⟩
    · exact Dq.same (fun b o e => by obtain ⟨x1, x2⟩ := nw_get e; exact g1 b o x1 x2) fr
    · exact Dq.same (fun b o e => by obtain ⟨x1, x2⟩ := nw_get e; exact g1 b o x1 x2) fr
theorem ok_InvalidEquations (T : ExcK K C (tlOf "ValueError") "ValueError.__new__") (S : IniK P K mg W0_InvalidEquations f cc cda C "ValueError" "ValueError.__init__") (hno : PySem.W.findIn K (.ref C) "index" = some none)
    (hfd : ∃ (oc : Value) (od : Option Addr) (osl : Array (Option Value)), K.lookup f = some ⟨oc, od, .func fd, osl⟩) : FnOk P w K mg base CX0 1 f fd ["self", "index"] (sp_init K C ["index"]) := by
  refine ini_ok (N := ["self", "index", "__class__"]) exb_V T S rfl sc_InvalidEquations rfl (fun vs H Q E h => ?_) (fun vs H Q E h => ?_) (fun L => ⟨_, rfl⟩) (fun A outer s H vs Q E hr h => ?_) hfd
  · obtain ⟨a, xs, ds, rfl, hl, _⟩ := h
    show xs.length + 1 = 2
    rw [hl]
    rfl
  · obtain ⟨a, xs, ds, rfl, _, ha, _⟩ := h
    exact ⟨a, rfl, ha⟩
  · obtain ⟨a, xs, ds, rfl, hl, ha, hd, hx, q⟩ := h
    obtain ⟨v, d, rfl, rfl, hv⟩ : ∃ v d, xs = [v] ∧ ds = [d] ∧ Dq K (off H a) v d := by
      match xs, hl, hd with
      | [v], _, .cons hv .nil => exact ⟨v, _, rfl, rfl, hv⟩
    have hxd := hx d (by simp)
    have han : H a ≠ none := by rw [ha]; exact fun z => nomatch z
    refine ⟨_, pss_one (ps_ostB exb_V (pv 0) (pv 1)), ?_⟩
    refine ⟨v, rfl, .ref a, rfl, a, C, rfl, T, hno, ha, fun dx nd ne => end_one (d := d) (Same.refl H) nd ne (fun G _ g2 => ?_) (fun G m _ _ hm _ g2 => ?_) q han⟩
    · exact Dq.same (fun b o e => by obtain ⟨x1, x2⟩ := off_get e; exact g2 b o x1 x2) hv
    · exact Dq.same (fun b o e => by obtain ⟨x1, x2⟩ := off_get e; obtain ⟨x3, x4⟩ := off_get x2; exact g2 b o x3 x1 x4) hm
theorem ok_InvalidSetting (T : ExcK K C (tlOf "ValueError") "ValueError.__new__") (S : IniK P K mg W0_InvalidSetting f cc cda C "ValueError" "ValueError.__init__") (hno : PySem.W.findIn K (.ref C) "value" = some none)
    (hfd : ∃ (oc : Value) (od : Option Addr) (osl : Array (Option Value)), K.lookup f = some ⟨oc, od, .func fd, osl⟩) (O_kept : Own P w K mg base CX0 7 "kept" ["value"] (sp_kept K 6) fK fdK) : FnOk P w K mg base CX0 8 f fd ["self", "value"] (sp_init K C ["value"]) := by
  refine ini_ok (N := ["self", "value", "__class__"]) exb_V T S rfl sc_InvalidSetting rfl (fun vs H Q E h => ?_) (fun vs H Q E h => ?_) (fun L => ⟨_, rfl⟩) (fun A outer s H vs Q E hr h => ?_) hfd
  · obtain ⟨a, xs, ds, rfl, hl, _⟩ := h
    show xs.length + 1 = 2
    rw [hl]
    rfl
  · obtain ⟨a, xs, ds, rfl, _, ha, _⟩ := h
    exact ⟨a, rfl, ha⟩
  · obtain ⟨a, xs, ds, rfl, hl, ha, hd, hx, q⟩ := h
    obtain ⟨v, d, rfl, rfl, hv⟩ : ∃ v d, xs = [v] ∧ ds = [d] ∧ Dq K (off H a) v d := by
      match xs, hl, hd with
      | [v], _, .cons hv .nil => exact ⟨v, _, rfl, rfl, hv⟩
    have hxd := hx d (by simp)
    have han : H a ≠ none := by rw [ha]; exact fun z => nomatch z
    refine ⟨_, pss_one (ps_ostB exb_V (pv 0) (pe_own O_kept hr (pa_cons (pv 1) pa_nil))), ?_⟩
    refine ⟨v, rfl, v, d, rfl, hv.same off_same, hxd.dp, hxd.sl, fun v' H' s' fr => ?_⟩
    refine ⟨.ref a, rfl, a, C, rfl, T, hno, s' _ _ ha, fun dx nd ne => end_one (d := d) s' nd ne (fun G g1 _ => ?_) (fun G m _ _ _ g1 _ => ?_) q han⟩
    · exact Dq.same (fun b o e => by obtain ⟨x1, x2⟩ := nw_get e; exact g1 b o x1 x2) fr
    · exact Dq.same (fun b o e => by obtain ⟨x1, x2⟩ := nw_get e; exact g1 b o x1 x2) fr
theorem ok_InvalidSettings (T : ExcK K C (tlOf "ValueError") "ValueError.__new__") (S : IniK P K mg W0_InvalidSettings f cc cda C "ValueError" "ValueError.__init__") (hno : PySem.W.findIn K (.ref C) "index" = some none)
    (hfd : ∃ (oc : Value) (od : Option Addr) (osl : Array (Option Value)), K.lookup f = some ⟨oc, od, .func fd, osl⟩) : FnOk P w K mg base CX0 1 f fd ["self", "index"] (sp_init K C ["index"]) := by
  refine ini_ok (N := ["self", "index", "__class__"]) exb_V T S rfl sc_InvalidSettings rfl (fun vs H Q E h => ?_) (fun vs H Q E h => ?_) (fun L => ⟨_, rfl⟩) (fun A outer s H vs Q E hr h => ?_) hfd
  · obtain ⟨a, xs, ds, rfl, hl, _⟩ := h
    show xs.length + 1 = 2
    rw [hl]
    rfl
  · obtain ⟨a, xs, ds, rfl, _, ha, _⟩ := h
    exact ⟨a, rfl, ha⟩
  · obtain ⟨a, xs, ds, rfl, hl, ha, hd, hx, q⟩ := h
    obtain ⟨v, d, rfl, rfl, hv⟩ : ∃ v d, xs = [v] ∧ ds = [d] ∧ Dq K (off H a) v d := by
      match xs, hl, hd with
      | [v], _, .cons hv .nil => exact ⟨v, _, rfl, rfl, hv⟩
    have hxd := hx d (by simp)
    have han : H a ≠ none := by rw [ha]; exact fun z => nomatch z
    refine ⟨_, pss_one (ps_ostB exb_V (pv 0) (pv 1)), ?_⟩
    refine ⟨v, rfl, .ref a, rfl, a, C, rfl, T, hno, ha, fun dx nd ne => end_one (d := d) (Same.refl H) nd ne (fun G _ g2 => ?_) (fun G m _ _ hm _ g2 => ?_) q han⟩
    · exact Dq.same (fun b o e => by obtain ⟨x1, x2⟩ := off_get e; exact g2 b o x1 x2) hv
    · exact Dq.same (fun b o e => by obtain ⟨x1, x2⟩ := off_get e; obtain ⟨x3, x4⟩ := off_get x2; exact g2 b o x3 x1 x4) hm
theorem ok_InvalidPairs (T : ExcK K C (tlOf "ValueError") "ValueError.__new__") (S : IniK P K mg W0_InvalidPairs f cc cda C "ValueError" "ValueError.__init__") (hno : PySem.W.findIn K (.ref C) "index" = some none)
    (hfd : ∃ (oc : Value) (od : Option Addr) (osl : Array (Option Value)), K.lookup f = some ⟨oc, od, .func fd, osl⟩) : FnOk P w K mg base CX0 1 f fd ["self", "index"] (sp_init K C ["index"]) := by
  refine ini_ok (N := ["self", "index", "__class__"]) exb_V T S rfl sc_InvalidPairs rfl (fun vs H Q E h => ?_) (fun vs H Q E h => ?_) (fun L => ⟨_, rfl⟩) (fun A outer s H vs Q E hr h => ?_) hfd
  · obtain ⟨a, xs, ds, rfl, hl, _⟩ := h
    show xs.length + 1 = 2
    rw [hl]
    rfl
  · obtain ⟨a, xs, ds, rfl, _, ha, _⟩ := h
    exact ⟨a, rfl, ha⟩
  · obtain ⟨a, xs, ds, rfl, hl, ha, hd, hx, q⟩ := h
    obtain ⟨v, d, rfl, rfl, hv⟩ : ∃ v d, xs = [v] ∧ ds = [d] ∧ Dq K (off H a) v d := by
      match xs, hl, hd with
      | [v], _, .cons hv .nil => exact ⟨v, _, rfl, rfl, hv⟩
    have hxd := hx d (by simp)
    have han : H a ≠ none := by rw [ha]; exact fun z => nomatch z
    refine ⟨_, pss_one (ps_ostB exb_V (pv 0) (pv 1)), ?_⟩
    refine ⟨v, rfl, .ref a, rfl, a, C, rfl, T, hno, ha, fun dx nd ne => end_one (d := d) (Same.refl H) nd ne (fun G _ g2 => ?_) (fun G m _ _ hm _ g2 => ?_) q han⟩
    · exact Dq.same (fun b o e => by obtain ⟨x1, x2⟩ := off_get e; exact g2 b o x1 x2) hv
    · exact Dq.same (fun b o e => by obtain ⟨x1, x2⟩ := off_get e; obtain ⟨x3, x4⟩ := off_get x2; exact g2 b o x3 x1 x4) hm
theorem ok_InvalidWishes (T : ExcK K C (tlOf "ValueError") "ValueError.__new__") (S : IniK P K mg W0_InvalidWishes f cc cda C "ValueError" "ValueError.__init__") (hno : PySem.W.findIn K (.ref C) "index" = some none)
    (hfd : ∃ (oc : Value) (od : Option Addr) (osl : Array (Option Value)), K.lookup f = some ⟨oc, od, .func fd, osl⟩) : FnOk P w K mg base CX0 1 f fd ["self", "index"] (sp_init K C ["index"]) := by
  refine ini_ok (N := ["self", "index", "__class__"]) exb_V T S rfl sc_InvalidWishes rfl (fun vs H Q E h => ?_) (fun vs H Q E h => ?_) (fun L => ⟨_, rfl⟩) (fun A outer s H vs Q E hr h => ?_) hfd
  · obtain ⟨a, xs, ds, rfl, hl, _⟩ := h
    show xs.length + 1 = 2
    rw [hl]
    rfl
  · obtain ⟨a, xs, ds, rfl, _, ha, _⟩ := h
    exact ⟨a, rfl, ha⟩
  · obtain ⟨a, xs, ds, rfl, hl, ha, hd, hx, q⟩ := h
    obtain ⟨v, d, rfl, rfl, hv⟩ : ∃ v d, xs = [v] ∧ ds = [d] ∧ Dq K (off H a) v d := by
      match xs, hl, hd with
      | [v], _, .cons hv .nil => exact ⟨v, _, rfl, rfl, hv⟩
    have hxd := hx d (by simp)
    have han : H a ≠ none := by rw [ha]; exact fun z => nomatch z
    refine ⟨_, pss_one (ps_ostB exb_V (pv 0) (pv 1)), ?_⟩
    refine ⟨v, rfl, .ref a, rfl, a, C, rfl, T, hno, ha, fun dx nd ne => end_one (d := d) (Same.refl H) nd ne (fun G _ g2 => ?_) (fun G m _ _ hm _ g2 => ?_) q han⟩
    · exact Dq.same (fun b o e => by obtain ⟨x1, x2⟩ := off_get e; exact g2 b o x1 x2) hv
    · exact Dq.same (fun b o e => by obtain ⟨x1, x2⟩ := off_get e; obtain ⟨x3, x4⟩ := off_get x2; exact g2 b o x3 x1 x4) hm
theorem ok_InvalidNames (T : ExcK K C (tlOf "ValueError") "ValueError.__new__") (S : IniK P K mg W0_InvalidNames f cc cda C "ValueError" "ValueError.__init__") (hno : PySem.W.findIn K (.ref C) "index" = some none)
    (hfd : ∃ (oc : Value) (od : Option Addr) (osl : Array (Option Value)), K.lookup f = some ⟨oc, od, .func fd, osl⟩) : FnOk P w K mg base CX0 1 f fd ["self", "index"] (sp_init K C ["index"]) := by
  refine ini_ok (N := ["self", "index", "__class__"]) exb_V T S rfl sc_InvalidNames rfl (fun vs H Q E h => ?_) (fun vs H Q E h => ?_) (fun L => ⟨_, rfl⟩) (fun A outer s H vs Q E hr h => ?_) hfd
  · obtain ⟨a, xs, ds, rfl, hl, _⟩ := h
    show xs.length + 1 = 2
    rw [hl]
    rfl
  · obtain ⟨a, xs, ds, rfl, _, ha, _⟩ := h
    exact ⟨a, rfl, ha⟩
  · obtain ⟨a, xs, ds, rfl, hl, ha, hd, hx, q⟩ := h
    obtain ⟨v, d, rfl, rfl, hv⟩ : ∃ v d, xs = [v] ∧ ds = [d] ∧ Dq K (off H a) v d := by
      match xs, hl, hd with
      | [v], _, .cons hv .nil => exact ⟨v, _, rfl, rfl, hv⟩
    have hxd := hx d (by simp)
    have han : H a ≠ none := by rw [ha]; exact fun z => nomatch z
    refine ⟨_, pss_one (ps_ostB exb_V (pv 0) (pv 1)), ?_⟩
    refine ⟨v, rfl, .ref a, rfl, a, C, rfl, T, hno, ha, fun dx nd ne => end_one (d := d) (Same.refl H) nd ne (fun G _ g2 => ?_) (fun G m _ _ hm _ g2 => ?_) q han⟩
    · exact Dq.same (fun b o e => by obtain ⟨x1, x2⟩ := off_get e; exact g2 b o x1 x2) hv
    · exact Dq.same (fun b o e => by obtain ⟨x1, x2⟩ := off_get e; obtain ⟨x3, x4⟩ := off_get x2; exact g2 b o x3 x1 x4) hm
theorem ok_InvalidText (T : ExcK K C (tlOf "ValueError") "ValueError.__new__") (S : IniK P K mg W0_InvalidText f cc cda C "ValueError" "ValueError.__init__") (hno : PySem.W.findIn K (.ref C) "line" = some none)
    (hfd : ∃ (oc : Value) (od : Option Addr) (osl : Array (Option Value)), K.lookup f = some ⟨oc, od, .func fd, osl⟩) : FnOk P w K mg base CX0 1 f fd ["self", "line"] (sp_init K C ["line"]) := by
  refine ini_ok (N := ["self", "line", "__class__"]) exb_V T S rfl sc_InvalidText rfl (fun vs H Q E h => ?_) (fun vs H Q E h => ?_) (fun L => ⟨_, rfl⟩) (fun A outer s H vs Q E hr h => ?_) hfd
  · obtain ⟨a, xs, ds, rfl, hl, _⟩ := h
    show xs.length + 1 = 2
    rw [hl]
    rfl
  · obtain ⟨a, xs, ds, rfl, _, ha, _⟩ := h
    exact ⟨a, rfl, ha⟩
  · obtain ⟨a, xs, ds, rfl, hl, ha, hd, hx, q⟩ := h
    obtain ⟨v, d, rfl, rfl, hv⟩ : ∃ v d, xs = [v] ∧ ds = [d] ∧ Dq K (off H a) v d := by
      match xs, hl, hd with
      | [v], _, .cons hv .nil => exact ⟨v, _, rfl, rfl, hv⟩
    have hxd := hx d (by simp)
    have han : H a ≠ none := by rw [ha]; exact fun z => nomatch z
    refine ⟨_, pss_one (ps_ostB exb_V (pv 0) (pv 1)), ?_⟩
    refine ⟨v, rfl, .ref a, rfl, a, C, rfl, T, hno, ha, fun dx nd ne => end_one (d := d) (Same.refl H) nd ne (fun G _ g2 => ?_) (fun G m _ _ hm _ g2 => ?_) q han⟩
    · exact Dq.same (fun b o e => by obtain ⟨x1, x2⟩ := off_get e; exact g2 b o x1 x2) hv
    · exact Dq.same (fun b o e => by obtain ⟨x1, x2⟩ := off_get e; obtain ⟨x3, x4⟩ := off_get x2; exact g2 b o x3 x1 x4) hm
theorem ok_InvalidCommand (T : ExcK K C (tlOf "ValueError") "ValueError.__new__") (S : IniK P K mg W0_InvalidCommand f cc cda C "ValueError" "ValueError.__init__") (hno : PySem.W.findIn K (.ref C) "command" = some none)
    (hfd : ∃ (oc : Value) (od : Option Addr) (osl : Array (Option Value)), K.lookup f = some ⟨oc, od, .func fd, osl⟩) (O_kept : Own P w K mg base CX0 7 "kept" ["value"] (sp_kept K 6) fK fdK) : FnOk P w K mg base CX0 8 f fd ["self", "command"] (sp_init K C ["command"]) := by
  refine ini_ok (N := ["self", "command", "__class__"]) exb_V T S rfl sc_InvalidCommand rfl (fun vs H Q E h => ?_) (fun vs H Q E h => ?_) (fun L => ⟨_, rfl⟩) (fun A outer s H vs Q E hr h => ?_) hfd
  · obtain ⟨a, xs, ds, rfl, hl, _⟩ := h
    show xs.length + 1 = 2
    rw [hl]
    rfl
  · obtain ⟨a, xs, ds, rfl, _, ha, _⟩ := h
    exact ⟨a, rfl, ha⟩
  · obtain ⟨a, xs, ds, rfl, hl, ha, hd, hx, q⟩ := h
    obtain ⟨v, d, rfl, rfl, hv⟩ : ∃ v d, xs = [v] ∧ ds = [d] ∧ Dq K (off H a) v d := by
      match xs, hl, hd with
      | [v], _, .cons hv .nil => exact ⟨v, _, rfl, rfl, hv⟩
    have hxd := hx d (by simp)
    have han : H a ≠ none := by rw [ha]; exact fun z => nomatch z
    refine ⟨_, pss_one (ps_ostB exb_V (pv 0) (pe_own O_kept hr (pa_cons (pv 1) pa_nil))), ?_⟩
    refine ⟨v, rfl, v, d, rfl, hv.same off_same, hxd.dp, hxd.sl, fun v' H' s' fr => ?_⟩
    refine ⟨.ref a, rfl, a, C, rfl, T, hno, s' _ _ ha, fun dx nd ne => end_one (d := d) s' nd ne (fun G g1 _ => ?_) (fun G m _ _ _ g1 _ => ?_) q han⟩
    · exact Dq.same (fun b o e => by obtain ⟨x1, x2⟩ := nw_get e; exact g1 b o x1 x2) fr
    · exact Dq.same (fun b o e => by obtain ⟨x1, x2⟩ := nw_get e; exact g1 b o x1 x2) fr
theorem ok_UnknownField (T : ExcK K C (tlOf "LookupError") "LookupError.__new__") (S : IniK P K mg W0_UnknownField f cc cda C "LookupError" "LookupError.__init__") (hno : PySem.W.findIn K (.ref C) "value" = some none)
    (hfd : ∃ (oc : Value) (od : Option Addr) (osl : Array (Option Value)), K.lookup f = some ⟨oc, od, .func fd, osl⟩) (O_kept : Own P w K mg base CX0 7 "kept" ["value"] (sp_kept K 6) fK fdK) : FnOk P w K mg base CX0 8 f fd ["self", "value"] (sp_init K C ["value"]) := by
  refine ini_ok (N := ["self", "value", "__class__"]) exb_L T S rfl sc_UnknownField rfl (fun vs H Q E h => ?_) (fun vs H Q E h => ?_) (fun L => ⟨_, rfl⟩) (fun A outer s H vs Q E hr h => ?_) hfd
  · obtain ⟨a, xs, ds, rfl, hl, _⟩ := h
    show xs.length + 1 = 2
    rw [hl]
    rfl
  · obtain ⟨a, xs, ds, rfl, _, ha, _⟩ := h
    exact ⟨a, rfl, ha⟩
  · obtain ⟨a, xs, ds, rfl, hl, ha, hd, hx, q⟩ := h
    obtain ⟨v, d, rfl, rfl, hv⟩ : ∃ v d, xs = [v] ∧ ds = [d] ∧ Dq K (off H a) v d := by
      match xs, hl, hd with
      | [v], _, .cons hv .nil => exact ⟨v, _, rfl, rfl, hv⟩
    have hxd := hx d (by simp)
    have han : H a ≠ none := by rw [ha]; exact fun z => nomatch z
    refine ⟨_, pss_one (ps_ostB exb_L (pv 0) (pe_own O_kept hr (pa_cons (pv 1) pa_nil))), ?_⟩
    refine ⟨v, rfl, v, d, rfl, hv.same off_same, hxd.dp, hxd.sl, fun v' H' s' fr => ?_⟩
    refine ⟨.ref a, rfl, a, C, rfl, T, hno, s' _ _ ha, fun dx nd ne => end_one (d := d) s' nd ne (fun G g1 _ => ?_) (fun G m _ _ _ g1 _ => ?_) q han⟩
    · exact Dq.same (fun b o e => by obtain ⟨x1, x2⟩ := nw_get e; exact g1 b o x1 x2) fr
    · exact Dq.same (fun b o e => by obtain ⟨x1, x2⟩ := nw_get e; exact g1 b o x1 x2) fr
theorem ok_UnknownReplica (T : ExcK K C (tlOf "LookupError") "LookupError.__new__") (S : IniK P K mg W0_UnknownReplica f cc cda C "LookupError" "LookupError.__init__") (hno : PySem.W.findIn K (.ref C) "value" = some none)
    (hfd : ∃ (oc : Value) (od : Option Addr) (osl : Array (Option Value)), K.lookup f = some ⟨oc, od, .func fd, osl⟩) (O_kept : Own P w K mg base CX0 7 "kept" ["value"] (sp_kept K 6) fK fdK) : FnOk P w K mg base CX0 8 f fd ["self", "value"] (sp_init K C ["value"]) := by
  refine ini_ok (N := ["self", "value", "__class__"]) exb_L T S rfl sc_UnknownReplica rfl (fun vs H Q E h => ?_) (fun vs H Q E h => ?_) (fun L => ⟨_, rfl⟩) (fun A outer s H vs Q E hr h => ?_) hfd
  · obtain ⟨a, xs, ds, rfl, hl, _⟩ := h
    show xs.length + 1 = 2
    rw [hl]
    rfl
  · obtain ⟨a, xs, ds, rfl, _, ha, _⟩ := h
    exact ⟨a, rfl, ha⟩
  · obtain ⟨a, xs, ds, rfl, hl, ha, hd, hx, q⟩ := h
    obtain ⟨v, d, rfl, rfl, hv⟩ : ∃ v d, xs = [v] ∧ ds = [d] ∧ Dq K (off H a) v d := by
      match xs, hl, hd with
      | [v], _, .cons hv .nil => exact ⟨v, _, rfl, rfl, hv⟩
    have hxd := hx d (by simp)
    have han : H a ≠ none := by rw [ha]; exact fun z => nomatch z
    refine ⟨_, pss_one (ps_ostB exb_L (pv 0) (pe_own O_kept hr (pa_cons (pv 1) pa_nil))), ?_⟩
    refine ⟨v, rfl, v, d, rfl, hv.same off_same, hxd.dp, hxd.sl, fun v' H' s' fr => ?_⟩
    refine ⟨.ref a, rfl, a, C, rfl, T, hno, s' _ _ ha, fun dx nd ne => end_one (d := d) s' nd ne (fun G g1 _ => ?_) (fun G m _ _ _ g1 _ => ?_) q han⟩
    · exact Dq.same (fun b o e => by obtain ⟨x1, x2⟩ := nw_get e; exact g1 b o x1 x2) fr
    · exact Dq.same (fun b o e => by obtain ⟨x1, x2⟩ := nw_get e; exact g1 b o x1 x2) fr
theorem ok_UnknownMessage (T : ExcK K C (tlOf "LookupError") "LookupError.__new__") (S : IniK P K mg W0_UnknownMessage f cc cda C "LookupError" "LookupError.__init__") (hno : PySem.W.findIn K (.ref C) "value" = some none)
    (hfd : ∃ (oc : Value) (od : Option Addr) (osl : Array (Option Value)), K.lookup f = some ⟨oc, od, .func fd, osl⟩) (O_kept : Own P w K mg base CX0 7 "kept" ["value"] (sp_kept K 6) fK fdK) : FnOk P w K mg base CX0 8 f fd ["self", "value"] (sp_init K C ["value"]) := by
  refine ini_ok (N := ["self", "value", "__class__"]) exb_L T S rfl sc_UnknownMessage rfl (fun vs H Q E h => ?_) (fun vs H Q E h => ?_) (fun L => ⟨_, rfl⟩) (fun A outer s H vs Q E hr h => ?_) hfd
  · obtain ⟨a, xs, ds, rfl, hl, _⟩ := h
    show xs.length + 1 = 2
    rw [hl]
    rfl
  · obtain ⟨a, xs, ds, rfl, _, ha, _⟩ := h
    exact ⟨a, rfl, ha⟩
  · obtain ⟨a, xs, ds, rfl, hl, ha, hd, hx, q⟩ := h
    obtain ⟨v, d, rfl, rfl, hv⟩ : ∃ v d, xs = [v] ∧ ds = [d] ∧ Dq K (off H a) v d := by
      match xs, hl, hd with
      | [v], _, .cons hv .nil => exact ⟨v, _, rfl, rfl, hv⟩
    have hxd := hx d (by simp)
    have han : H a ≠ none := by rw [ha]; exact fun z => nomatch z
    refine ⟨_, pss_one (ps_ostB exb_L (pv 0) (pe_own O_kept hr (pa_cons (pv 1) pa_nil))), ?_⟩
    refine ⟨v, rfl, v, d, rfl, hv.same off_same, hxd.dp, hxd.sl, fun v' H' s' fr => ?_⟩
    refine ⟨.ref a, rfl, a, C, rfl, T, hno, s' _ _ ha, fun dx nd ne => end_one (d := d) s' nd ne (fun G g1 _ => ?_) (fun G m _ _ _ g1 _ => ?_) q han⟩
    · exact Dq.same (fun b o e => by obtain ⟨x1, x2⟩ := nw_get e; exact g1 b o x1 x2) fr
    · exact Dq.same (fun b o e => by obtain ⟨x1, x2⟩ := nw_get e; exact g1 b o x1 x2) fr
theorem ok_NotFree (T : ExcK K C (tlOf "RuntimeError") "RuntimeError.__new__") (S : IniK P K mg W0_NotFree f cc cda C "RuntimeError" "RuntimeError.__init__") (hno : PySem.W.findIn K (.ref C) "given" = some none)
    (hfd : ∃ (oc : Value) (od : Option Addr) (osl : Array (Option Value)), K.lookup f = some ⟨oc, od, .func fd, osl⟩) (O_kept : Own P w K mg base CX0 7 "kept" ["value"] (sp_kept K 6) fK fdK) : FnOk P w K mg base CX0 8 f fd ["self", "given"] (sp_init K C ["given"]) := by
  refine ini_ok (N := ["self", "given", "__class__"]) exb_R T S rfl sc_NotFree rfl (fun vs H Q E h => ?_) (fun vs H Q E h => ?_) (fun L => ⟨_, rfl⟩) (fun A outer s H vs Q E hr h => ?_) hfd
  · obtain ⟨a, xs, ds, rfl, hl, _⟩ := h
    show xs.length + 1 = 2
    rw [hl]
    rfl
  · obtain ⟨a, xs, ds, rfl, _, ha, _⟩ := h
    exact ⟨a, rfl, ha⟩
  · obtain ⟨a, xs, ds, rfl, hl, ha, hd, hx, q⟩ := h
    obtain ⟨v, d, rfl, rfl, hv⟩ : ∃ v d, xs = [v] ∧ ds = [d] ∧ Dq K (off H a) v d := by
      match xs, hl, hd with
      | [v], _, .cons hv .nil => exact ⟨v, _, rfl, rfl, hv⟩
    have hxd := hx d (by simp)
    have han : H a ≠ none := by rw [ha]; exact fun z => nomatch z
    refine ⟨_, pss_one (ps_ostB exb_R (pv 0) (pe_own O_kept hr (pa_cons (pv 1) pa_nil))), ?_⟩
    refine ⟨v, rfl, v, d, rfl, hv.same off_same, hxd.dp, hxd.sl, fun v' H' s' fr => ?_⟩
    refine ⟨.ref a, rfl, a, C, rfl, T, hno, s' _ _ ha, fun dx nd ne => end_one (d := d) s' nd ne (fun G g1 _ => ?_) (fun G m _ _ _ g1 _ => ?_) q han⟩
    · exact Dq.same (fun b o e => by obtain ⟨x1, x2⟩ := nw_get e; exact g1 b o x1 x2) fr
    · exact Dq.same (fun b o e => by obtain ⟨x1, x2⟩ := nw_get e; exact g1 b o x1 x2) fr
theorem ok_NotDetermined (T : ExcK K C (tlOf "RuntimeError") "RuntimeError.__new__") (S : IniK P K mg W0_NotDetermined f cc cda C "RuntimeError" "RuntimeError.__init__") (hno : PySem.W.findIn K (.ref C) "field" = some none)
    (hfd : ∃ (oc : Value) (od : Option Addr) (osl : Array (Option Value)), K.lookup f = some ⟨oc, od, .func fd, osl⟩) : FnOk P w K mg base CX0 1 f fd ["self", "field"] (sp_init K C ["field"]) := by
  refine ini_ok (N := ["self", "field", "__class__"]) exb_R T S rfl sc_NotDetermined rfl (fun vs H Q E h => ?_) (fun vs H Q E h => ?_) (fun L => ⟨_, rfl⟩) (fun A outer s H vs Q E hr h => ?_) hfd
  · obtain ⟨a, xs, ds, rfl, hl, _⟩ := h
    show xs.length + 1 = 2
    rw [hl]
    rfl
  · obtain ⟨a, xs, ds, rfl, _, ha, _⟩ := h
    exact ⟨a, rfl, ha⟩
  · obtain ⟨a, xs, ds, rfl, hl, ha, hd, hx, q⟩ := h
    obtain ⟨v, d, rfl, rfl, hv⟩ : ∃ v d, xs = [v] ∧ ds = [d] ∧ Dq K (off H a) v d := by
      match xs, hl, hd with
      | [v], _, .cons hv .nil => exact ⟨v, _, rfl, rfl, hv⟩
    have hxd := hx d (by simp)
    have han : H a ≠ none := by rw [ha]; exact fun z => nomatch z
    refine ⟨_, pss_one (ps_ostB exb_R (pv 0) (pv 1)), ?_⟩
    refine ⟨v, rfl, .ref a, rfl, a, C, rfl, T, hno, ha, fun dx nd ne => end_one (d := d) (Same.refl H) nd ne (fun G _ g2 => ?_) (fun G m _ _ hm _ g2 => ?_) q han⟩
    · exact Dq.same (fun b o e => by obtain ⟨x1, x2⟩ := off_get e; exact g2 b o x1 x2) hv
    · exact Dq.same (fun b o e => by obtain ⟨x1, x2⟩ := off_get e; obtain ⟨x3, x4⟩ := off_get x2; exact g2 b o x3 x1 x4) hm
theorem ok_OtherSheet (T : ExcK K C (tlOf "RuntimeError") "RuntimeError.__new__") (S : IniK P K mg W0_OtherSheet f cc cda C "RuntimeError" "RuntimeError.__init__") (hno : PySem.W.findIn K (.ref C) "index" = some none)
    (hfd : ∃ (oc : Value) (od : Option Addr) (osl : Array (Option Value)), K.lookup f = some ⟨oc, od, .func fd, osl⟩) : FnOk P w K mg base CX0 1 f fd ["self", "index"] (sp_init K C ["index"]) := by
  refine ini_ok (N := ["self", "index", "__class__"]) exb_R T S rfl sc_OtherSheet rfl (fun vs H Q E h => ?_) (fun vs H Q E h => ?_) (fun L => ⟨_, rfl⟩) (fun A outer s H vs Q E hr h => ?_) hfd
  · obtain ⟨a, xs, ds, rfl, hl, _⟩ := h
    show xs.length + 1 = 2
    rw [hl]
    rfl
  · obtain ⟨a, xs, ds, rfl, _, ha, _⟩ := h
    exact ⟨a, rfl, ha⟩
  · obtain ⟨a, xs, ds, rfl, hl, ha, hd, hx, q⟩ := h
    obtain ⟨v, d, rfl, rfl, hv⟩ : ∃ v d, xs = [v] ∧ ds = [d] ∧ Dq K (off H a) v d := by
      match xs, hl, hd with
      | [v], _, .cons hv .nil => exact ⟨v, _, rfl, rfl, hv⟩
    have hxd := hx d (by simp)
    have han : H a ≠ none := by rw [ha]; exact fun z => nomatch z
    refine ⟨_, pss_one (ps_ostB exb_R (pv 0) (pv 1)), ?_⟩
    refine ⟨v, rfl, .ref a, rfl, a, C, rfl, T, hno, ha, fun dx nd ne => end_one (d := d) (Same.refl H) nd ne (fun G _ g2 => ?_) (fun G m _ _ hm _ g2 => ?_) q han⟩
    · exact Dq.same (fun b o e => by obtain ⟨x1, x2⟩ := off_get e; exact g2 b o x1 x2) hv
    · exact Dq.same (fun b o e => by obtain ⟨x1, x2⟩ := off_get e; obtain ⟨x3, x4⟩ := off_get x2; exact g2 b o x3 x1 x4) hm
theorem ok_Impossible (T : ExcK K C (tlOf "RuntimeError") "RuntimeError.__new__") (S : IniK P K mg W0_Impossible f cc cda C "RuntimeError" "RuntimeError.__init__") (hno : PySem.W.findIn K (.ref C) "conflict" = some none)
    (hfd : ∃ (oc : Value) (od : Option Addr) (osl : Array (Option Value)), K.lookup f = some ⟨oc, od, .func fd, osl⟩) (O_kept : Own P w K mg base CX0 7 "kept" ["value"] (sp_kept K 6) fK fdK) : FnOk P w K mg base CX0 8 f fd ["self", "conflict"] (sp_init K C ["conflict"]) := by
  refine ini_ok (N := ["self", "conflict", "__class__"]) exb_R T S rfl sc_Impossible rfl (fun vs H Q E h => ?_) (fun vs H Q E h => ?_) (fun L => ⟨_, rfl⟩) (fun A outer s H vs Q E hr h => ?_) hfd
  · obtain ⟨a, xs, ds, rfl, hl, _⟩ := h
    show xs.length + 1 = 2
    rw [hl]
    rfl
  · obtain ⟨a, xs, ds, rfl, _, ha, _⟩ := h
    exact ⟨a, rfl, ha⟩
  · obtain ⟨a, xs, ds, rfl, hl, ha, hd, hx, q⟩ := h
    obtain ⟨v, d, rfl, rfl, hv⟩ : ∃ v d, xs = [v] ∧ ds = [d] ∧ Dq K (off H a) v d := by
      match xs, hl, hd with
      | [v], _, .cons hv .nil => exact ⟨v, _, rfl, rfl, hv⟩
    have hxd := hx d (by simp)
    have han : H a ≠ none := by rw [ha]; exact fun z => nomatch z
    refine ⟨_, pss_one (ps_ostB exb_R (pv 0) (pe_own O_kept hr (pa_cons (pv 1) pa_nil))), ?_⟩
    refine ⟨v, rfl, v, d, rfl, hv.same off_same, hxd.dp, hxd.sl, fun v' H' s' fr => ?_⟩
    refine ⟨.ref a, rfl, a, C, rfl, T, hno, s' _ _ ha, fun dx nd ne => end_one (d := d) s' nd ne (fun G g1 _ => ?_) (fun G m _ _ _ g1 _ => ?_) q han⟩
    · exact Dq.same (fun b o e => by obtain ⟨x1, x2⟩ := nw_get e; exact g1 b o x1 x2) fr
    · exact Dq.same (fun b o e => by obtain ⟨x1, x2⟩ := nw_get e; exact g1 b o x1 x2) fr
theorem ok_NoQuotient (T : ExcK K C (tlOf "ArithmeticError") "ArithmeticError.__new__") (S : IniK P K mg W0_NoQuotient f cc cda C "ArithmeticError" "ArithmeticError.__init__") (hno : PySem.W.findIn K (.ref C) "value" = some none)
    (hfd : ∃ (oc : Value) (od : Option Addr) (osl : Array (Option Value)), K.lookup f = some ⟨oc, od, .func fd, osl⟩) (O_kept : Own P w K mg base CX0 7 "kept" ["value"] (sp_kept K 6) fK fdK) : FnOk P w K mg base CX0 8 f fd ["self", "value"] (sp_init K C ["value"]) := by
  refine ini_ok (N := ["self", "value", "__class__"]) exb_A T S rfl sc_NoQuotient rfl (fun vs H Q E h => ?_) (fun vs H Q E h => ?_) (fun L => ⟨_, rfl⟩) (fun A outer s H vs Q E hr h => ?_) hfd
  · obtain ⟨a, xs, ds, rfl, hl, _⟩ := h
    show xs.length + 1 = 2
    rw [hl]
    rfl
  · obtain ⟨a, xs, ds, rfl, _, ha, _⟩ := h
    exact ⟨a, rfl, ha⟩
  · obtain ⟨a, xs, ds, rfl, hl, ha, hd, hx, q⟩ := h
    obtain ⟨v, d, rfl, rfl, hv⟩ : ∃ v d, xs = [v] ∧ ds = [d] ∧ Dq K (off H a) v d := by
      match xs, hl, hd with
      | [v], _, .cons hv .nil => exact ⟨v, _, rfl, rfl, hv⟩
    have hxd := hx d (by simp)
    have han : H a ≠ none := by rw [ha]; exact fun z => nomatch z
    refine ⟨_, pss_one (ps_ostB exb_A (pv 0) (pe_own O_kept hr (pa_cons (pv 1) pa_nil))), ?_⟩
    refine ⟨v, rfl, v, d, rfl, hv.same off_same, hxd.dp, hxd.sl, fun v' H' s' fr => ?_⟩
    refine ⟨.ref a, rfl, a, C, rfl, T, hno, s' _ _ ha, fun dx nd ne => end_one (d := d) s' nd ne (fun G g1 _ => ?_) (fun G m _ _ _ g1 _ => ?_) q han⟩
    · exact Dq.same (fun b o e => by obtain ⟨x1, x2⟩ := nw_get e; exact g1 b o x1 x2) fr
    · exact Dq.same (fun b o e => by obtain ⟨x1, x2⟩ := nw_get e; exact g1 b o x1 x2) fr
theorem end_any {H Hf : Hp} {Q : VK} {a dx : Addr} {xs : List V} {ds : List PyData} {fl : List Str} {fs : List (Str × V)} (ke : ∀ b o, b ≠ a → H b = some o → Hf b = some o) (ea : Hf a = some (exo a C (some dx))) (ed : Hf dx = some (exd dx fs)) (hd : H dx = none)
    (fld : ∀ f d, (f, d) ∈ fl.zip ds → ∃ y, fs.lookup f = some y ∧ Dq K Hf y d)
    (fldm : ∀ m, H m ≠ none → m ≠ a → DqAll K (off (off H a) m) xs ds → ∀ f d, (f, d) ∈ fl.zip ds → ∃ y, fs.lookup f = some y ∧ Dq K (off Hf m) y d)
    (q : ∀ H', Same (off H a) H' → ExF K H' (.ref a) C (fl.zip ds) → (∀ m, H m ≠ none → m ≠ a → DqAll K (off (off H a) m) xs ds → ExF K (off H' m) (.ref a) C (fl.zip ds)) → Q .non H') : Q .non Hf := by
  refine q _ (fun b o e => ?_) ⟨a, dx, fs, rfl, ea, ed, fld⟩ fun m hm na hdm => ⟨a, dx, fs, rfl, ?_, ?_, fldm m hm na hdm⟩
  · obtain ⟨n, e⟩ := off_get e
    exact ke b o n e
  · rw [off_ne (fun z => na z.symm)]
    exact ea
  · have nm : dx ≠ m := fun z => hm (z ▸ hd)
    rw [off_ne nm]
    exact ed
theorem ok_TooMany (T : ExcK K C (tlOf "ArithmeticError") "ArithmeticError.__new__") (S : IniK P K mg W0_TooMany f cc cda C "ArithmeticError" "ArithmeticError.__init__") (hno : ∀ x ∈ (["kind", "limit"] : List Str), PySem.W.findIn K (.ref C) x = some none)
    (hfd : ∃ (oc : Value) (od : Option Addr) (osl : Array (Option Value)), K.lookup f = some ⟨oc, od, .func fd, osl⟩) : FnOk P w K mg base CX0 1 f fd ["self", "kind", "limit"] (sp_init K C ["kind", "limit"]) := by
  refine ini_ok (N := ["self", "kind", "limit", "__class__"]) exb_A T S rfl sc_TooMany rfl (fun vs H Q E h => ?_) (fun vs H Q E h => ?_) (fun L => ⟨_, rfl⟩) (fun A outer s H vs Q E hr h => ?_) hfd
  · obtain ⟨a, xs, ds, rfl, hl, _⟩ := h
    show xs.length + 1 = 3
    rw [hl]
    rfl
  · obtain ⟨a, xs, ds, rfl, _, ha, _⟩ := h
    exact ⟨a, rfl, ha⟩
  · obtain ⟨a, xs, ds, rfl, hl, ha, hd, hx, q⟩ := h
    obtain ⟨v1, v2, d1, d2, rfl, rfl, h1, h2⟩ : ∃ v1 v2 d1 d2, xs = [v1, v2] ∧ ds = [d1, d2] ∧ Dq K (off H a) v1 d1 ∧ Dq K (off H a) v2 d2 := by
      match xs, hl, hd with
      | [v1, v2], _, .cons h1 (.cons h2 .nil) => exact ⟨v1, v2, _, _, rfl, rfl, h1, h2⟩
    refine ⟨_, pss_cons (ps_ostB exb_A (pv 0) (pv 1)) (pss_one (ps_ostM exb_A (pv 0) (pv 2))), ?_⟩
    refine ⟨v1, rfl, .ref a, rfl, a, C, rfl, T, hno _ (by simp), ha, fun dx nd ne => ?_⟩
    refine ⟨v2, rfl, .ref a, rfl, a, C, dx, _, rfl, T, hno _ (by simp), upd_same, by rw [upd_ne ne, upd_same], by show 1 ≤ 900; decide, ?_⟩
    have ke : ∀ b o, b ≠ a → H b = some o → (upd (upd (upd H dx (exd dx [("kind", v1)])) a (exo a C (some dx))) dx (exd dx [("limit", v2), ("kind", v1)])) b = some o := fun b o n e => by
      have nb : b ≠ dx := ne_of_none e nd
      rw [upd_ne nb, upd_ne n, upd_ne nb]
      exact e
    refine end_any (dx := dx) (fs := [("limit", v2), ("kind", v1)]) ke (by rw [upd_ne (Ne.symm ne), upd_same]) upd_same nd (fun f d hf => ?_) (fun m hm na hdm f d hf => ?_) q
    · have hf' : (f, d) ∈ [(("kind" : Str), d1), (("limit" : Str), d2)] := hf
      simp only [List.mem_cons, List.not_mem_nil, or_false] at hf'
      rcases hf' with e | e
      · cases e
        exact ⟨v1, rfl, Dq.same (fun b o e => by obtain ⟨x1, x2⟩ := off_get e; exact ke b o x1 x2) h1⟩
      · cases e
        exact ⟨v2, rfl, Dq.same (fun b o e => by obtain ⟨x1, x2⟩ := off_get e; exact ke b o x1 x2) h2⟩
    · have sm : Same (off (off H a) m) (off (upd (upd (upd H dx (exd dx [("kind", v1)])) a (exo a C (some dx))) dx (exd dx [("limit", v2), ("kind", v1)])) m) := fun b o e => by
        obtain ⟨x1, x2⟩ := off_get e
        obtain ⟨x3, x4⟩ := off_get x2
        rw [off_ne x1]
        exact ke b o x3 x4
      have hf' : (f, d) ∈ [(("kind" : Str), d1), (("limit" : Str), d2)] := hf
      simp only [List.mem_cons, List.not_mem_nil, or_false] at hf'
      cases hdm with
      | cons g1 g =>
        cases g with
        | cons g2 _ =>
          rcases hf' with e | e
          · cases e
            exact ⟨v1, rfl, g1.same sm⟩
          · cases e
            exact ⟨v2, rfl, g2.same sm⟩
theorem ok_RunFailed (T : ExcK K C (tlOf "RuntimeError") "RuntimeError.__new__") (S : IniK P K mg W0_RunFailed f cc cda C "RuntimeError" "RuntimeError.__init__") (hno : ∀ x ∈ (["position", "results"] : List Str), PySem.W.findIn K (.ref C) x = some none)
    (hfd : ∃ (oc : Value) (od : Option Addr) (osl : Array (Option Value)), K.lookup f = some ⟨oc, od, .func fd, osl⟩) (O_kept : Own P w K mg base CX0 7 "kept" ["value"] (sp_kept K 6) fK fdK) : FnOk P w K mg base CX0 8 f fd ["self", "position", "results"] (sp_init K C ["position", "results"]) := by
  refine ini_ok (N := ["self", "position", "results", "__class__"]) exb_R T S rfl sc_RunFailed rfl (fun vs H Q E h => ?_) (fun vs H Q E h => ?_) (fun L => ⟨_, rfl⟩) (fun A outer s H vs Q E hr h => ?_) hfd
  · obtain ⟨a, xs, ds, rfl, hl, _⟩ := h
    show xs.length + 1 = 3
    rw [hl]
    rfl
  · obtain ⟨a, xs, ds, rfl, _, ha, _⟩ := h
    exact ⟨a, rfl, ha⟩
  · obtain ⟨a, xs, ds, rfl, hl, ha, hd, hx, q⟩ := h
    obtain ⟨v1, v2, d1, d2, rfl, rfl, h1, h2⟩ : ∃ v1 v2 d1 d2, xs = [v1, v2] ∧ ds = [d1, d2] ∧ Dq K (off H a) v1 d1 ∧ Dq K (off H a) v2 d2 := by
      match xs, hl, hd with
      | [v1, v2], _, .cons h1 (.cons h2 .nil) => exact ⟨v1, v2, _, _, rfl, rfl, h1, h2⟩
    have hxd := hx d2 (by simp)
    have han : H a ≠ none := by rw [ha]; exact fun z => nomatch z
    refine ⟨_, pss_cons (ps_ostB exb_R (pv 0) (pv 1)) (pss_one (ps_ostM exb_R (pv 0) (pe_own O_kept hr (pa_cons (pv 2) pa_nil)))), ?_⟩
    refine ⟨v1, rfl, .ref a, rfl, a, C, rfl, T, hno _ (by simp), ha, fun dx nd ne => ?_⟩
    have k1 : ∀ b o, b ≠ a → H b = some o → (upd (upd H dx (exd dx [("position", v1)])) a (exo a C (some dx))) b = some o := fun b o n e => by
      rw [upd_ne n, upd_ne (ne_of_none e nd)]
      exact e
    have e1 : (upd (upd H dx (exd dx [("position", v1)])) a (exo a C (some dx))) a = some (exo a C (some dx)) := upd_same
    have e2 : (upd (upd H dx (exd dx [("position", v1)])) a (exo a C (some dx))) dx = some (exd dx [("position", v1)]) := by rw [upd_ne ne, upd_same]
    have fr1 : ∀ b, (upd (upd H dx (exd dx [("position", v1)])) a (exo a C (some dx))) b = none → H b = none := fun b e => by
      have n1 : b ≠ a := fun z => by rw [z, e1] at e; cases e
      have n2 : b ≠ dx := fun z => by rw [z, e2] at e; cases e
      rw [upd_ne n1, upd_ne n2] at e
      exact e
    refine ⟨v2, rfl, v2, d2, rfl, Dq.same (fun b o e => by obtain ⟨x1, x2⟩ := off_get e; exact k1 b o x1 x2) h2, hxd.dp, hxd.sl, fun v' H' s' fr => ?_⟩
    refine ⟨.ref a, rfl, a, C, dx, _, rfl, T, hno _ (by simp), s' _ _ e1, s' _ _ e2, by show 1 ≤ 900; decide, ?_⟩
    have ke : ∀ b o, b ≠ a → H b = some o → (upd H' dx (exd dx [("results", v'), ("position", v1)])) b = some o := fun b o n e => by
      rw [upd_ne (ne_of_none e nd)]
      exact s' _ _ (k1 b o n e)
    have new : ∀ b o, nw (upd (upd H dx (exd dx [("position", v1)])) a (exo a C (some dx))) H' b = some o → H b = none ∧ (upd H' dx (exd dx [("results", v'), ("position", v1)])) b = some o := fun b o e => by
      obtain ⟨x1, x2⟩ := nw_get e
      have n2 : b ≠ dx := fun z => by rw [z, e2] at x1; cases x1
      exact ⟨fr1 b x1, by rw [upd_ne n2]; exact x2⟩
    refine end_any (dx := dx) (fs := [("results", v'), ("position", v1)]) ke (by rw [upd_ne (Ne.symm ne)]; exact s' _ _ e1) upd_same nd (fun f d hf => ?_) (fun m hm na hdm f d hf => ?_) q
    · have hf' : (f, d) ∈ [(("position" : Str), d1), (("results" : Str), d2)] := hf
      simp only [List.mem_cons, List.not_mem_nil, or_false] at hf'
      rcases hf' with e | e
      · cases e
        exact ⟨v1, rfl, Dq.same (fun b o e => by obtain ⟨x1, x2⟩ := off_get e; exact ke b o x1 x2) h1⟩
      · cases e
        exact ⟨v', rfl, Dq.same (fun b o e => (new b o e).2) fr⟩
    · have hf' : (f, d) ∈ [(("position" : Str), d1), (("results" : Str), d2)] := hf
      simp only [List.mem_cons, List.not_mem_nil, or_false] at hf'
      cases hdm with
      | cons g1 g =>
        rcases hf' with e | e
        · cases e
          refine ⟨v1, rfl, g1.same fun b o e => ?_⟩
          obtain ⟨x1, x2⟩ := off_get e
          obtain ⟨x3, x4⟩ := off_get x2
          rw [off_ne x1]
          exact ke b o x3 x4
        · cases e
          refine ⟨v', rfl, Dq.same (fun b o e => ?_) fr⟩
          obtain ⟨x1, x2⟩ := new b o e
          rw [off_ne (show b ≠ m from fun z => hm (z ▸ x1))]
          exact x2
theorem ok_Refused (T : ExcK K C (tlOf "RuntimeError") "RuntimeError.__new__") (S : IniK P K mg W0_Refused f cc cda C "RuntimeError" "RuntimeError.__init__") (hno : ∀ x ∈ (["field", "level", "cause"] : List Str), PySem.W.findIn K (.ref C) x = some none)
    (hfd : ∃ (oc : Value) (od : Option Addr) (osl : Array (Option Value)), K.lookup f = some ⟨oc, od, .func fd, osl⟩) (O_kept : Own P w K mg base CX0 7 "kept" ["value"] (sp_kept K 6) fK fdK) : FnOk P w K mg base CX0 8 f fd ["self", "field", "level", "cause"] (sp_init K C ["field", "level", "cause"]) := by
  refine ini_ok (N := ["self", "field", "level", "cause", "__class__"]) exb_R T S rfl sc_Refused rfl (fun vs H Q E h => ?_) (fun vs H Q E h => ?_) (fun L => ⟨_, rfl⟩) (fun A outer s H vs Q E hr h => ?_) hfd
  · obtain ⟨a, xs, ds, rfl, hl, _⟩ := h
    show xs.length + 1 = 4
    rw [hl]
    rfl
  · obtain ⟨a, xs, ds, rfl, _, ha, _⟩ := h
    exact ⟨a, rfl, ha⟩
  · obtain ⟨a, xs, ds, rfl, hl, ha, hd, hx, q⟩ := h
    obtain ⟨v1, v2, v3, d1, d2, d3, rfl, rfl, h1, h2, h3⟩ : ∃ v1 v2 v3 d1 d2 d3, xs = [v1, v2, v3] ∧ ds = [d1, d2, d3] ∧ Dq K (off H a) v1 d1 ∧ Dq K (off H a) v2 d2 ∧ Dq K (off H a) v3 d3 := by
      match xs, hl, hd with
      | [v1, v2, v3], _, .cons h1 (.cons h2 (.cons h3 .nil)) => exact ⟨v1, v2, v3, _, _, _, rfl, rfl, h1, h2, h3⟩
    have hxd := hx d3 (by simp)
    refine ⟨_, pss_cons (ps_ostB exb_R (pv 0) (pv 1)) (pss_cons (ps_ostM exb_R (pv 0) (pv 2)) (pss_one (ps_ostM exb_R (pv 0) (pe_own O_kept hr (pa_cons (pv 3) pa_nil))))), ?_⟩
    refine ⟨v1, rfl, .ref a, rfl, a, C, rfl, T, hno _ (by simp), ha, fun dx nd ne => ?_⟩
    refine ⟨v2, rfl, .ref a, rfl, a, C, dx, _, rfl, T, hno _ (by simp), upd_same, by rw [upd_ne ne, upd_same], by show 1 ≤ 900; decide, ?_⟩
    have k1 : ∀ b o, b ≠ a → H b = some o → (upd (upd (upd H dx (exd dx [("field", v1)])) a (exo a C (some dx))) dx (exd dx [("level", v2), ("field", v1)])) b = some o := fun b o n e => by
      have nb : b ≠ dx := ne_of_none e nd
      rw [upd_ne nb, upd_ne n, upd_ne nb]
      exact e
    have e1 : (upd (upd (upd H dx (exd dx [("field", v1)])) a (exo a C (some dx))) dx (exd dx [("level", v2), ("field", v1)])) a = some (exo a C (some dx)) := by rw [upd_ne (Ne.symm ne), upd_same]
    have e2 : (upd (upd (upd H dx (exd dx [("field", v1)])) a (exo a C (some dx))) dx (exd dx [("level", v2), ("field", v1)])) dx = some (exd dx [("level", v2), ("field", v1)]) := upd_same
    have fr1 : ∀ b, (upd (upd (upd H dx (exd dx [("field", v1)])) a (exo a C (some dx))) dx (exd dx [("level", v2), ("field", v1)])) b = none → H b = none := fun b e => by
      have n1 : b ≠ a := fun z => by rw [z, e1] at e; cases e
      have n2 : b ≠ dx := fun z => by rw [z, e2] at e; cases e
      rw [upd_ne n2, upd_ne n1, upd_ne n2] at e
      exact e
    refine ⟨v3, rfl, v3, d3, rfl, Dq.same (fun b o e => by obtain ⟨x1, x2⟩ := off_get e; exact k1 b o x1 x2) h3, hxd.dp, hxd.sl, fun v' H' s' fr => ?_⟩
    refine ⟨.ref a, rfl, a, C, dx, _, rfl, T, hno _ (by simp), s' _ _ e1, s' _ _ e2, by show 2 ≤ 900; decide, ?_⟩
    have ke : ∀ b o, b ≠ a → H b = some o → (upd H' dx (exd dx [("cause", v'), ("level", v2), ("field", v1)])) b = some o := fun b o n e => by
      rw [upd_ne (ne_of_none e nd)]
      exact s' _ _ (k1 b o n e)
    have new : ∀ b o, nw (upd (upd (upd H dx (exd dx [("field", v1)])) a (exo a C (some dx))) dx (exd dx [("level", v2), ("field", v1)])) H' b = some o → H b = none ∧ (upd H' dx (exd dx [("cause", v'), ("level", v2), ("field", v1)])) b = some o := fun b o e => by
      obtain ⟨x1, x2⟩ := nw_get e
      have n2 : b ≠ dx := fun z => by rw [z, e2] at x1; cases x1
      exact ⟨fr1 b x1, by rw [upd_ne n2]; exact x2⟩
    refine end_any (dx := dx) (fs := [("cause", v'), ("level", v2), ("field", v1)]) ke (by rw [upd_ne (Ne.symm ne)]; exact s' _ _ e1) upd_same nd (fun f d hf => ?_) (fun m hm na hdm f d hf => ?_) q
    · have hf' : (f, d) ∈ [(("field" : Str), d1), (("level" : Str), d2), (("cause" : Str), d3)] := hf
      simp only [List.mem_cons, List.not_mem_nil, or_false] at hf'
      have sm : Same (off H a) (upd H' dx (exd dx [("cause", v'), ("level", v2), ("field", v1)])) := fun b o e => by obtain ⟨x1, x2⟩ := off_get e; exact ke b o x1 x2
      rcases hf' with e | e | e
      · cases e
        exact ⟨v1, rfl, h1.same sm⟩
      · cases e
        exact ⟨v2, rfl, h2.same sm⟩
      · cases e
        exact ⟨v', rfl, Dq.same (fun b o e => (new b o e).2) fr⟩
    · have hf' : (f, d) ∈ [(("field" : Str), d1), (("level" : Str), d2), (("cause" : Str), d3)] := hf
      simp only [List.mem_cons, List.not_mem_nil, or_false] at hf'
      have sm : Same (off (off H a) m) (off (upd H' dx (exd dx [("cause", v'), ("level", v2), ("field", v1)])) m) := fun b o e => by
        obtain ⟨x1, x2⟩ := off_get e
        obtain ⟨x3, x4⟩ := off_get x2
        rw [off_ne x1]
        exact ke b o x3 x4
      cases hdm with
      | cons g1 g =>
        cases g with
        | cons g2 _ =>
          rcases hf' with e | e | e
          · cases e
            exact ⟨v1, rfl, g1.same sm⟩
          · cases e
            exact ⟨v2, rfl, g2.same sm⟩
          · cases e
            refine ⟨v', rfl, Dq.same (fun b o e => ?_) fr⟩
            obtain ⟨x1, x2⟩ := new b o e
            rw [off_ne (show b ≠ m from fun z => hm (z ▸ x1))]
            exact x2

end
end K18

set_option Elab.async false
set_option linter.all false
set_option maxRecDepth 100000
set_option maxHeartbeats 4000000
namespace K18
open PySem PySem.Spec PyProof.Rows L2 Lw
def grp (i : Nat) : Nat := if i < 15 then 0 else if i < 18 then 1 else if i < 25 then 2 else if i < 27 then 3 else i - 27
def bt : Nat → String
  | 0 => "ValueError"
  | 1 => "LookupError"
  | 2 => "RuntimeError"
  | _ => "ArithmeticError"
/-- what the classes are to each other: the 27 errors, then the four bases -/
structure Tk (K : PySem.W.Frag) (cs : Nat → Addr) : Prop where
  kf : ∀ i j, i < 31 → j < 27 → PySem.W.kitOne K (.ref (cs i)) (.ref (cs j)) = some (decide (i = j))
  kb : ∀ i g, i < 31 → g < 4 → PySem.W.kitOne K (.ref (cs i)) (.ref (cs (27 + g))) = some (decide (grp i = g))
  kt : ∀ i g, i < 31 → g < 4 → PySem.W.kitOne K (.ref (cs i)) (.type (bt g)) = some (decide (grp i = g))
  kn : ∀ i, i < 31 → PySem.W.kitAny K (.ref (cs i)) [.type "KeyError", .type "IndexError"] = some false
  ec : ∀ i, i < 31 → ExcC K (cs i)
  xf : ∀ i, i < 31 → XfC K (cs i)
section
variable {P : Program} {w : World} {K : PySem.W.Frag} {mg : Str → Option Value} {base : Heap} {f : Addr} {fd : FuncData} {cs : Nat → Addr}
/-- found = found + [isinstance(e, ..), isinstance(e, ..), isinstance(e, ..)] -/
theorem s_isi3 {u : TS} {D : Ends} {σ : L2.St} {H : Hp} {v : V} {E t : Addr} {xs : List V} {c0 c1 c2 : V} {w0 w1 w2 : Value} {b0 b1 b2 : Bool} (h0 : σ[0]? = some (some v)) (h1 : σ[1]? = some (some (.ref t))) (hv : IsE H v E) (T : ExcC K E) (ht : H t = some (.lst xs)) (hl : xs.length ≤ 900)
    (v0 : ClsV c0 w0) (v1 : ClsV c1 w1) (v2 : ClsV c2 w2) (k0 : PySem.W.kitOne K (.ref E) w0 = some b0) (k1 : PySem.W.kitOne K (.ref E) w1 = some b1) (k2 : PySem.W.kitOne K (.ref E) w2 = some b2)
    (k : ∀ p H', Same H H' → H' p = some (.lst (xs ++ [.bl b0, .bl b1, .bl b2])) → u D (σ.set 1 (some (.ref p))) H') :
    tSeq (tAsg (tOp rCat (tVar 1) (tLst (tCons (tCB (rIsE K) (tCons (tVar 0) (tCons (tC c0) tNil))) (tCons (tCB (rIsE K) (tCons (tVar 0) (tCons (tC c1) tNil))) (tCons (tCB (rIsE K) (tCons (tVar 0) (tCons (tC c2) tNil))) tNil))))) (gName 1)) u D σ H := by
  refine ⟨.ref t, h1, v, h0, v, E, c0, w0, b0, rfl, hv, T, v0, k0, v, h0, v, E, c1, w1, b1, rfl, hv, T, v1, k1, v, h0, v, E, c2, w2, b2, rfl, hv, T, v2, k2, by show 3 ≤ sizeLine; decide, fun p np => ?_⟩
  refine ⟨t, p, xs, _, rfl, rfl, ?_, upd_same, ?_, fun p2 np2 => k p2 _ ((same_upd np).trans (same_upd np2)) upd_same⟩
  · rw [upd_ne (ne_of_none ht np)]
    exact ht
  · show xs.length + 3 ≤ sizeLine
    exact Nat.le_of_lt (small1000 (by omega))
def flagV (i n : Nat) : List V := (List.range n).map fun j => .bl (decide (i = j))
theorem flag_more (i n : Nat) : flagV i n ++ [.bl (decide (i = n)), .bl (decide (i = n + 1)), .bl (decide (i = n + 2))] = flagV i (n + 3) := by
  unfold flagV
  rw [List.range_succ, List.range_succ, List.range_succ]
  simp
def flagsL (i n : Nat) : List V := if i < n then [.int (i : Int)] else []
def sp_flags (cs : Nat → Addr) : Sp := fun vs H Q _ => ∃ (v : V) (i : Nat), vs = [v] ∧ i < 31 ∧ IsE H v (cs i) ∧ ∀ p H', Same H H' → H' p = some (.lst (flagsL i 27)) → Q (.ref p) H'
theorem ok_flags (F : FnP K "_law_flags" s_flags f fd) (T : Tm mg cs) (TK : Tk K cs) : FnOk P w K mg base CX0 1 f fd ["_law_e"] (sp_flags cs) := by
  refine F.ok sc_flags (fun vs H Q E h => ?_) (fun cdv A outer s H vs Q E hr h => ?_)
  · obtain ⟨v, i, rfl, _⟩ := h
    rfl
  · obtain ⟨v, i, rfl, hi, hv, q⟩ := h
    have X := TK.ec i hi
    have k := fun j hj => TK.kf i j hi hj
    refine ⟨_, PSs.nox (pss_cons (ps_set (i := 1) sc_flags.nd rfl (Or.inl rfl) (pe_lst (pa_cons (pe_callB call_isE (by rfl) T.z_isinstance (by decide +kernel) (pa_cons (pv 0) (pa_cons (pe_cls T.m_InvalidName) pa_nil))) (pa_cons (pe_callB call_isE (by rfl) T.z_isinstance (by decide +kernel) (pa_cons (pv 0) (pa_cons (pe_cls T.m_InvalidNumber) pa_nil))) (pa_cons (pe_callB call_isE (by rfl) T.z_isinstance (by decide +kernel) (pa_cons (pv 0) (pa_cons (pe_cls T.m_InvalidLevel) pa_nil))) pa_nil)))))
      (pss_cons (ps_set (i := 1) sc_flags.nd rfl (Or.inl rfl) (pe_op op_cat (pv 1) (pe_lst (pa_cons (pe_callB call_isE (by rfl) T.z_isinstance (by decide +kernel) (pa_cons (pv 0) (pa_cons (pe_cls T.m_InvalidClock) pa_nil))) (pa_cons (pe_callB call_isE (by rfl) T.z_isinstance (by decide +kernel) (pa_cons (pv 0) (pa_cons (pe_cls T.m_InvalidCount) pa_nil))) (pa_cons (pe_callB call_isE (by rfl) T.z_isinstance (by decide +kernel) (pa_cons (pv 0) (pa_cons (pe_cls T.m_InvalidFields) pa_nil))) pa_nil))))))
      (pss_cons (ps_set (i := 1) sc_flags.nd rfl (Or.inl rfl) (pe_op op_cat (pv 1) (pe_lst (pa_cons (pe_callB call_isE (by rfl) T.z_isinstance (by decide +kernel) (pa_cons (pv 0) (pa_cons (pe_cls T.m_InvalidEquation) pa_nil))) (pa_cons (pe_callB call_isE (by rfl) T.z_isinstance (by decide +kernel) (pa_cons (pv 0) (pa_cons (pe_cls T.m_InvalidEquations) pa_nil))) (pa_cons (pe_callB call_isE (by rfl) T.z_isinstance (by decide +kernel) (pa_cons (pv 0) (pa_cons (pe_cls T.m_InvalidSetting) pa_nil))) pa_nil))))))
      (pss_cons (ps_set (i := 1) sc_flags.nd rfl (Or.inl rfl) (pe_op op_cat (pv 1) (pe_lst (pa_cons (pe_callB call_isE (by rfl) T.z_isinstance (by decide +kernel) (pa_cons (pv 0) (pa_cons (pe_cls T.m_InvalidSettings) pa_nil))) (pa_cons (pe_callB call_isE (by rfl) T.z_isinstance (by decide +kernel) (pa_cons (pv 0) (pa_cons (pe_cls T.m_InvalidPairs) pa_nil))) (pa_cons (pe_callB call_isE (by rfl) T.z_isinstance (by decide +kernel) (pa_cons (pv 0) (pa_cons (pe_cls T.m_InvalidWishes) pa_nil))) pa_nil))))))
      (pss_cons (ps_set (i := 1) sc_flags.nd rfl (Or.inl rfl) (pe_op op_cat (pv 1) (pe_lst (pa_cons (pe_callB call_isE (by rfl) T.z_isinstance (by decide +kernel) (pa_cons (pv 0) (pa_cons (pe_cls T.m_InvalidNames) pa_nil))) (pa_cons (pe_callB call_isE (by rfl) T.z_isinstance (by decide +kernel) (pa_cons (pv 0) (pa_cons (pe_cls T.m_InvalidText) pa_nil))) (pa_cons (pe_callB call_isE (by rfl) T.z_isinstance (by decide +kernel) (pa_cons (pv 0) (pa_cons (pe_cls T.m_InvalidCommand) pa_nil))) pa_nil))))))
      (pss_cons (ps_set (i := 1) sc_flags.nd rfl (Or.inl rfl) (pe_op op_cat (pv 1) (pe_lst (pa_cons (pe_callB call_isE (by rfl) T.z_isinstance (by decide +kernel) (pa_cons (pv 0) (pa_cons (pe_cls T.m_UnknownField) pa_nil))) (pa_cons (pe_callB call_isE (by rfl) T.z_isinstance (by decide +kernel) (pa_cons (pv 0) (pa_cons (pe_cls T.m_UnknownReplica) pa_nil))) (pa_cons (pe_callB call_isE (by rfl) T.z_isinstance (by decide +kernel) (pa_cons (pv 0) (pa_cons (pe_cls T.m_UnknownMessage) pa_nil))) pa_nil))))))
      (pss_cons (ps_set (i := 1) sc_flags.nd rfl (Or.inl rfl) (pe_op op_cat (pv 1) (pe_lst (pa_cons (pe_callB call_isE (by rfl) T.z_isinstance (by decide +kernel) (pa_cons (pv 0) (pa_cons (pe_cls T.m_NotFree) pa_nil))) (pa_cons (pe_callB call_isE (by rfl) T.z_isinstance (by decide +kernel) (pa_cons (pv 0) (pa_cons (pe_cls T.m_NotDetermined) pa_nil))) (pa_cons (pe_callB call_isE (by rfl) T.z_isinstance (by decide +kernel) (pa_cons (pv 0) (pa_cons (pe_cls T.m_OtherSheet) pa_nil))) pa_nil))))))
      (pss_cons (ps_set (i := 1) sc_flags.nd rfl (Or.inl rfl) (pe_op op_cat (pv 1) (pe_lst (pa_cons (pe_callB call_isE (by rfl) T.z_isinstance (by decide +kernel) (pa_cons (pv 0) (pa_cons (pe_cls T.m_Refused) pa_nil))) (pa_cons (pe_callB call_isE (by rfl) T.z_isinstance (by decide +kernel) (pa_cons (pv 0) (pa_cons (pe_cls T.m_Impossible) pa_nil))) (pa_cons (pe_callB call_isE (by rfl) T.z_isinstance (by decide +kernel) (pa_cons (pv 0) (pa_cons (pe_cls T.m_RunFailed) pa_nil))) pa_nil))))))
      (pss_cons (ps_set (i := 1) sc_flags.nd rfl (Or.inl rfl) (pe_op op_cat (pv 1) (pe_lst (pa_cons (pe_callB call_isE (by rfl) T.z_isinstance (by decide +kernel) (pa_cons (pv 0) (pa_cons (pe_cls T.m_NothingToTakeBack) pa_nil))) (pa_cons (pe_callB call_isE (by rfl) T.z_isinstance (by decide +kernel) (pa_cons (pv 0) (pa_cons (pe_cls T.m_TooMany) pa_nil))) (pa_cons (pe_callB call_isE (by rfl) T.z_isinstance (by decide +kernel) (pa_cons (pv 0) (pa_cons (pe_cls T.m_NoQuotient) pa_nil))) pa_nil))))))
      (pss_one (ps_ret (pe_lc (own := [("_law_place", 3), ("_law_flag", 2)]) (g := gTup K 2 (gCons (gName 3) (gCons (gName 2) gNil))) rfl sc_flags.nd (pi_enum (by rfl) T.z_enumerate (pa_cons (pv 1) pa_nil)) (blkOk_by (own := [("_law_place", 3), ("_law_flag", 2)]) (N := N_flags) (sc := defScope s_flags) (by decide +kernel)) (fun _ _ _ _ _ => (pg_tup rfl (pgs_cons (pg_name (i := 3) sc_flags.nd rfl (Or.inl rfl)) (pgs_cons (pg_name (i := 2) sc_flags.nd rfl (Or.inl rfl)) pgs_nil)))) (fun _ _ _ _ _ => pts_one (pt_val (pv 2))) (fun _ _ _ _ _ => (pv 3)))))))))))))), ?_⟩
    refine ⟨v, rfl, v, cs i, .ref (cs 0), _, _, rfl, hv, X, .own _, k 0 (by decide), v, rfl, v, cs i, .ref (cs 1), _, _, rfl, hv, X, .own _, k 1 (by decide), v, rfl, v, cs i, .ref (cs 2), _, _, rfl, hv, X, .own _, k 2 (by decide), by show 3 ≤ sizeLine; decide, fun p0 np0 => ?_⟩
    have s0 : Same H (upd H p0 (.lst (flagV i 3))) := same_upd np0
    have e0 : (upd H p0 (.lst (flagV i 3))) p0 = some (.lst (flagV i 3)) := upd_same
    change tSeq _ _ _ [some v, some (.ref p0), none, none] (upd H p0 (.lst (flagV i 3)))
    revert s0 e0
    generalize upd H p0 (.lst (flagV i 3)) = H0
    intro s0 e0
    refine s_isi3 (t := p0) rfl rfl (hv.same s0) X e0 (by simp [flagV]) (.own _) (.own _) (.own _) (k 3 (by decide)) (k 4 (by decide)) (k 5 (by decide)) fun p1 H1 t1 e1 => ?_
    rw [flag_more] at e1
    have s1 := s0.trans t1
    refine s_isi3 (t := p1) rfl rfl (hv.same s1) X e1 (by simp [flagV]) (.own _) (.own _) (.own _) (k 6 (by decide)) (k 7 (by decide)) (k 8 (by decide)) fun p2 H2 t2 e2 => ?_
    rw [flag_more] at e2
    have s2 := s1.trans t2
    refine s_isi3 (t := p2) rfl rfl (hv.same s2) X e2 (by simp [flagV]) (.own _) (.own _) (.own _) (k 9 (by decide)) (k 10 (by decide)) (k 11 (by decide)) fun p3 H3 t3 e3 => ?_
    rw [flag_more] at e3
    have s3 := s2.trans t3
    refine s_isi3 (t := p3) rfl rfl (hv.same s3) X e3 (by simp [flagV]) (.own _) (.own _) (.own _) (k 12 (by decide)) (k 13 (by decide)) (k 14 (by decide)) fun p4 H4 t4 e4 => ?_
    rw [flag_more] at e4
    have s4 := s3.trans t4
    refine s_isi3 (t := p4) rfl rfl (hv.same s4) X e4 (by simp [flagV]) (.own _) (.own _) (.own _) (k 15 (by decide)) (k 16 (by decide)) (k 17 (by decide)) fun p5 H5 t5 e5 => ?_
    rw [flag_more] at e5
    have s5 := s4.trans t5
    refine s_isi3 (t := p5) rfl rfl (hv.same s5) X e5 (by simp [flagV]) (.own _) (.own _) (.own _) (k 18 (by decide)) (k 19 (by decide)) (k 20 (by decide)) fun p6 H6 t6 e6 => ?_
    rw [flag_more] at e6
    have s6 := s5.trans t6
    refine s_isi3 (t := p6) rfl rfl (hv.same s6) X e6 (by simp [flagV]) (.own _) (.own _) (.own _) (k 21 (by decide)) (k 22 (by decide)) (k 23 (by decide)) fun p7 H7 t7 e7 => ?_
    rw [flag_more] at e7
    have s7 := s6.trans t7
    refine s_isi3 (t := p7) rfl rfl (hv.same s7) X e7 (by simp [flagV]) (.own _) (.own _) (.own _) (k 24 (by decide)) (k 25 (by decide)) (k 26 (by decide)) fun p8 H8 t8 e8 => ?_
    rw [flag_more] at e8
    have s8 := s7.trans t8
    refine ⟨.ref p8, rfl, p8, _, rfl, .inl (.inl e8), fun D nD => ?_⟩
    refine lc_it (walk_enum (xs := flagV i 27)) (fun j G => Same H8 G ∧ G D = some (.lst (flagsL i j))) ⟨same_upd nD, upd_same⟩ (fun j G _ h => h.1.seq (.inl (.inl e8))) ?_ ?_
    · rintro j x G G' hj ⟨sG, eG⟩ hy
      obtain ⟨tt, x1, x2, rfl, nt, rfl, hx1, hx2⟩ := hy
      cases hx1
      have hj2 : j < 27 := by simpa [flagV] using hj
      have hx3 : x2 = .bl (decide (i = j)) := by
        have hx4 : (flagV i 27)[j]? = some x2 := hx2
        rw [show flagV i 27 = (List.range 27).map fun j => V.bl (decide (i = j)) from rfl, List.getElem?_map, List.getElem?_range hj2] at hx4
        exact (Option.some.inj hx4).symm
      subst hx3
      have nG : ∀ o, Same G (upd G tt o) := fun o => same_upd nt
      refine ⟨tt, _, rfl, .inl (.inl upd_same), rfl, _, _, rfl, _, _, rfl, rfl, rfl, _, rfl, _, rfl, ?_⟩
      by_cases hij : i = j
      · rw [decide_eq_true hij]
        subst hij
        refine iteT ⟨_, rfl, flagsL i i, nG _ _ _ eG, ?_, fun b o e => ?_, ?_⟩
        · unfold flagsL
          rw [if_neg (Nat.lt_irrefl i)]
          decide
        · rw [upd_ne (ne_of_none e nD)]
          exact nG _ _ _ (sG _ _ e)
        · rw [upd_same]
          unfold flagsL
          rw [if_neg (Nat.lt_irrefl i), if_pos (Nat.lt_succ_self i)]
          rfl
      · rw [decide_eq_false hij]
        refine iteF ⟨sG.trans (nG _), ?_⟩
        have e : flagsL i (j + 1) = flagsL i j := by
          unfold flagsL
          by_cases h : i < j
          · rw [if_pos h, if_pos (by omega)]
          · rw [if_neg h, if_neg (by omega)]
        rw [e]
        exact nG _ _ _ eG
    · rintro G ⟨sG, eG⟩
      exact q D G (s8.trans sG) eG
/-! ### bases -/
def basesV (g : Nat) : List V := [.bl (decide (g = 0)), .bl (decide (g = 0)), .bl (decide (g = 1)), .bl (decide (g = 1)), .bl (decide (g = 2)), .bl (decide (g = 2)), .bl (decide (g = 3)), .bl (decide (g = 3)), .bl false]
def sp_bases (cs : Nat → Addr) : Sp := fun vs H Q _ => ∃ (v : V) (i : Nat), vs = [v] ∧ i < 31 ∧ IsE H v (cs i) ∧ ∀ p H', Same H H' → H' p = some (.lst (basesV (grp i))) → Q (.ref p) H'
theorem ok_bases (F : FnP K "_law_bases" s_bases f fd) (T : Tm mg cs) (TK : Tk K cs) : FnOk P w K mg base CX0 1 f fd ["_law_e"] (sp_bases cs) := by
  refine F.ok sc_bases (fun vs H Q E h => ?_) (fun cdv A outer s H vs Q E hr h => ?_)
  · obtain ⟨v, i, rfl, _⟩ := h
    rfl
  · obtain ⟨v, i, rfl, hi, hv, q⟩ := h
    have X := TK.ec i hi
    have kb := fun g hg => TK.kb i g hi hg
    have kt := fun g hg => TK.kt i g hi hg
    have kn := TK.kn i hi
    refine ⟨_, PSs.nox (pss_cons (ps_set (i := 1) sc_bases.nd rfl (Or.inl rfl) (pe_lst (pa_cons (pe_callB call_isE (by rfl) T.z_isinstance (by decide +kernel) (pa_cons (pv 0) (pa_cons (pe_cls T.m_LastheldError) pa_nil))) (pa_cons (pe_callB call_isE (by rfl) T.z_isinstance (by decide +kernel) (pa_cons (pv 0) (pa_cons (pe_bltn (v := .ty "ValueError") (by rfl) T.z_ValueError (by decide +kernel) rfl) pa_nil))) (pa_cons (pe_callB call_isE (by rfl) T.z_isinstance (by decide +kernel) (pa_cons (pv 0) (pa_cons (pe_cls T.m_MissingError) pa_nil))) pa_nil)))))
      (pss_cons (ps_set (i := 1) sc_bases.nd rfl (Or.inl rfl) (pe_op op_cat (pv 1) (pe_lst (pa_cons (pe_callB call_isE (by rfl) T.z_isinstance (by decide +kernel) (pa_cons (pv 0) (pa_cons (pe_bltn (v := .ty "LookupError") (by rfl) T.z_LookupError (by decide +kernel) rfl) pa_nil))) (pa_cons (pe_callB call_isE (by rfl) T.z_isinstance (by decide +kernel) (pa_cons (pv 0) (pa_cons (pe_cls T.m_StateError) pa_nil))) (pa_cons (pe_callB call_isE (by rfl) T.z_isinstance (by decide +kernel) (pa_cons (pv 0) (pa_cons (pe_bltn (v := .ty "RuntimeError") (by rfl) T.z_RuntimeError (by decide +kernel) rfl) pa_nil))) pa_nil))))))
      (pss_one (ps_ret (pe_op op_cat (pv 1) (pe_lst (pa_cons (pe_callB call_isE (by rfl) T.z_isinstance (by decide +kernel) (pa_cons (pv 0) (pa_cons (pe_cls T.m_LimitError) pa_nil))) (pa_cons (pe_callB call_isE (by rfl) T.z_isinstance (by decide +kernel) (pa_cons (pv 0) (pa_cons (pe_bltn (v := .ty "ArithmeticError") (by rfl) T.z_ArithmeticError (by decide +kernel) rfl) pa_nil))) (pa_cons (pe_callB call_isET (by rfl) T.z_isinstance (by decide +kernel) (pa_cons (pv 0) (pa_cons (pe_tup (pa_cons (pe_bltn (v := .ty "KeyError") (by rfl) T.z_KeyError (by decide +kernel) rfl) (pa_cons (pe_bltn (v := .ty "IndexError") (by rfl) T.z_IndexError (by decide +kernel) rfl) pa_nil))) pa_nil))) pa_nil))))))))), ?_⟩
    refine ⟨v, rfl, v, cs i, .ref (cs 27), _, _, rfl, hv, X, .own _, kb 0 (by decide), v, rfl, v, cs i, .ty "ValueError", _, _, rfl, hv, X, .ty _, kt 0 (by decide), v, rfl, v, cs i, .ref (cs 28), _, _, rfl, hv, X, .own _, kb 1 (by decide), by show 3 ≤ sizeLine; decide, fun p0 np0 => ?_⟩
    have s0 : Same H (upd H p0 (.lst [.bl (decide (grp i = 0)), .bl (decide (grp i = 0)), .bl (decide (grp i = 1))])) := same_upd np0
    have e0 : (upd H p0 (.lst [.bl (decide (grp i = 0)), .bl (decide (grp i = 0)), .bl (decide (grp i = 1))])) p0 = some (.lst [.bl (decide (grp i = 0)), .bl (decide (grp i = 0)), .bl (decide (grp i = 1))]) := upd_same
    change tSeq _ _ _ [some v, some (.ref p0)] (upd H p0 (.lst [.bl (decide (grp i = 0)), .bl (decide (grp i = 0)), .bl (decide (grp i = 1))]))
    revert s0 e0
    generalize upd H p0 (.lst [.bl (decide (grp i = 0)), .bl (decide (grp i = 0)), .bl (decide (grp i = 1))]) = H0
    intro s0 e0
    refine s_isi3 (t := p0) rfl rfl (hv.same s0) X e0 (by show 3 ≤ 900; decide) (.ty _) (.own _) (.ty _) (kt 1 (by decide)) (kb 2 (by decide)) (kt 2 (by decide)) fun p1 H1 t1 e1 => ?_
    have s1 := s0.trans t1
    have hv1 := hv.same s1
    refine ⟨.ref p1, rfl, v, rfl, v, cs i, .ref (cs 30), _, _, rfl, hv1, X, .own _, kb 3 (by decide), v, rfl, v, cs i, .ty "ArithmeticError", _, _, rfl, hv1, X, .ty _, kt 3 (by decide), v, rfl, by show 2 ≤ sizeLine; decide, fun tp ntp => ?_⟩
    refine ⟨v, cs i, tp, _, _, false, rfl, hv1.same (same_upd ntp), X, upd_same, .cons (.ty _) (.cons (.ty _) .nil), kn, by show 3 ≤ sizeLine; decide, fun p2 np2 => ?_⟩
    have e1' : (upd H1 tp (.tup [.ty "KeyError", .ty "IndexError"])) p1 = some (.lst ([.bl (decide (grp i = 0)), .bl (decide (grp i = 0)), .bl (decide (grp i = 1))] ++ [.bl (decide (grp i = 1)), .bl (decide (grp i = 2)), .bl (decide (grp i = 2))])) := by
      rw [upd_ne (ne_of_none e1 ntp)]
      exact e1
    refine ⟨p1, p2, [.bl (decide (grp i = 0)), .bl (decide (grp i = 0)), .bl (decide (grp i = 1))] ++ [.bl (decide (grp i = 1)), .bl (decide (grp i = 2)), .bl (decide (grp i = 2))], _, rfl, rfl, ?_, upd_same, by show 6 + 3 ≤ sizeLine; decide, fun p3 np3 => ?_⟩
    · rw [upd_ne (ne_of_none e1' np2)]
      exact e1'
    · exact q p3 _ (((s1.trans (same_upd ntp)).trans (same_upd np2)).trans (same_upd np3)) upd_same
/-! ### is -/
theorem grp_lt {i : Nat} (h : i < 31) : grp i = 0 ∨ grp i = 1 ∨ grp i = 2 ∨ grp i = 3 := by
  unfold grp
  split
  · simp
  · split
    · simp
    · split
      · simp
      · split
        · simp
        · omega
def dueV (g : Nat) : List V := ((List.replicate 9 (V.bl false)).set (2 * g) (.bl true)).set (2 * g + 1) (.bl true)
theorem due_bases {g : Nat} (h : g = 0 ∨ g = 1 ∨ g = 2 ∨ g = 3) : dueV g = basesV g := by
  rcases h with rfl | rfl | rfl | rfl <;> decide
def boolD : List V → List PyData := fun l => l.map fun v => match v with
  | .bl b => .bool b
  | _ => .none
theorem dp_bases {H : Hp} {g : Nat} {p : Addr} (h : H p = some (.lst (basesV g))) : Dp K H (.ref p) (.list (boolD (basesV g))) :=
  .lst (.inl (.inl h)) (.cons (.bl _) (.cons (.bl _) (.cons (.bl _) (.cons (.bl _) (.cons (.bl _) (.cons (.bl _) (.cons (.bl _) (.cons (.bl _) (.cons (.bl _) .nil)))))))))
theorem eqv_bases {g : Nat} (h : g = 0 ∨ g = 1 ∨ g = 2 ∨ g = 3) : PyData.eqv (.list (boolD (basesV g))) (.list (boolD (basesV g))) = true ∧ SeqAt.shaped (.list (boolD (basesV g))) = true := by
  rcases h with rfl | rfl | rfl | rfl <;> decide +kernel
/-- due = [False] * 9, two of them True, g in the slot j -/
theorem s_due {u : TS} {D : Ends} {σ : L2.St} {H : Hp} {i j g : Nat} (hg : g = 0 ∨ g = 1 ∨ g = 2 ∨ g = 3) (hj : σ[j]? = some (some (.int (g : Int)))) (hij : i ≠ j) (hi : i < σ.length)
    (k : ∀ p H', Same H H' → H' p = some (.lst (basesV g)) → u D (σ.set i (some (.ref p))) H') :
    tSeq (tAsg (tOp rRep (tLst (tCons (tC (.bl false)) tNil)) (tC (.int 9))) (gName i)) (tSeq (tAsg (tC (.bl true)) (gSub (tVar i) (tOp (rI CMul fun i j => .int (i * j)) (tC (.int 2)) (tVar j)) rSetL))
      (tSeq (tAsg (tC (.bl true)) (gSub (tVar i) (tOp (rI0 fun i j => .int (i + j)) (tOp (rI CMul fun i j => .int (i * j)) (tC (.int 2)) (tVar j)) (tC (.int 1))) rSetL)) u)) D σ H := by
  have g4 : g < 4 := by omega
  refine ⟨by show 1 ≤ sizeLine; decide, fun p np => ⟨p, 9, [.bl false], rfl, rfl, upd_same, by decide, by decide, by show 1 * 9 ≤ sizeLine; decide, fun p2 np2 => ?_⟩⟩
  have si : ∀ y : V, (σ.set i (some y))[i]? = some (some y) := fun y => List.getElem?_set_self hi
  have sj : ∀ y : V, (σ.set i (some y))[j]? = some (some (.int (g : Int))) := fun y => by rw [List.getElem?_set_ne hij]; exact hj
  have h0 : H p2 = none := (same_upd np).free np2
  refine ⟨.ref p2, si _, .int g, sj _, 2, g, rfl, rfl, .inl ⟨by decide, by decide⟩, p2, List.replicate 9 (.bl false), 2 * g, 2 * g, rfl, rfl, upd_same, ?_, ?_⟩
  · show ixN 9 (2 * (g : Int)) = some (2 * g)
    unfold ixN
    rw [if_pos (by omega), if_pos (by omega)]
    congr 1
  refine ⟨.ref p2, si _, .int g, sj _, 2, g, rfl, rfl, .inl ⟨by decide, by decide⟩, _, _, rfl, rfl, p2, (List.replicate 9 (.bl false)).set (2 * g) (.bl true), 2 * g + 1, 2 * g + 1, rfl, rfl, upd_same, ?_, ?_⟩
  · rw [List.length_set]
    show ixN 9 (2 * (g : Int) + 1) = some (2 * g + 1)
    unfold ixN
    rw [if_pos (by omega), if_pos (by omega)]
    congr 1
  · refine k p2 _ (fun b o e => ?_) ?_
    · have n1 := ne_of_none e np
      have n2 := ne_of_none e h0
      rw [upd_ne n2, upd_ne n2, upd_ne n2, upd_ne n1]
      exact e
    · rw [upd_same]
      congr 2
      exact due_bases hg
/-- an error of the class i -/
def sp_is (cs : Nat → Addr) : Sp := fun vs H Q _ => ∃ (v : V) (i : Nat), vs = [v, .int (i : Int)] ∧ i < 27 ∧ IsE H v (cs i) ∧ ∀ H', Same H H' → Q (.bl true) H'
theorem s_one {te : TE} {i : Nat} {u : TS} {D : Ends} {σ : L2.St} {H : Hp} (v : V) (h : ∀ Q : VK, Q v H → te σ H Q) (k : u D (σ.set i (some v)) H) : tSeq (tAsg te (gName i)) u D σ H := h _ k
theorem ok_is {fF fB : Addr} {fdF fdB : FuncData} (F : FnP K "_law_is" s_is f fd) (T : Tm mg cs) (O_flags : Own P w K mg base CX0 1 "_law_flags" ["_law_e"] (sp_flags cs) fF fdF) (O_bases : Own P w K mg base CX0 1 "_law_bases" ["_law_e"] (sp_bases cs) fB fdB) :
    FnOk P w K mg base CX0 2 f fd ["_law_e", "_law_place"] (sp_is cs) := by
  refine F.ok sc_is (fun vs H Q E h => ?_) (fun cdv A outer s H vs Q E hr h => ?_)
  · obtain ⟨v, i, rfl, _⟩ := h
    rfl
  · obtain ⟨v, i, rfl, hi, hv, q⟩ := h
    have g4 := grp_lt (i := i) (by omega)
    refine ⟨_, PSs.nox (pss_cons (ps_set (i := 2) sc_is.nd rfl (Or.inl rfl) (pe_ifExp (pt_cmpR op_lt (pv 1) pe_int (nomark _)) pe_int (pe_ifExp (pt_cmpR op_lt (pv 1) pe_int (nomark _)) pe_int (pe_ifExp (pt_cmpR op_lt (pv 1) pe_int (nomark _)) pe_int pe_int))))
      (pss_cons (ps_set (i := 3) sc_is.nd rfl (Or.inl rfl) (pe_op op_rep (pe_lst (pa_cons pe_bl pa_nil)) pe_int))
      (pss_cons (ps_asg pe_bl (pg_sub (pv 3) (pe_op op_mul pe_int (pv 2)) set_list))
      (pss_cons (ps_asg pe_bl (pg_sub (pv 3) (pe_op op_add (pe_op op_mul pe_int (pv 2)) pe_int) set_list))
      (pss_one (ps_ret (pe_and (pe_cmpR (op_eqD hr.units) (pe_own O_flags (hr.mono (by first | decide | omega)) (pa_cons (pv 0) pa_nil)) (pe_lst (pa_cons (pv 1) pa_nil)) (nomark _)) (pe_one (pe_cmpR (op_eqD hr.units) (pe_own O_bases (hr.mono (by first | decide | omega)) (pa_cons (pv 0) pa_nil)) (pv 3) (nomark _)))))))))), ?_⟩
    refine s_one (.int (grp i)) (fun Q2 q2 => ?_) ?_
    · unfold grp at q2
      refine ⟨_, rfl, _, _, rfl, rfl, _, rfl, ?_⟩
      by_cases h1 : i < 15
      · rw [if_pos h1] at q2
        rw [decide_eq_true (show (i : Int) < 15 by omega)]
        exact q2
      · rw [if_neg h1] at q2
        rw [decide_eq_false (show ¬ (i : Int) < 15 by omega)]
        refine iteF ⟨_, rfl, _, _, rfl, rfl, _, rfl, ?_⟩
        by_cases h2 : i < 18
        · rw [if_pos h2] at q2
          rw [decide_eq_true (show (i : Int) < 18 by omega)]
          exact q2
        · rw [if_neg h2] at q2
          rw [decide_eq_false (show ¬ (i : Int) < 18 by omega)]
          refine iteF ⟨_, rfl, _, _, rfl, rfl, _, rfl, ?_⟩
          by_cases h3 : i < 25
          · rw [if_pos h3] at q2
            rw [decide_eq_true (show (i : Int) < 25 by omega)]
            exact q2
          · rw [if_neg h3, if_pos hi] at q2
            rw [decide_eq_false (show ¬ (i : Int) < 25 by omega)]
            exact q2
    refine s_due (i := 3) (j := 2) (g := grp i) g4 rfl (by decide) (by show 3 < 4; decide) fun p H1 s1 e1 => ?_
    have hv1 := hv.same s1
    refine ⟨v, rfl, v, i, rfl, by omega, hv1, fun p2 H2 s2 e2 => ?_⟩
    have f1 : flagsL i 27 = [.int (i : Int)] := by
      unfold flagsL
      rw [if_pos hi]
    rw [f1] at e2
    refine ⟨_, rfl, by show 1 ≤ sizeLine; decide, fun l nl => ?_⟩
    have e2' : (upd H2 l (.lst [.int (i : Int)])) p2 = some (.lst [.int (i : Int)]) := by
      rw [upd_ne (ne_of_none e2 nl)]
      exact e2
    refine ⟨.list [.int i], .list [.int i], .lst (.inl (.inl e2')) (.cons (.int _) .nil), .lst (.inl (.inl upd_same)) (.cons (.int _) .nil), rfl, rfl, _, rfl, ?_⟩
    have ev : PyData.eqv (.list [.int (i : Int)]) (.list [.int (i : Int)]) = true := by
      show (((i : Int) == (i : Int)) && true) = true
      rw [beq_self_eq_true]
      rfl
    rw [ev]
    have s3 : Same H1 (upd H2 l (.lst [.int (i : Int)])) := s2.trans (same_upd nl)
    refine iteT ⟨v, rfl, v, i, rfl, by omega, hv1.same s3, fun p4 H4 s4 e4 => ?_⟩
    have e5 := s4 _ _ (s3 _ _ e1)
    refine ⟨_, rfl, .list (boolD (basesV (grp i))), .list (boolD (basesV (grp i))), dp_bases e4, dp_bases e5, (eqv_bases g4).2, (eqv_bases g4).2, ?_⟩
    rw [(eqv_bases g4).1]
    exact q H4 ((s1.trans s3).trans s4)
end
end K18

set_option Elab.async false
set_option linter.all false
set_option maxRecDepth 100000
set_option maxHeartbeats 4000000
namespace K18
open PySem PySem.Spec PyProof.Rows L2 Lw
def rot2 : List V → List V → List V
  | vs, [b, a] => vs ++ [a, b]
  | vs, _ => vs
def rot3 : List V → List V → List V
  | vs, [c, a, b] => vs ++ [a, b, c]
  | vs, _ => vs
/-- the classes with an own `__init__` -/
structure Es (P : Program) (w : World) (K : PySem.W.Frag) (mg : Str → Option Value) (base : Heap) (cs : Nat → Addr) : Prop where
  InvalidName : ∃ (fI : Addr) (fd : FuncData), OwnE P w K mg base 8 "InvalidName" ["self", "value"] (sp_init K (cs 0) ["value"]) (cs 0) fI fd (tlOf "ValueError") "ValueError.__new__" ∧ (∃ g, KBn K fd ["self", "value"] 1 ["value"] g (fun vs zs => vs ++ zs)) ∧ ∀ x ∈ (["value"] : List Str), PySem.W.findIn K (.ref (cs 0)) x = some none
  InvalidNumber : ∃ (fI : Addr) (fd : FuncData), OwnE P w K mg base 8 "InvalidNumber" ["self", "value"] (sp_init K (cs 1) ["value"]) (cs 1) fI fd (tlOf "ValueError") "ValueError.__new__" ∧ (∃ g, KBn K fd ["self", "value"] 1 ["value"] g (fun vs zs => vs ++ zs)) ∧ ∀ x ∈ (["value"] : List Str), PySem.W.findIn K (.ref (cs 1)) x = some none
  InvalidLevel : ∃ (fI : Addr) (fd : FuncData), OwnE P w K mg base 8 "InvalidLevel" ["self", "value"] (sp_init K (cs 2) ["value"]) (cs 2) fI fd (tlOf "ValueError") "ValueError.__new__" ∧ (∃ g, KBn K fd ["self", "value"] 1 ["value"] g (fun vs zs => vs ++ zs)) ∧ ∀ x ∈ (["value"] : List Str), PySem.W.findIn K (.ref (cs 2)) x = some none
  InvalidClock : ∃ (fI : Addr) (fd : FuncData), OwnE P w K mg base 8 "InvalidClock" ["self", "value"] (sp_init K (cs 3) ["value"]) (cs 3) fI fd (tlOf "ValueError") "ValueError.__new__" ∧ (∃ g, KBn K fd ["self", "value"] 1 ["value"] g (fun vs zs => vs ++ zs)) ∧ ∀ x ∈ (["value"] : List Str), PySem.W.findIn K (.ref (cs 3)) x = some none
  InvalidCount : ∃ (fI : Addr) (fd : FuncData), OwnE P w K mg base 8 "InvalidCount" ["self", "value"] (sp_init K (cs 4) ["value"]) (cs 4) fI fd (tlOf "ValueError") "ValueError.__new__" ∧ (∃ g, KBn K fd ["self", "value"] 1 ["value"] g (fun vs zs => vs ++ zs)) ∧ ∀ x ∈ (["value"] : List Str), PySem.W.findIn K (.ref (cs 4)) x = some none
  InvalidFields : ∃ (fI : Addr) (fd : FuncData), OwnE P w K mg base 1 "InvalidFields" ["self", "index"] (sp_init K (cs 5) ["index"]) (cs 5) fI fd (tlOf "ValueError") "ValueError.__new__" ∧ (∃ g, KBn K fd ["self", "index"] 1 ["index"] g (fun vs zs => vs ++ zs)) ∧ ∀ x ∈ (["index"] : List Str), PySem.W.findIn K (.ref (cs 5)) x = some none
  InvalidEquation : ∃ (fI : Addr) (fd : FuncData), OwnE P w K mg base 8 "InvalidEquation" ["self", "value"] (sp_init K (cs 6) ["value"]) (cs 6) fI fd (tlOf "ValueError") "ValueError.__new__" ∧ (∃ g, KBn K fd ["self", "value"] 1 ["value"] g (fun vs zs => vs ++ zs)) ∧ ∀ x ∈ (["value"] : List Str), PySem.W.findIn K (.ref (cs 6)) x = some none
  InvalidEquations : ∃ (fI : Addr) (fd : FuncData), OwnE P w K mg base 1 "InvalidEquations" ["self", "index"] (sp_init K (cs 7) ["index"]) (cs 7) fI fd (tlOf "ValueError") "ValueError.__new__" ∧ (∃ g, KBn K fd ["self", "index"] 1 ["index"] g (fun vs zs => vs ++ zs)) ∧ ∀ x ∈ (["index"] : List Str), PySem.W.findIn K (.ref (cs 7)) x = some none
  InvalidSetting : ∃ (fI : Addr) (fd : FuncData), OwnE P w K mg base 8 "InvalidSetting" ["self", "value"] (sp_init K (cs 8) ["value"]) (cs 8) fI fd (tlOf "ValueError") "ValueError.__new__" ∧ (∃ g, KBn K fd ["self", "value"] 1 ["value"] g (fun vs zs => vs ++ zs)) ∧ ∀ x ∈ (["value"] : List Str), PySem.W.findIn K (.ref (cs 8)) x = some none
  InvalidSettings : ∃ (fI : Addr) (fd : FuncData), OwnE P w K mg base 1 "InvalidSettings" ["self", "index"] (sp_init K (cs 9) ["index"]) (cs 9) fI fd (tlOf "ValueError") "ValueError.__new__" ∧ (∃ g, KBn K fd ["self", "index"] 1 ["index"] g (fun vs zs => vs ++ zs)) ∧ ∀ x ∈ (["index"] : List Str), PySem.W.findIn K (.ref (cs 9)) x = some none
  InvalidPairs : ∃ (fI : Addr) (fd : FuncData), OwnE P w K mg base 1 "InvalidPairs" ["self", "index"] (sp_init K (cs 10) ["index"]) (cs 10) fI fd (tlOf "ValueError") "ValueError.__new__" ∧ (∃ g, KBn K fd ["self", "index"] 1 ["index"] g (fun vs zs => vs ++ zs)) ∧ ∀ x ∈ (["index"] : List Str), PySem.W.findIn K (.ref (cs 10)) x = some none
  InvalidWishes : ∃ (fI : Addr) (fd : FuncData), OwnE P w K mg base 1 "InvalidWishes" ["self", "index"] (sp_init K (cs 11) ["index"]) (cs 11) fI fd (tlOf "ValueError") "ValueError.__new__" ∧ (∃ g, KBn K fd ["self", "index"] 1 ["index"] g (fun vs zs => vs ++ zs)) ∧ ∀ x ∈ (["index"] : List Str), PySem.W.findIn K (.ref (cs 11)) x = some none
  InvalidNames : ∃ (fI : Addr) (fd : FuncData), OwnE P w K mg base 1 "InvalidNames" ["self", "index"] (sp_init K (cs 12) ["index"]) (cs 12) fI fd (tlOf "ValueError") "ValueError.__new__" ∧ (∃ g, KBn K fd ["self", "index"] 1 ["index"] g (fun vs zs => vs ++ zs)) ∧ ∀ x ∈ (["index"] : List Str), PySem.W.findIn K (.ref (cs 12)) x = some none
  InvalidText : ∃ (fI : Addr) (fd : FuncData), OwnE P w K mg base 1 "InvalidText" ["self", "line"] (sp_init K (cs 13) ["line"]) (cs 13) fI fd (tlOf "ValueError") "ValueError.__new__" ∧ (∃ g, KBn K fd ["self", "line"] 1 ["line"] g (fun vs zs => vs ++ zs)) ∧ ∀ x ∈ (["line"] : List Str), PySem.W.findIn K (.ref (cs 13)) x = some none
  InvalidCommand : ∃ (fI : Addr) (fd : FuncData), OwnE P w K mg base 8 "InvalidCommand" ["self", "command"] (sp_init K (cs 14) ["command"]) (cs 14) fI fd (tlOf "ValueError") "ValueError.__new__" ∧ (∃ g, KBn K fd ["self", "command"] 1 ["command"] g (fun vs zs => vs ++ zs)) ∧ ∀ x ∈ (["command"] : List Str), PySem.W.findIn K (.ref (cs 14)) x = some none
  UnknownField : ∃ (fI : Addr) (fd : FuncData), OwnE P w K mg base 8 "UnknownField" ["self", "value"] (sp_init K (cs 15) ["value"]) (cs 15) fI fd (tlOf "LookupError") "LookupError.__new__" ∧ (∃ g, KBn K fd ["self", "value"] 1 ["value"] g (fun vs zs => vs ++ zs)) ∧ ∀ x ∈ (["value"] : List Str), PySem.W.findIn K (.ref (cs 15)) x = some none
  UnknownReplica : ∃ (fI : Addr) (fd : FuncData), OwnE P w K mg base 8 "UnknownReplica" ["self", "value"] (sp_init K (cs 16) ["value"]) (cs 16) fI fd (tlOf "LookupError") "LookupError.__new__" ∧ (∃ g, KBn K fd ["self", "value"] 1 ["value"] g (fun vs zs => vs ++ zs)) ∧ ∀ x ∈ (["value"] : List Str), PySem.W.findIn K (.ref (cs 16)) x = some none
  UnknownMessage : ∃ (fI : Addr) (fd : FuncData), OwnE P w K mg base 8 "UnknownMessage" ["self", "value"] (sp_init K (cs 17) ["value"]) (cs 17) fI fd (tlOf "LookupError") "LookupError.__new__" ∧ (∃ g, KBn K fd ["self", "value"] 1 ["value"] g (fun vs zs => vs ++ zs)) ∧ ∀ x ∈ (["value"] : List Str), PySem.W.findIn K (.ref (cs 17)) x = some none
  NotFree : ∃ (fI : Addr) (fd : FuncData), OwnE P w K mg base 8 "NotFree" ["self", "given"] (sp_init K (cs 18) ["given"]) (cs 18) fI fd (tlOf "RuntimeError") "RuntimeError.__new__" ∧ (∃ g, KBn K fd ["self", "given"] 1 ["given"] g (fun vs zs => vs ++ zs)) ∧ ∀ x ∈ (["given"] : List Str), PySem.W.findIn K (.ref (cs 18)) x = some none
  NotDetermined : ∃ (fI : Addr) (fd : FuncData), OwnE P w K mg base 1 "NotDetermined" ["self", "field"] (sp_init K (cs 19) ["field"]) (cs 19) fI fd (tlOf "RuntimeError") "RuntimeError.__new__" ∧ (∃ g, KBn K fd ["self", "field"] 1 ["field"] g (fun vs zs => vs ++ zs)) ∧ ∀ x ∈ (["field"] : List Str), PySem.W.findIn K (.ref (cs 19)) x = some none
  OtherSheet : ∃ (fI : Addr) (fd : FuncData), OwnE P w K mg base 1 "OtherSheet" ["self", "index"] (sp_init K (cs 20) ["index"]) (cs 20) fI fd (tlOf "RuntimeError") "RuntimeError.__new__" ∧ (∃ g, KBn K fd ["self", "index"] 1 ["index"] g (fun vs zs => vs ++ zs)) ∧ ∀ x ∈ (["index"] : List Str), PySem.W.findIn K (.ref (cs 20)) x = some none
  Refused : ∃ (fI : Addr) (fd : FuncData), OwnE P w K mg base 8 "Refused" ["self", "field", "level", "cause"] (sp_init K (cs 21) ["field", "level", "cause"]) (cs 21) fI fd (tlOf "RuntimeError") "RuntimeError.__new__" ∧ (∃ g, KBn K fd ["self", "field", "level", "cause"] 1 ["cause", "field", "level"] g rot3) ∧ ∀ x ∈ (["field", "level", "cause"] : List Str), PySem.W.findIn K (.ref (cs 21)) x = some none
  Impossible : ∃ (fI : Addr) (fd : FuncData), OwnE P w K mg base 8 "Impossible" ["self", "conflict"] (sp_init K (cs 22) ["conflict"]) (cs 22) fI fd (tlOf "RuntimeError") "RuntimeError.__new__" ∧ (∃ g, KBn K fd ["self", "conflict"] 1 ["conflict"] g (fun vs zs => vs ++ zs)) ∧ ∀ x ∈ (["conflict"] : List Str), PySem.W.findIn K (.ref (cs 22)) x = some none
  RunFailed : ∃ (fI : Addr) (fd : FuncData), OwnE P w K mg base 8 "RunFailed" ["self", "position", "results"] (sp_init K (cs 23) ["position", "results"]) (cs 23) fI fd (tlOf "RuntimeError") "RuntimeError.__new__" ∧ (∃ g, KBn K fd ["self", "position", "results"] 1 ["results", "position"] g rot2) ∧ ∀ x ∈ (["position", "results"] : List Str), PySem.W.findIn K (.ref (cs 23)) x = some none
  TooMany : ∃ (fI : Addr) (fd : FuncData), OwnE P w K mg base 1 "TooMany" ["self", "kind", "limit"] (sp_init K (cs 25) ["kind", "limit"]) (cs 25) fI fd (tlOf "ArithmeticError") "ArithmeticError.__new__" ∧ (∃ g, KBn K fd ["self", "kind", "limit"] 1 ["limit", "kind"] g rot2) ∧ ∀ x ∈ (["kind", "limit"] : List Str), PySem.W.findIn K (.ref (cs 25)) x = some none
  NoQuotient : ∃ (fI : Addr) (fd : FuncData), OwnE P w K mg base 8 "NoQuotient" ["self", "value"] (sp_init K (cs 26) ["value"]) (cs 26) fI fd (tlOf "ArithmeticError") "ArithmeticError.__new__" ∧ (∃ g, KBn K fd ["self", "value"] 1 ["value"] g (fun vs zs => vs ++ zs)) ∧ ∀ x ∈ (["value"] : List Str), PySem.W.findIn K (.ref (cs 26)) x = some none
section
variable {P : Program} {w : World} {K : PySem.W.Frag} {mg : Str → Option Value} {base : Heap} {f : Addr} {fd : FuncData} {cs : Nat → Addr}
/-- an error of the class i, its field f is d -/
def Rf (K : PySem.W.Frag) (cs : Nat → Addr) (f : Str) (d : PyData) : Nat → Hp → V → Prop := fun i H v => ExF K H v (cs i) [(f, d)] ∧ PySem.W.findIn K (.ref (cs i)) f = some none
theorem rf_mono {f : Str} {d : PyData} : Mono (Rf K cs f d) := fun _ _ _ _ s h => ⟨h.1.same s, h.2⟩
theorem mk1V {fl : Str} {d : PyData} {v : V} {σ : L2.St} {H0 : Hp} {i : Nat} (h0 : σ[0]? = some (some v)) (hd : Dq K H0 v d) (hx : Hx d) (hno : ∀ x ∈ ([fl] : List Str), PySem.W.findIn K (.ref (cs i)) x = some none) :
    Mk1 (Rf K cs fl d) (tMkV (cs i) (sp_init K (cs i) [fl]) (tCons (tVar 0) tNil)) σ H0 i := fun H Q s k =>
  ⟨v, h0, by show 1 ≤ 1000; decide, mk_ok (xs := [v]) (ds := [d]) (.cons (hd.same s) .nil) (fun d' h' => by cases List.mem_singleton.mp h'; exact hx) rfl fun e H' s' x _ => k e H' s' ⟨x, hno _ (List.mem_singleton.mpr rfl)⟩⟩
theorem mk1W {fl : Str} {d : PyData} {v : V} {σ : L2.St} {H0 : Hp} {i : Nat} (h0 : σ[0]? = some (some v)) (hd : Dq K H0 v d) (hx : Hx d) (hno : ∀ x ∈ ([fl] : List Str), PySem.W.findIn K (.ref (cs i)) x = some none) :
    Mk1 (Rf K cs fl d) (tMkW (cs i) 1 (sp_init K (cs i) [fl]) (fun vs zs => vs ++ zs) (tCons (tVar 0) tNil)) σ H0 i := fun H Q s k =>
  ⟨v, h0, rfl, mk_ok (xs := [v]) (ds := [d]) (.cons (hd.same s) .nil) (fun d' h' => by cases List.mem_singleton.mp h'; exact hx) rfl fun e H' s' x _ => k e H' s' ⟨x, hno _ (List.mem_singleton.mpr rfl)⟩⟩
/-- more.append(C(f=thing)) -/
theorem s_appW {u : TS} {D : Ends} {σ : L2.St} {H : Hp} {C t : Addr} {fl : Str} {d : PyData} {v : V} {i : Nat} {xs : List V} (h0 : σ[0]? = some (some v)) (hi : σ[i]? = some (some (.ref t))) (ht : H t = some (.lst xs)) (hl : xs.length ≤ 900) (hd : Dq K H v d) (hx : Hx d)
    (k : ∀ e H', Same H H' → ExF K H' e C [(fl, d)] → (∀ m, H m ≠ none → DqAll K (off H m) [v] [d] → ExF K (off H' m) e C [(fl, d)]) → u D σ (upd H' t (.lst (xs ++ [e])))) :
    tSeq (tDrop (tBM K "list" rAppend (tVar i) (tCons (tMkW C 1 (sp_init K C [fl]) (fun vs zs => vs ++ zs) (tCons (tVar 0) tNil)) tNil))) u D σ H := by
  refine ⟨.ref t, hi, .inl ⟨rfl, _, .inl (.inl ht)⟩, v, h0, rfl, ?_⟩
  have key := mk_ok (C := C) (fl := [fl]) (xs := [v]) (ds := [d]) (Q := fun y H1 => rAppend (.ref t) [y] H1 fun _ H2 => u D σ H2) (.cons hd .nil) (fun d' h' => by cases List.mem_singleton.mp h'; exact hx) rfl fun e H' s' x o => ⟨t, xs, e, rfl, rfl, s' _ _ ht, small1000 (by omega), k e H' s' x o⟩
  exact key
/-- pairs of an error and its number -/
def Pt (R : Nat → Hp → V → Prop) (H : Hp) (x : V) : Prop := ∃ (T : Addr) (e : V) (j : Nat), x = .ref T ∧ H T = some (.tup [e, .int (j : Int)]) ∧ j < 27 ∧ R j H e
theorem Pt.same {R : Nat → Hp → V → Prop} (mono : Mono R) {H H' : Hp} {x : V} (s : Same H H') (h : Pt R H x) : Pt R H' x := by
  obtain ⟨T, e, j, rfl, h1, h2, h3⟩ := h
  exact ⟨T, e, j, rfl, s _ _ h1, h2, mono _ _ _ _ s h3⟩
def intV (is : List Nat) : List V := is.map fun (i : Nat) => V.int (i : Int)
theorem pt_zip {R : Nat → Hp → V → Prop} {H : Hp} {xs : List V} {is : List Nat} {Ts : List Addr} (X : AllX R H xs is) (hi : ∀ i ∈ is, i < 27) (hl : Ts.length = xs.length)
    (ht : ∀ (i : Nat) (x y : V) (T : Addr), xs[i]? = some x → (intV is)[i]? = some y → Ts[i]? = some T → H T = some (.tup [x, y])) : ∀ x ∈ Ts.map V.ref, Pt R H x := by
  intro x hx
  obtain ⟨T, hT, rfl⟩ := List.mem_map.mp hx
  obtain ⟨j, hj⟩ := List.mem_iff_getElem?.mp hT
  have lj : j < xs.length := by
    rw [← hl]
    exact (List.getElem?_eq_some_iff.mp hj).1
  obtain ⟨i, h1, h2⟩ := X.get (List.getElem?_eq_getElem lj)
  refine ⟨T, xs[j], i, rfl, ht j _ _ T (List.getElem?_eq_getElem lj) ?_ hj, hi i (List.mem_of_getElem? h1), h2⟩
  unfold intV
  rw [List.getElem?_map, h1]
  rfl
structure OkS (d : PyData) : Prop where
  hx : Hx d
  sm : Small 5000 d
def sp_thing (K : PySem.W.Frag) : Sp := fun vs H Q _ => ∃ (v : V) (d : PyData), vs = [v] ∧ Dq K H v d ∧ OkS d ∧ ∀ H', Same H H' → Q (.bl true) H'
theorem ok_values_right {fI : Addr} {fdI : FuncData} (F : FnP K "_law_values_right" s_values_right f fd) (T : Tm mg cs) (B : SysOk base) (TK : Tk K cs) (ES : Es P w K mg base cs)
    (O_is : Own P w K mg base CX0 2 "_law_is" ["_law_e", "_law_place"] (sp_is cs) fI fdI) : FnG P w K mg base CX0 10 f fd ["_law_thing"] (sp_thing K) := by
  obtain ⟨fI_InvalidName, fd_InvalidName, E_InvalidName, ⟨g_InvalidName, W_InvalidName⟩, n_InvalidName⟩ := ES.InvalidName
  obtain ⟨fI_InvalidNumber, fd_InvalidNumber, E_InvalidNumber, ⟨g_InvalidNumber, W_InvalidNumber⟩, n_InvalidNumber⟩ := ES.InvalidNumber
  obtain ⟨fI_InvalidLevel, fd_InvalidLevel, E_InvalidLevel, ⟨g_InvalidLevel, W_InvalidLevel⟩, n_InvalidLevel⟩ := ES.InvalidLevel
  obtain ⟨fI_InvalidClock, fd_InvalidClock, E_InvalidClock, ⟨g_InvalidClock, W_InvalidClock⟩, n_InvalidClock⟩ := ES.InvalidClock
  obtain ⟨fI_InvalidCount, fd_InvalidCount, E_InvalidCount, ⟨g_InvalidCount, W_InvalidCount⟩, n_InvalidCount⟩ := ES.InvalidCount
  obtain ⟨fI_InvalidEquation, fd_InvalidEquation, E_InvalidEquation, ⟨g_InvalidEquation, W_InvalidEquation⟩, n_InvalidEquation⟩ := ES.InvalidEquation
  obtain ⟨fI_InvalidSetting, fd_InvalidSetting, E_InvalidSetting, ⟨g_InvalidSetting, W_InvalidSetting⟩, n_InvalidSetting⟩ := ES.InvalidSetting
  obtain ⟨fI_UnknownField, fd_UnknownField, E_UnknownField, ⟨g_UnknownField, W_UnknownField⟩, n_UnknownField⟩ := ES.UnknownField
  obtain ⟨fI_UnknownReplica, fd_UnknownReplica, E_UnknownReplica, ⟨g_UnknownReplica, W_UnknownReplica⟩, n_UnknownReplica⟩ := ES.UnknownReplica
  obtain ⟨fI_UnknownMessage, fd_UnknownMessage, E_UnknownMessage, ⟨g_UnknownMessage, W_UnknownMessage⟩, n_UnknownMessage⟩ := ES.UnknownMessage
  obtain ⟨fI_NoQuotient, fd_NoQuotient, E_NoQuotient, ⟨g_NoQuotient, W_NoQuotient⟩, n_NoQuotient⟩ := ES.NoQuotient
  refine fn_g F sc_values_right (fun vs H Q E h => ?_) (fun cdv A outer s H vs Q E hg hr h => ?_)
  · obtain ⟨v, d, rfl, _⟩ := h
    rfl
  · obtain ⟨v, d, rfl, hd, ok, q⟩ := h
    have hx := ok.hx
    obtain ⟨z0, z1, z2⟩ := ok.sm.line (by decide)
    refine ⟨_, PSs.nox (pss_cons (ps_set (i := 1) sc_values_right.nd rfl (Or.inl rfl) (pe_lst (pa_cons (pe_mkV exb_V E_InvalidName (hr.mono (by first | decide | omega)) (pa_cons (pv 0) pa_nil)) (pa_cons (pe_mkV exb_V E_InvalidNumber (hr.mono (by first | decide | omega)) (pa_cons (pv 0) pa_nil)) (pa_cons (pe_mkV exb_V E_InvalidLevel (hr.mono (by first | decide | omega)) (pa_cons (pv 0) pa_nil)) (pa_cons (pe_mkV exb_V E_InvalidClock (hr.mono (by first | decide | omega)) (pa_cons (pv 0) pa_nil)) (pa_cons (pe_mkV exb_V E_InvalidCount (hr.mono (by first | decide | omega)) (pa_cons (pv 0) pa_nil)) pa_nil)))))))
      (pss_cons (ps_set (i := 2) sc_values_right.nd rfl (Or.inl rfl) (pe_lst (pa_cons (pe_mkW exb_V E_InvalidName W_InvalidName (hr.mono (by first | decide | omega)) (pk_cons (pv 0) pk_nil)) (pa_cons (pe_mkW exb_V E_InvalidNumber W_InvalidNumber (hr.mono (by first | decide | omega)) (pk_cons (pv 0) pk_nil)) (pa_cons (pe_mkW exb_V E_InvalidLevel W_InvalidLevel (hr.mono (by first | decide | omega)) (pk_cons (pv 0) pk_nil)) pa_nil)))))
      (pss_cons (ps_set (i := 2) sc_values_right.nd rfl (Or.inl rfl) (pe_op op_cat (pv 2) (pe_lst (pa_cons (pe_mkW exb_V E_InvalidClock W_InvalidClock (hr.mono (by first | decide | omega)) (pk_cons (pv 0) pk_nil)) (pa_cons (pe_mkW exb_V E_InvalidCount W_InvalidCount (hr.mono (by first | decide | omega)) (pk_cons (pv 0) pk_nil)) pa_nil)))))
      (pss_cons (ps_set (i := 3) sc_values_right.nd rfl (Or.inl rfl) (pe_lst (pa_cons pe_int (pa_cons pe_int (pa_cons pe_int (pa_cons pe_int (pa_cons pe_int pa_nil)))))))
      (pss_cons (ps_set (i := 1) sc_values_right.nd rfl (Or.inl rfl) (pe_op op_cat (pv 1) (pe_lst (pa_cons (pe_mkV exb_V E_InvalidEquation (hr.mono (by first | decide | omega)) (pa_cons (pv 0) pa_nil)) (pa_cons (pe_mkV exb_V E_InvalidSetting (hr.mono (by first | decide | omega)) (pa_cons (pv 0) pa_nil)) (pa_cons (pe_mkV exb_L E_UnknownField (hr.mono (by first | decide | omega)) (pa_cons (pv 0) pa_nil)) (pa_cons (pe_mkV exb_L E_UnknownReplica (hr.mono (by first | decide | omega)) (pa_cons (pv 0) pa_nil)) pa_nil)))))))
      (pss_cons (ps_set (i := 2) sc_values_right.nd rfl (Or.inl rfl) (pe_op op_cat (pv 2) (pe_lst (pa_cons (pe_mkW exb_V E_InvalidEquation W_InvalidEquation (hr.mono (by first | decide | omega)) (pk_cons (pv 0) pk_nil)) (pa_cons (pe_mkW exb_V E_InvalidSetting W_InvalidSetting (hr.mono (by first | decide | omega)) (pk_cons (pv 0) pk_nil)) (pa_cons (pe_mkW exb_L E_UnknownField W_UnknownField (hr.mono (by first | decide | omega)) (pk_cons (pv 0) pk_nil)) pa_nil))))))
      (pss_cons (ps_expr (pe_bm PySem.F.plainAttrs_list PySem.F.slot_list_append PySem.F.type_list_append mt_append (pv 2) (pa_cons (pe_mkW exb_L E_UnknownReplica W_UnknownReplica (hr.mono (by first | decide | omega)) (pk_cons (pv 0) pk_nil)) pa_nil)))
      (pss_cons (ps_set (i := 1) sc_values_right.nd rfl (Or.inl rfl) (pe_op op_cat (pv 1) (pe_lst (pa_cons (pe_mkV exb_L E_UnknownMessage (hr.mono (by first | decide | omega)) (pa_cons (pv 0) pa_nil)) (pa_cons (pe_mkV exb_A E_NoQuotient (hr.mono (by first | decide | omega)) (pa_cons (pv 0) pa_nil)) pa_nil)))))
      (pss_cons (ps_set (i := 2) sc_values_right.nd rfl (Or.inl rfl) (pe_op op_cat (pv 2) (pe_lst (pa_cons (pe_mkW exb_L E_UnknownMessage W_UnknownMessage (hr.mono (by first | decide | omega)) (pk_cons (pv 0) pk_nil)) (pa_cons (pe_mkW exb_A E_NoQuotient W_NoQuotient (hr.mono (by first | decide | omega)) (pk_cons (pv 0) pk_nil)) pa_nil)))))
      (pss_cons (ps_set (i := 3) sc_values_right.nd rfl (Or.inl rfl) (pe_op op_cat (pv 3) (pe_lst (pa_cons pe_int (pa_cons pe_int (pa_cons pe_int (pa_cons pe_int (pa_cons pe_int (pa_cons pe_int pa_nil)))))))))
      (pss_cons (ps_for PassesOwn.never rfl (pi_list (pe_op op_cat (pe_listZip rfl (by rfl) T.z_list (by rfl) T.z_zip (pa_cons (pv 1) (pa_cons (pv 3) pa_nil))) (pe_listZip rfl (by rfl) T.z_list (by rfl) T.z_zip (pa_cons (pv 2) (pa_cons (pv 3) pa_nil))))) (pg_tup rfl (pgs_cons (pg_name (i := 4) sc_values_right.nd rfl (Or.inl rfl)) (pgs_cons (pg_name (i := 5) sc_values_right.nd rfl (Or.inl rfl)) pgs_nil))) (pss_one (ps_if (PW.pt (pw_or (pt_not (pt_val (pe_own O_is (hr.mono (by first | decide | omega)) (pa_cons (pv 4) (pa_cons (pv 5) pa_nil))))) (pw_or1 (pt_cmpR op_ne (pe_callB (call_repr B hg hr.units) (by rfl) T.z_repr (by decide +kernel) (pa_cons (pe_xfE (pv 4)) pa_nil)) (pe_callB (call_repr B hg hr.units) (by rfl) T.z_repr (by decide +kernel) (pa_cons (pv 0) pa_nil)) (nomark _))))) (pss_one (ps_ret pe_bl)) pss_nil)))
      (pss_one (ps_ret pe_bl))))))))))))), ?_⟩
    refine s_lstX (R := Rf K cs "value" d) (is := [0, 1, 2, 3, 4]) (.cons rf_mono (mk1V (i := 0) rfl (hd.same (Same.refl H)) hx n_InvalidName) (.cons rf_mono (mk1V (i := 1) rfl (hd.same (Same.refl H)) hx n_InvalidNumber) (.cons rf_mono (mk1V (i := 2) rfl (hd.same (Same.refl H)) hx n_InvalidLevel) (.cons rf_mono (mk1V (i := 3) rfl (hd.same (Same.refl H)) hx n_InvalidClock) (.cons rf_mono (mk1V (i := 4) rfl (hd.same (Same.refl H)) hx n_InvalidCount) .nil))))) (by decide) fun x1 H1 p1 s1 X1 n1 => ?_
    have u1 : Same H1 (upd H1 p1 (.lst x1)) := same_upd n1
    have S1 : Same H (upd H1 p1 (.lst x1)) := (Same.refl H).trans (s1.trans u1)
    have Y_some := X1.same rf_mono u1
    have L_some : x1.length = 5 := X1.len
    have e_some : (upd H1 p1 (.lst x1)) p1 = some (.lst x1) := upd_same
    revert S1 Y_some e_some
    generalize upd H1 p1 (.lst x1) = G1
    intro S1 Y_some e_some
    refine s_lstX (R := Rf K cs "value" d) (is := [0, 1, 2]) (.cons rf_mono (mk1W (i := 0) rfl (hd.same S1) hx n_InvalidName) (.cons rf_mono (mk1W (i := 1) rfl (hd.same S1) hx n_InvalidNumber) (.cons rf_mono (mk1W (i := 2) rfl (hd.same S1) hx n_InvalidLevel) .nil))) (by decide) fun x2 H2 p2 s2 X2 n2 => ?_
    have u2 : Same H2 (upd H2 p2 (.lst x2)) := same_upd n2
    have S2 : Same H (upd H2 p2 (.lst x2)) := S1.trans (s2.trans u2)
    replace e_some := u2 _ _ (s2 _ _ e_some)
    replace Y_some := Y_some.same rf_mono (s2.trans u2)
    have Y_more := X2.same rf_mono u2
    have L_more : x2.length = 3 := X2.len
    have e_more : (upd H2 p2 (.lst x2)) p2 = some (.lst x2) := upd_same
    revert S2 e_some Y_some Y_more e_more
    generalize upd H2 p2 (.lst x2) = G2
    intro S2 e_some Y_some Y_more e_more
    refine s_catX (R := Rf K cs "value" d) rf_mono (is := [3, 4]) (t := p2) (.cons rf_mono (mk1W (i := 3) rfl (hd.same S2) hx n_InvalidClock) (.cons rf_mono (mk1W (i := 4) rfl (hd.same S2) hx n_InvalidCount) .nil)) (by rw [L_more]; decide) rfl e_more fun x3 H3 p3 s3 X3 n3 => ?_
    have u3 : Same H3 (upd H3 p3 (.lst (x2 ++ x3))) := same_upd n3
    have S3 : Same H (upd H3 p3 (.lst (x2 ++ x3))) := S2.trans (s3.trans u3)
    replace e_some := u3 _ _ (s3 _ _ e_some)
    replace Y_some := Y_some.same rf_mono (s3.trans u3)
    replace Y_more := (Y_more.same rf_mono (s3.trans u3)).app (X3.same rf_mono u3)
    replace L_more : (x2 ++ x3).length = 5 := by rw [List.length_append, L_more, X3.len]; rfl
    replace e_more : (upd H3 p3 (.lst (x2 ++ x3))) p3 = some (.lst (x2 ++ x3)) := upd_same
    revert S3 e_some Y_some Y_more e_more
    generalize upd H3 p3 (.lst (x2 ++ x3)) = G3
    intro S3 e_some Y_some Y_more e_more
    refine ⟨by show 5 ≤ sizeLine; decide, fun p4 n4 => ?_⟩
    change tSeq _ _ _ [some v, some (.ref p1), some (.ref p3), some (.ref p4), none, none] (upd G3 p4 (.lst (intV [0, 1, 2, 3, 4])))
    have u4 : Same G3 (upd G3 p4 (.lst (intV [0, 1, 2, 3, 4]))) := same_upd n4
    have S4 : Same H (upd G3 p4 (.lst (intV [0, 1, 2, 3, 4]))) := S3.trans u4
    replace e_some := u4 _ _ e_some
    replace Y_some := Y_some.same rf_mono u4
    replace e_more := u4 _ _ e_more
    replace Y_more := Y_more.same rf_mono u4
    have e_places : (upd G3 p4 (.lst (intV [0, 1, 2, 3, 4]))) p4 = some (.lst (intV [0, 1, 2, 3, 4])) := upd_same
    revert S4 e_some Y_some e_more Y_more e_places
    generalize upd G3 p4 (.lst (intV [0, 1, 2, 3, 4])) = G4
    intro S4 e_some Y_some e_more Y_more e_places
    refine s_catX (R := Rf K cs "value" d) rf_mono (is := [6, 8, 15, 16]) (t := p1) (.cons rf_mono (mk1V (i := 6) rfl (hd.same S4) hx n_InvalidEquation) (.cons rf_mono (mk1V (i := 8) rfl (hd.same S4) hx n_InvalidSetting) (.cons rf_mono (mk1V (i := 15) rfl (hd.same S4) hx n_UnknownField) (.cons rf_mono (mk1V (i := 16) rfl (hd.same S4) hx n_UnknownReplica) .nil)))) (by rw [L_some]; decide) rfl e_some fun x5 H5 p5 s5 X5 n5 => ?_
    have u5 : Same H5 (upd H5 p5 (.lst (x1 ++ x5))) := same_upd n5
    have S5 : Same H (upd H5 p5 (.lst (x1 ++ x5))) := S4.trans (s5.trans u5)
    replace e_more := u5 _ _ (s5 _ _ e_more)
    replace Y_more := Y_more.same rf_mono (s5.trans u5)
    replace e_places := u5 _ _ (s5 _ _ e_places)
    replace Y_some := (Y_some.same rf_mono (s5.trans u5)).app (X5.same rf_mono u5)
    replace L_some : (x1 ++ x5).length = 9 := by rw [List.length_append, L_some, X5.len]; rfl
    replace e_some : (upd H5 p5 (.lst (x1 ++ x5))) p5 = some (.lst (x1 ++ x5)) := upd_same
    revert S5 e_more Y_more e_places Y_some e_some
    generalize upd H5 p5 (.lst (x1 ++ x5)) = G5
    intro S5 e_more Y_more e_places Y_some e_some
    refine s_catX (R := Rf K cs "value" d) rf_mono (is := [6, 8, 15]) (t := p3) (.cons rf_mono (mk1W (i := 6) rfl (hd.same S5) hx n_InvalidEquation) (.cons rf_mono (mk1W (i := 8) rfl (hd.same S5) hx n_InvalidSetting) (.cons rf_mono (mk1W (i := 15) rfl (hd.same S5) hx n_UnknownField) .nil))) (by rw [L_more]; decide) rfl e_more fun x6 H6 p6 s6 X6 n6 => ?_
    have u6 : Same H6 (upd H6 p6 (.lst ((x2 ++ x3) ++ x6))) := same_upd n6
    have S6 : Same H (upd H6 p6 (.lst ((x2 ++ x3) ++ x6))) := S5.trans (s6.trans u6)
    have F0 : Same H6 (off (upd H6 p6 (.lst ((x2 ++ x3) ++ x6))) p6) := off_new1 n6
    have F_es := F0 _ _ (s6 _ _ e_some)
    have F_Ys := Y_some.same rf_mono (s6.trans F0)
    have F_d := hd.same (S5.trans (s6.trans F0))
    have F_H := S5.trans (s6.trans F0)
    have F_ep := F0 _ _ (s6 _ _ e_places)
    have F_Ym := (Y_more.same rf_mono (s6.trans F0)).app (X6.same rf_mono F0)
    replace e_some := u6 _ _ (s6 _ _ e_some)
    replace Y_some := Y_some.same rf_mono (s6.trans u6)
    replace e_places := u6 _ _ (s6 _ _ e_places)
    replace Y_more := (Y_more.same rf_mono (s6.trans u6)).app (X6.same rf_mono u6)
    replace L_more : ((x2 ++ x3) ++ x6).length = 8 := by rw [List.length_append, L_more, X6.len]; rfl
    replace e_more : (upd H6 p6 (.lst ((x2 ++ x3) ++ x6))) p6 = some (.lst ((x2 ++ x3) ++ x6)) := upd_same
    clear F0
    revert S6 F_es F_Ys F_d F_H F_ep F_Ym e_some Y_some e_places Y_more e_more
    generalize upd H6 p6 (.lst ((x2 ++ x3) ++ x6)) = G6
    intro S6 F_es F_Ys F_d F_H F_ep F_Ym e_some Y_some e_places Y_more e_more
    refine s_appW (K := K) (fl := "value") (d := d) (i := 2) (t := p6) rfl rfl e_more (by rw [L_more]; decide) (hd.same S6) hx fun e7 K7 t7 x7 o7 => ?_
    have w7 : Same (off G6 p6) (upd K7 p6 (.lst (((x2 ++ x3) ++ x6) ++ [e7]))) := fun b o h => by
      obtain ⟨h1, h2⟩ := off_get h
      rw [upd_ne h1]
      exact t7 _ _ h2
    have v7 : Same (off K7 p6) (upd K7 p6 (.lst (((x2 ++ x3) ++ x6) ++ [e7]))) := fun b o h => by
      obtain ⟨h1, h2⟩ := off_get h
      rw [upd_ne h1]
      exact h2
    have S7 : Same H (upd K7 p6 (.lst (((x2 ++ x3) ++ x6) ++ [e7]))) := F_H.trans w7
    replace e_some := w7 _ _ F_es
    replace Y_some := F_Ys.same rf_mono w7
    replace e_places := w7 _ _ F_ep
    replace Y_more := (F_Ym.same rf_mono w7).app (.cons (i := 16) ((⟨o7 _ (by rw [e_more]; exact fun z => nomatch z) (.cons F_d .nil), n_UnknownReplica _ (List.mem_singleton.mpr rfl)⟩ : Rf K cs "value" d 16 (off K7 p6) e7) |> rf_mono _ _ _ _ v7) .nil)
    replace e_more : (upd K7 p6 (.lst (((x2 ++ x3) ++ x6) ++ [e7]))) p6 = some (.lst (((x2 ++ x3) ++ x6) ++ [e7])) := upd_same
    replace L_more : (((x2 ++ x3) ++ x6) ++ [e7]).length = 9 := by rw [List.length_append, L_more]; rfl
    revert S7 e_some Y_some e_places Y_more e_more
    generalize upd K7 p6 (.lst (((x2 ++ x3) ++ x6) ++ [e7])) = G7
    intro S7 e_some Y_some e_places Y_more e_more
    refine s_catX (R := Rf K cs "value" d) rf_mono (is := [17, 26]) (t := p5) (.cons rf_mono (mk1V (i := 17) rfl (hd.same S7) hx n_UnknownMessage) (.cons rf_mono (mk1V (i := 26) rfl (hd.same S7) hx n_NoQuotient) .nil)) (by rw [L_some]; decide) rfl e_some fun x8 H8 p8 s8 X8 n8 => ?_
    have u8 : Same H8 (upd H8 p8 (.lst ((x1 ++ x5) ++ x8))) := same_upd n8
    have S8 : Same H (upd H8 p8 (.lst ((x1 ++ x5) ++ x8))) := S7.trans (s8.trans u8)
    replace e_more := u8 _ _ (s8 _ _ e_more)
    replace Y_more := Y_more.same rf_mono (s8.trans u8)
    replace e_places := u8 _ _ (s8 _ _ e_places)
    replace Y_some := (Y_some.same rf_mono (s8.trans u8)).app (X8.same rf_mono u8)
    replace L_some : ((x1 ++ x5) ++ x8).length = 11 := by rw [List.length_append, L_some, X8.len]; rfl
    replace e_some : (upd H8 p8 (.lst ((x1 ++ x5) ++ x8))) p8 = some (.lst ((x1 ++ x5) ++ x8)) := upd_same
    revert S8 e_more Y_more e_places Y_some e_some
    generalize upd H8 p8 (.lst ((x1 ++ x5) ++ x8)) = G8
    intro S8 e_more Y_more e_places Y_some e_some
    refine s_catX (R := Rf K cs "value" d) rf_mono (is := [17, 26]) (t := p6) (.cons rf_mono (mk1W (i := 17) rfl (hd.same S8) hx n_UnknownMessage) (.cons rf_mono (mk1W (i := 26) rfl (hd.same S8) hx n_NoQuotient) .nil)) (by rw [L_more]; decide) rfl e_more fun x9 H9 p9 s9 X9 n9 => ?_
    have u9 : Same H9 (upd H9 p9 (.lst ((((x2 ++ x3) ++ x6) ++ [e7]) ++ x9))) := same_upd n9
    have S9 : Same H (upd H9 p9 (.lst ((((x2 ++ x3) ++ x6) ++ [e7]) ++ x9))) := S8.trans (s9.trans u9)
    replace e_some := u9 _ _ (s9 _ _ e_some)
    replace Y_some := Y_some.same rf_mono (s9.trans u9)
    replace e_places := u9 _ _ (s9 _ _ e_places)
    replace Y_more := (Y_more.same rf_mono (s9.trans u9)).app (X9.same rf_mono u9)
    replace L_more : ((((x2 ++ x3) ++ x6) ++ [e7]) ++ x9).length = 11 := by rw [List.length_append, L_more, X9.len]; rfl
    replace e_more : (upd H9 p9 (.lst ((((x2 ++ x3) ++ x6) ++ [e7]) ++ x9))) p9 = some (.lst ((((x2 ++ x3) ++ x6) ++ [e7]) ++ x9)) := upd_same
    revert S9 e_some Y_some e_places Y_more e_more
    generalize upd H9 p9 (.lst ((((x2 ++ x3) ++ x6) ++ [e7]) ++ x9)) = G9
    intro S9 e_some Y_some e_places Y_more e_more
    refine ⟨.ref p4, rfl, by show 6 ≤ sizeLine; decide, fun r10 m10 => ⟨p4, r10, (intV [0, 1, 2, 3, 4]), _, rfl, rfl, (same_upd m10) _ _ e_places, upd_same, by show 5 + 6 ≤ sizeLine; decide, fun p10 n10 => ?_⟩⟩
    change tSeq _ _ _ [some v, some (.ref p8), some (.ref p9), some (.ref p10), none, none] (upd (upd G9 r10 (.lst (intV [6, 8, 15, 16, 17, 26]))) p10 (.lst (intV [0, 1, 2, 3, 4, 6, 8, 15, 16, 17, 26])))
    have u10 : Same G9 (upd (upd G9 r10 (.lst (intV [6, 8, 15, 16, 17, 26]))) p10 (.lst (intV [0, 1, 2, 3, 4, 6, 8, 15, 16, 17, 26]))) := (same_upd m10).trans (same_upd n10)
    have S10 : Same H (upd (upd G9 r10 (.lst (intV [6, 8, 15, 16, 17, 26]))) p10 (.lst (intV [0, 1, 2, 3, 4, 6, 8, 15, 16, 17, 26]))) := S9.trans u10
    replace e_some := u10 _ _ e_some
    replace Y_some := Y_some.same rf_mono u10
    replace e_more := u10 _ _ e_more
    replace Y_more := Y_more.same rf_mono u10
    replace e_places : (upd (upd G9 r10 (.lst (intV [6, 8, 15, 16, 17, 26]))) p10 (.lst (intV [0, 1, 2, 3, 4, 6, 8, 15, 16, 17, 26]))) p10 = some (.lst (intV [0, 1, 2, 3, 4, 6, 8, 15, 16, 17, 26])) := upd_same
    revert S10 e_some Y_some e_more Y_more e_places
    generalize upd (upd G9 r10 (.lst (intV [6, 8, 15, 16, 17, 26]))) p10 (.lst (intV [0, 1, 2, 3, 4, 6, 8, 15, 16, 17, 26])) = G10
    intro S10 e_some Y_some e_more Y_more e_places
    have ls : ((x1 ++ x5) ++ x8).length = 11 := L_some
    have lm : ((((x2 ++ x3) ++ x6) ++ [e7]) ++ x9).length = 11 := L_more
    refine ⟨.ref p8, rfl, .ref p10, rfl, p8, p10, _, (intV [0, 1, 2, 3, 4, 6, 8, 15, 16, 17, 26]), rfl, .inl (.inl e_some), .inl (.inl e_places), by rw [ls]; rfl, by rw [ls]; decide, fun q1 T1 J1 j1 f1 l1 c1 => ?_⟩
    refine ⟨.ref p9, rfl, .ref p10, rfl, p9, p10, _, (intV [0, 1, 2, 3, 4, 6, 8, 15, 16, 17, 26]), rfl, .inl (.inl (j1 _ _ e_more)), .inl (.inl (j1 _ _ e_places)), by rw [lm]; rfl, by rw [lm]; decide, fun q2 T2 J2 j2 f2 l2 c2 => ?_⟩
    have P1 : ∀ x ∈ T1.map V.ref, Pt (Rf K cs "value" d) J1 x := pt_zip (Y_some.same rf_mono j1) (by decide) l1 c1
    have P2 : ∀ x ∈ T2.map V.ref, Pt (Rf K cs "value" d) J2 x := pt_zip (Y_more.same rf_mono (j1.trans j2)) (by decide) l2 c2
    refine ⟨q1, q2, _, _, rfl, rfl, j2 _ _ f1, f2, ?_, fun q3 nq3 => ?_⟩
    · rw [List.length_map, List.length_map, l1, l2, ls, lm]
      decide
    have u3 : Same J2 (upd J2 q3 (.lst (T1.map V.ref ++ T2.map V.ref))) := same_upd nq3
    have e3 : (upd J2 q3 (.lst (T1.map V.ref ++ T2.map V.ref))) q3 = some (.lst (T1.map V.ref ++ T2.map V.ref)) := upd_same
    have P3 : ∀ x ∈ T1.map V.ref ++ T2.map V.ref, Pt (Rf K cs "value" d) (upd J2 q3 (.lst (T1.map V.ref ++ T2.map V.ref))) x := fun x hx => by
      rcases List.mem_append.mp hx with h | h
      · exact (P1 x h).same rf_mono (j2.trans u3)
      · exact (P2 x h).same rf_mono u3
    have S99 := S10.trans ((j1.trans j2).trans u3)
    revert u3 e3 P3 S99
    generalize upd J2 q3 (.lst (T1.map V.ref ++ T2.map V.ref)) = J3
    generalize T1.map V.ref ++ T2.map V.ref = zs
    intro u3 e3 P3 S99
    refine ⟨q3, rfl, ⟨_, .inl (.inl e3)⟩, ?_⟩
    refine for_list (K := K) (a := q3) (xs := zs) (fun i σ J => ∃ y4 y5, σ = [some v, some (.ref p8), some (.ref p9), some (.ref p10), y4, y5] ∧ Same J3 J) ⟨_, _, rfl, Same.refl J3⟩ (fun i σ J _ h => ?_) ?_ ?_
    · obtain ⟨y4, y5, _, sJ⟩ := h
      exact sJ.seq (.inl (.inl e3))
    · rintro i x σ J hx ⟨y4, y5, rfl, sJ⟩
      obtain ⟨tt, e, j, rfl, ht, hj, hR⟩ := (P3 x (List.mem_of_getElem? hx)).same rf_mono sJ
      refine ⟨tt, _, rfl, .inl (.inl ht), rfl, _, _, rfl, _, _, rfl, rfl, ?_⟩
      refine ⟨_, rfl, _, rfl, e, j, rfl, hj, hR.1.isE, fun J4 s4 => ⟨_, rfl, ?_⟩⟩
      refine iteF ?_
      obtain ⟨a, dx, fs, rfl, h1, h2, h3⟩ := hR.1.same s4
      obtain ⟨y, hl, hy⟩ := h3 _ _ (List.mem_singleton.mpr rfl)
      refine ⟨_, rfl, a, _, dx, fs, y, rfl, h1, h2, TK.xf j (by omega), hR.2, hl, y, d, rfl, hy, z0, z1, z2, ?_⟩
      refine ⟨v, rfl, v, d, rfl, hd.same ((S99.trans sJ).trans s4), z0, z1, z2, rfl, _, rfl, ?_⟩
      rw [decide_eq_true rfl]
      exact iteF ⟨_, _, rfl, sJ.trans s4⟩
    · rintro σ J ⟨y4, y5, rfl, sJ⟩
      exact q J (S99.trans sJ)
end
end K18

set_option Elab.async false
set_option linter.all false
set_option maxRecDepth 100000
set_option maxHeartbeats 4000000
namespace K18
open PySem PySem.Spec PyProof.Rows L2 Lw
section
variable {P : Program} {w : World} {K : PySem.W.Frag} {mg : Str → Option Value} {base : Heap} {f : Addr} {fd : FuncData} {cs : Nat → Addr}
theorem ok_places_right {fI : Addr} {fdI : FuncData} (F : FnP K "_law_places_right" s_places_right f fd) (T : Tm mg cs) (B : SysOk base) (TK : Tk K cs) (ES : Es P w K mg base cs)
    (O_is : Own P w K mg base CX0 2 "_law_is" ["_law_e", "_law_place"] (sp_is cs) fI fdI) : FnG P w K mg base CX0 10 f fd ["_law_thing"] (sp_thing K) := by
  obtain ⟨fI_InvalidFields, fd_InvalidFields, E_InvalidFields, ⟨g_InvalidFields, W_InvalidFields⟩, n_InvalidFields⟩ := ES.InvalidFields
  obtain ⟨fI_InvalidEquations, fd_InvalidEquations, E_InvalidEquations, ⟨g_InvalidEquations, W_InvalidEquations⟩, n_InvalidEquations⟩ := ES.InvalidEquations
  obtain ⟨fI_InvalidSettings, fd_InvalidSettings, E_InvalidSettings, ⟨g_InvalidSettings, W_InvalidSettings⟩, n_InvalidSettings⟩ := ES.InvalidSettings
  obtain ⟨fI_InvalidPairs, fd_InvalidPairs, E_InvalidPairs, ⟨g_InvalidPairs, W_InvalidPairs⟩, n_InvalidPairs⟩ := ES.InvalidPairs
  obtain ⟨fI_InvalidWishes, fd_InvalidWishes, E_InvalidWishes, ⟨g_InvalidWishes, W_InvalidWishes⟩, n_InvalidWishes⟩ := ES.InvalidWishes
  obtain ⟨fI_InvalidNames, fd_InvalidNames, E_InvalidNames, ⟨g_InvalidNames, W_InvalidNames⟩, n_InvalidNames⟩ := ES.InvalidNames
  obtain ⟨fI_OtherSheet, fd_OtherSheet, E_OtherSheet, ⟨g_OtherSheet, W_OtherSheet⟩, n_OtherSheet⟩ := ES.OtherSheet
  refine fn_g F sc_places_right (fun vs H Q E h => ?_) (fun cdv A outer s H vs Q E hg hr h => ?_)
  · obtain ⟨v, d, rfl, _⟩ := h
    rfl
  · obtain ⟨v, d, rfl, hd, ok, q⟩ := h
    have hx := ok.hx
    obtain ⟨z0, z1, z2⟩ := ok.sm.line (by decide)
    refine ⟨_, PSs.nox (pss_cons (ps_set (i := 1) sc_places_right.nd rfl (Or.inl rfl) (pe_lst (pa_cons (pe_mkV exb_V E_InvalidFields (hr.mono (by first | decide | omega)) (pa_cons (pv 0) pa_nil)) (pa_cons (pe_mkV exb_V E_InvalidEquations (hr.mono (by first | decide | omega)) (pa_cons (pv 0) pa_nil)) (pa_cons (pe_mkV exb_V E_InvalidSettings (hr.mono (by first | decide | omega)) (pa_cons (pv 0) pa_nil)) (pa_cons (pe_mkV exb_V E_InvalidPairs (hr.mono (by first | decide | omega)) (pa_cons (pv 0) pa_nil)) pa_nil))))))
      (pss_cons (ps_set (i := 1) sc_places_right.nd rfl (Or.inl rfl) (pe_op op_cat (pv 1) (pe_lst (pa_cons (pe_mkV exb_V E_InvalidWishes (hr.mono (by first | decide | omega)) (pa_cons (pv 0) pa_nil)) (pa_cons (pe_mkV exb_V E_InvalidNames (hr.mono (by first | decide | omega)) (pa_cons (pv 0) pa_nil)) (pa_cons (pe_mkV exb_R E_OtherSheet (hr.mono (by first | decide | omega)) (pa_cons (pv 0) pa_nil)) pa_nil))))))
      (pss_cons (ps_set (i := 2) sc_places_right.nd rfl (Or.inl rfl) (pe_lst (pa_cons (pe_mkW exb_V E_InvalidFields W_InvalidFields (hr.mono (by first | decide | omega)) (pk_cons (pv 0) pk_nil)) (pa_cons (pe_mkW exb_V E_InvalidEquations W_InvalidEquations (hr.mono (by first | decide | omega)) (pk_cons (pv 0) pk_nil)) (pa_cons (pe_mkW exb_V E_InvalidSettings W_InvalidSettings (hr.mono (by first | decide | omega)) (pk_cons (pv 0) pk_nil)) pa_nil)))))
      (pss_cons (ps_set (i := 2) sc_places_right.nd rfl (Or.inl rfl) (pe_op op_cat (pv 2) (pe_lst (pa_cons (pe_mkW exb_V E_InvalidPairs W_InvalidPairs (hr.mono (by first | decide | omega)) (pk_cons (pv 0) pk_nil)) (pa_cons (pe_mkW exb_V E_InvalidWishes W_InvalidWishes (hr.mono (by first | decide | omega)) (pk_cons (pv 0) pk_nil)) (pa_cons (pe_mkW exb_V E_InvalidNames W_InvalidNames (hr.mono (by first | decide | omega)) (pk_cons (pv 0) pk_nil)) pa_nil))))))
      (pss_cons (ps_expr (pe_bm PySem.F.plainAttrs_list PySem.F.slot_list_append PySem.F.type_list_append mt_append (pv 2) (pa_cons (pe_mkW exb_R E_OtherSheet W_OtherSheet (hr.mono (by first | decide | omega)) (pk_cons (pv 0) pk_nil)) pa_nil)))
      (pss_cons (ps_set (i := 3) sc_places_right.nd rfl (Or.inl rfl) (pe_lst (pa_cons pe_int (pa_cons pe_int (pa_cons pe_int (pa_cons pe_int (pa_cons pe_int (pa_cons pe_int (pa_cons pe_int pa_nil)))))))))
      (pss_cons (ps_for PassesOwn.never rfl (pi_list (pe_op op_cat (pe_listZip rfl (by rfl) T.z_list (by rfl) T.z_zip (pa_cons (pv 1) (pa_cons (pv 3) pa_nil))) (pe_listZip rfl (by rfl) T.z_list (by rfl) T.z_zip (pa_cons (pv 2) (pa_cons (pv 3) pa_nil))))) (pg_tup rfl (pgs_cons (pg_name (i := 4) sc_places_right.nd rfl (Or.inl rfl)) (pgs_cons (pg_name (i := 5) sc_places_right.nd rfl (Or.inl rfl)) pgs_nil))) (pss_one (ps_if (PW.pt (pw_or (pt_not (pt_val (pe_own O_is (hr.mono (by first | decide | omega)) (pa_cons (pv 4) (pa_cons (pv 5) pa_nil))))) (pw_or1 (pt_cmpR op_ne (pe_callB (call_repr B hg hr.units) (by rfl) T.z_repr (by decide +kernel) (pa_cons (pe_xfE (pv 4)) pa_nil)) (pe_callB (call_repr B hg hr.units) (by rfl) T.z_repr (by decide +kernel) (pa_cons (pv 0) pa_nil)) (nomark _))))) (pss_one (ps_ret pe_bl)) pss_nil)))
      (pss_one (ps_ret pe_bl))))))))), ?_⟩
    refine s_lstX (R := Rf K cs "index" d) (is := [5, 7, 9, 10]) (.cons rf_mono (mk1V (i := 5) rfl (hd.same (Same.refl H)) hx n_InvalidFields) (.cons rf_mono (mk1V (i := 7) rfl (hd.same (Same.refl H)) hx n_InvalidEquations) (.cons rf_mono (mk1V (i := 9) rfl (hd.same (Same.refl H)) hx n_InvalidSettings) (.cons rf_mono (mk1V (i := 10) rfl (hd.same (Same.refl H)) hx n_InvalidPairs) .nil)))) (by decide) fun x1 H1 p1 s1 X1 n1 => ?_
    have u1 : Same H1 (upd H1 p1 (.lst x1)) := same_upd n1
    have S1 : Same H (upd H1 p1 (.lst x1)) := (Same.refl H).trans (s1.trans u1)
    have Y_some := X1.same rf_mono u1
    have L_some : x1.length = 4 := X1.len
    have e_some : (upd H1 p1 (.lst x1)) p1 = some (.lst x1) := upd_same
    revert S1 Y_some e_some
    generalize upd H1 p1 (.lst x1) = G1
    intro S1 Y_some e_some
    refine s_catX (R := Rf K cs "index" d) rf_mono (is := [11, 12, 20]) (t := p1) (.cons rf_mono (mk1V (i := 11) rfl (hd.same S1) hx n_InvalidWishes) (.cons rf_mono (mk1V (i := 12) rfl (hd.same S1) hx n_InvalidNames) (.cons rf_mono (mk1V (i := 20) rfl (hd.same S1) hx n_OtherSheet) .nil))) (by rw [L_some]; decide) rfl e_some fun x2 H2 p2 s2 X2 n2 => ?_
    have u2 : Same H2 (upd H2 p2 (.lst (x1 ++ x2))) := same_upd n2
    have S2 : Same H (upd H2 p2 (.lst (x1 ++ x2))) := S1.trans (s2.trans u2)
    replace Y_some := (Y_some.same rf_mono (s2.trans u2)).app (X2.same rf_mono u2)
    replace L_some : (x1 ++ x2).length = 7 := by rw [List.length_append, L_some, X2.len]; rfl
    replace e_some : (upd H2 p2 (.lst (x1 ++ x2))) p2 = some (.lst (x1 ++ x2)) := upd_same
    revert S2 Y_some e_some
    generalize upd H2 p2 (.lst (x1 ++ x2)) = G2
    intro S2 Y_some e_some
    refine s_lstX (R := Rf K cs "index" d) (is := [5, 7, 9]) (.cons rf_mono (mk1W (i := 5) rfl (hd.same S2) hx n_InvalidFields) (.cons rf_mono (mk1W (i := 7) rfl (hd.same S2) hx n_InvalidEquations) (.cons rf_mono (mk1W (i := 9) rfl (hd.same S2) hx n_InvalidSettings) .nil))) (by decide) fun x3 H3 p3 s3 X3 n3 => ?_
    have u3 : Same H3 (upd H3 p3 (.lst x3)) := same_upd n3
    have S3 : Same H (upd H3 p3 (.lst x3)) := S2.trans (s3.trans u3)
    replace e_some := u3 _ _ (s3 _ _ e_some)
    replace Y_some := Y_some.same rf_mono (s3.trans u3)
    have Y_more := X3.same rf_mono u3
    have L_more : x3.length = 3 := X3.len
    have e_more : (upd H3 p3 (.lst x3)) p3 = some (.lst x3) := upd_same
    revert S3 e_some Y_some Y_more e_more
    generalize upd H3 p3 (.lst x3) = G3
    intro S3 e_some Y_some Y_more e_more
    refine s_catX (R := Rf K cs "index" d) rf_mono (is := [10, 11, 12]) (t := p3) (.cons rf_mono (mk1W (i := 10) rfl (hd.same S3) hx n_InvalidPairs) (.cons rf_mono (mk1W (i := 11) rfl (hd.same S3) hx n_InvalidWishes) (.cons rf_mono (mk1W (i := 12) rfl (hd.same S3) hx n_InvalidNames) .nil))) (by rw [L_more]; decide) rfl e_more fun x4 H4 p4 s4 X4 n4 => ?_
    have u4 : Same H4 (upd H4 p4 (.lst (x3 ++ x4))) := same_upd n4
    have S4 : Same H (upd H4 p4 (.lst (x3 ++ x4))) := S3.trans (s4.trans u4)
    have F0 : Same H4 (off (upd H4 p4 (.lst (x3 ++ x4))) p4) := off_new1 n4
    have F_es := F0 _ _ (s4 _ _ e_some)
    have F_Ys := Y_some.same rf_mono (s4.trans F0)
    have F_d := hd.same (S3.trans (s4.trans F0))
    have F_H := S3.trans (s4.trans F0)
    have F_Ym := (Y_more.same rf_mono (s4.trans F0)).app (X4.same rf_mono F0)
    replace e_some := u4 _ _ (s4 _ _ e_some)
    replace Y_some := Y_some.same rf_mono (s4.trans u4)
    replace Y_more := (Y_more.same rf_mono (s4.trans u4)).app (X4.same rf_mono u4)
    replace L_more : (x3 ++ x4).length = 6 := by rw [List.length_append, L_more, X4.len]; rfl
    replace e_more : (upd H4 p4 (.lst (x3 ++ x4))) p4 = some (.lst (x3 ++ x4)) := upd_same
    clear F0
    revert S4 F_es F_Ys F_d F_H F_Ym e_some Y_some Y_more e_more
    generalize upd H4 p4 (.lst (x3 ++ x4)) = G4
    intro S4 F_es F_Ys F_d F_H F_Ym e_some Y_some Y_more e_more
    refine s_appW (K := K) (fl := "index") (d := d) (i := 2) (t := p4) rfl rfl e_more (by rw [L_more]; decide) (hd.same S4) hx fun e5 K5 t5 x5 o5 => ?_
    have w5 : Same (off G4 p4) (upd K5 p4 (.lst ((x3 ++ x4) ++ [e5]))) := fun b o h => by
      obtain ⟨h1, h2⟩ := off_get h
      rw [upd_ne h1]
      exact t5 _ _ h2
    have v5 : Same (off K5 p4) (upd K5 p4 (.lst ((x3 ++ x4) ++ [e5]))) := fun b o h => by
      obtain ⟨h1, h2⟩ := off_get h
      rw [upd_ne h1]
      exact h2
    have S5 : Same H (upd K5 p4 (.lst ((x3 ++ x4) ++ [e5]))) := F_H.trans w5
    replace e_some := w5 _ _ F_es
    replace Y_some := F_Ys.same rf_mono w5
    replace Y_more := (F_Ym.same rf_mono w5).app (.cons (i := 20) ((⟨o5 _ (by rw [e_more]; exact fun z => nomatch z) (.cons F_d .nil), n_OtherSheet _ (List.mem_singleton.mpr rfl)⟩ : Rf K cs "index" d 20 (off K5 p4) e5) |> rf_mono _ _ _ _ v5) .nil)
    replace e_more : (upd K5 p4 (.lst ((x3 ++ x4) ++ [e5]))) p4 = some (.lst ((x3 ++ x4) ++ [e5])) := upd_same
    replace L_more : ((x3 ++ x4) ++ [e5]).length = 7 := by rw [List.length_append, L_more]; rfl
    revert S5 e_some Y_some Y_more e_more
    generalize upd K5 p4 (.lst ((x3 ++ x4) ++ [e5])) = G5
    intro S5 e_some Y_some Y_more e_more
    refine ⟨by show 7 ≤ sizeLine; decide, fun p6 n6 => ?_⟩
    change tSeq _ _ _ [some v, some (.ref p2), some (.ref p4), some (.ref p6), none, none] (upd G5 p6 (.lst (intV [5, 7, 9, 10, 11, 12, 20])))
    have u6 : Same G5 (upd G5 p6 (.lst (intV [5, 7, 9, 10, 11, 12, 20]))) := same_upd n6
    have S6 : Same H (upd G5 p6 (.lst (intV [5, 7, 9, 10, 11, 12, 20]))) := S5.trans u6
    replace e_some := u6 _ _ e_some
    replace Y_some := Y_some.same rf_mono u6
    replace e_more := u6 _ _ e_more
    replace Y_more := Y_more.same rf_mono u6
    have e_places : (upd G5 p6 (.lst (intV [5, 7, 9, 10, 11, 12, 20]))) p6 = some (.lst (intV [5, 7, 9, 10, 11, 12, 20])) := upd_same
    revert S6 e_some Y_some e_more Y_more e_places
    generalize upd G5 p6 (.lst (intV [5, 7, 9, 10, 11, 12, 20])) = G6
    intro S6 e_some Y_some e_more Y_more e_places
    have ls : (x1 ++ x2).length = 7 := L_some
    have lm : ((x3 ++ x4) ++ [e5]).length = 7 := L_more
    refine ⟨.ref p2, rfl, .ref p6, rfl, p2, p6, _, (intV [5, 7, 9, 10, 11, 12, 20]), rfl, .inl (.inl e_some), .inl (.inl e_places), by rw [ls]; rfl, by rw [ls]; decide, fun q1 T1 J1 j1 f1 l1 c1 => ?_⟩
    refine ⟨.ref p4, rfl, .ref p6, rfl, p4, p6, _, (intV [5, 7, 9, 10, 11, 12, 20]), rfl, .inl (.inl (j1 _ _ e_more)), .inl (.inl (j1 _ _ e_places)), by rw [lm]; rfl, by rw [lm]; decide, fun q2 T2 J2 j2 f2 l2 c2 => ?_⟩
    have P1 : ∀ x ∈ T1.map V.ref, Pt (Rf K cs "index" d) J1 x := pt_zip (Y_some.same rf_mono j1) (by decide) l1 c1
    have P2 : ∀ x ∈ T2.map V.ref, Pt (Rf K cs "index" d) J2 x := pt_zip (Y_more.same rf_mono (j1.trans j2)) (by decide) l2 c2
    refine ⟨q1, q2, _, _, rfl, rfl, j2 _ _ f1, f2, ?_, fun q3 nq3 => ?_⟩
    · rw [List.length_map, List.length_map, l1, l2, ls, lm]
      decide
    have u3 : Same J2 (upd J2 q3 (.lst (T1.map V.ref ++ T2.map V.ref))) := same_upd nq3
    have e3 : (upd J2 q3 (.lst (T1.map V.ref ++ T2.map V.ref))) q3 = some (.lst (T1.map V.ref ++ T2.map V.ref)) := upd_same
    have P3 : ∀ x ∈ T1.map V.ref ++ T2.map V.ref, Pt (Rf K cs "index" d) (upd J2 q3 (.lst (T1.map V.ref ++ T2.map V.ref))) x := fun x hx => by
      rcases List.mem_append.mp hx with h | h
      · exact (P1 x h).same rf_mono (j2.trans u3)
      · exact (P2 x h).same rf_mono u3
    have S99 := S6.trans ((j1.trans j2).trans u3)
    revert u3 e3 P3 S99
    generalize upd J2 q3 (.lst (T1.map V.ref ++ T2.map V.ref)) = J3
    generalize T1.map V.ref ++ T2.map V.ref = zs
    intro u3 e3 P3 S99
    refine ⟨q3, rfl, ⟨_, .inl (.inl e3)⟩, ?_⟩
    refine for_list (K := K) (a := q3) (xs := zs) (fun i σ J => ∃ y4 y5, σ = [some v, some (.ref p2), some (.ref p4), some (.ref p6), y4, y5] ∧ Same J3 J) ⟨_, _, rfl, Same.refl J3⟩ (fun i σ J _ h => ?_) ?_ ?_
    · obtain ⟨y4, y5, _, sJ⟩ := h
      exact sJ.seq (.inl (.inl e3))
    · rintro i x σ J hx ⟨y4, y5, rfl, sJ⟩
      obtain ⟨tt, e, j, rfl, ht, hj, hR⟩ := (P3 x (List.mem_of_getElem? hx)).same rf_mono sJ
      refine ⟨tt, _, rfl, .inl (.inl ht), rfl, _, _, rfl, _, _, rfl, rfl, ?_⟩
      refine ⟨_, rfl, _, rfl, e, j, rfl, hj, hR.1.isE, fun J4 s4 => ⟨_, rfl, ?_⟩⟩
      refine iteF ?_
      obtain ⟨a, dx, fs, rfl, h1, h2, h3⟩ := hR.1.same s4
      obtain ⟨y, hl, hy⟩ := h3 _ _ (List.mem_singleton.mpr rfl)
      refine ⟨_, rfl, a, _, dx, fs, y, rfl, h1, h2, TK.xf j (by omega), hR.2, hl, y, d, rfl, hy, z0, z1, z2, ?_⟩
      refine ⟨v, rfl, v, d, rfl, hd.same ((S99.trans sJ).trans s4), z0, z1, z2, rfl, _, rfl, ?_⟩
      rw [decide_eq_true rfl]
      exact iteF ⟨_, _, rfl, sJ.trans s4⟩
    · rintro σ J ⟨y4, y5, rfl, sJ⟩
      exact q J (S99.trans sJ)
end
end K18

set_option Elab.async false
set_option linter.all false
set_option maxRecDepth 100000
set_option maxHeartbeats 4000000
namespace K18
open PySem PySem.Spec PyProof.Rows L2 Lw
section
variable {P : Program} {w : World} {K : PySem.W.Frag} {mg : Str → Option Value} {base : Heap} {f : Addr} {fd : FuncData} {cs : Nat → Addr}
def RfL (K : PySem.W.Frag) (cs : Nat → Addr) (fl : List Str) (ds : List PyData) : Nat → Hp → V → Prop := fun i H v => ExF K H v (cs i) (fl.zip ds) ∧ ∀ x ∈ fl, PySem.W.findIn K (.ref (cs i)) x = some none
theorem rfl_mono {fl : List Str} {ds : List PyData} : Mono (RfL K cs fl ds) := fun _ _ _ _ s h => ⟨h.1.same s, h.2⟩
/-- for e in (C(..), C(.. = ..)) -/
theorem for_two {R : Nat → Hp → V → Prop} (mono : Mono R) {te1 te2 : TE} {tb u : TS} {D : Ends} {H : Hp} {v1 v2 v3 : V} {y0 : Option V} {i : Nat} (m1 : Mk1 R te1 [some v1, some v2, some v3, y0] H i) (m2 : Mk1 R te2 [some v1, some v2, some v3, y0] H i)
    (hb : ∀ (D' : Ends) e G, Same H G → R i G e → (∀ G', Same G G' → D'.nx [some v1, some v2, some v3, some e] G') → tb D' [some v1, some v2, some v3, some e] G)
    (hk : ∀ y G, Same H G → u D [some v1, some v2, some v3, y] G) :
    tSeq (tFor (iTup K (tTup (tCons te1 (tCons te2 tNil)))) (gName 3) tb) u D [some v1, some v2, some v3, y0] H := by
  refine m1 H _ (Same.refl H) fun e1 H1 s1 r1 => m2 H1 _ s1 fun e2 H2 s2 r2 => ⟨by show 2 ≤ sizeLine; decide, fun p np => ?_⟩
  have u3 : Same H2 (upd H2 p (.tup [e1, e2])) := same_upd np
  have hp : (upd H2 p (.tup [e1, e2])) p = some (.tup [e1, e2]) := upd_same
  have q1 := mono _ _ _ _ (s2.trans u3) r1
  have q2 := mono _ _ _ _ u3 r2
  have s3 := (s1.trans s2).trans u3
  revert u3 hp q1 q2 s3
  generalize upd H2 p (.tup [e1, e2]) = H3
  intro u3 hp q1 q2 s3
  refine ⟨p, rfl, ⟨_, .inl (.inl hp)⟩, ?_⟩
  refine for_tup (K := K) (a := p) (xs := [e1, e2]) (fun j σ G => ∃ y, σ = [some v1, some v2, some v3, y] ∧ Same H3 G) ⟨_, rfl, Same.refl H3⟩ (fun j σ G _ h => ?_) ?_ ?_
  · obtain ⟨y, _, sG⟩ := h
    exact same_t sG (.inl (.inl hp))
  · rintro j x σ G hx ⟨y, rfl, sG⟩
    have hR : R i G x := by
      match j, hx with
      | 0, hx =>
        cases hx
        exact mono _ _ _ _ sG q1
      | 1, hx =>
        cases hx
        exact mono _ _ _ _ sG q2
    exact hb _ x G (s3.trans sG) hR fun G' s' => ⟨_, rfl, sG.trans s'⟩
  · rintro σ G ⟨y, rfl, sG⟩
    exact hk y G (s3.trans sG)
/-- nothing is in the way of the next field -/
structure Th (K : PySem.W.Frag) (H : Hp) (v : V) (d : PyData) : Prop where
  q : Dq K H v d
  ok : OkS d
theorem Th.same {H H' : Hp} {v : V} {d : PyData} (h : Th K H v d) (s : Same H H') : Th K H' v d := ⟨h.q.same s, h.ok⟩
def sp_three (K : PySem.W.Frag) : Sp := fun vs H Q _ => ∃ (v1 v2 v3 : V) (d1 d2 d3 : PyData), vs = [v1, v2, v3] ∧ Th K H v1 d1 ∧ Th K H v2 d2 ∧ Th K H v3 d3 ∧ ∀ H', Same H H' → Q (.bl true) H'
theorem line2 {a b : PyData} (h1 : OkS a) (h2 : OkS b) : (PyData.list [a, b]).showable = true ∧ (PyData.list [a, b]).shown.length ≤ sizeLine ∧ (PyData.list [a, b]).depth ≤ 60 := by
  refine Small.line (small_list (n := 5000) fun d hd => ?_) (by show 2 + 2 * 5002 ≤ 100000; decide)
  simp only [List.mem_cons, List.not_mem_nil, or_false] at hd
  rcases hd with rfl | rfl
  · exact ⟨h1.sm, by have := h1.hx.dp; omega⟩
  · exact ⟨h2.sm, by have := h2.hx.dp; omega⟩
theorem line3 {a b c : PyData} (h1 : OkS a) (h2 : OkS b) (h3 : OkS c) : (PyData.list [a, b, c]).showable = true ∧ (PyData.list [a, b, c]).shown.length ≤ sizeLine ∧ (PyData.list [a, b, c]).depth ≤ 60 := by
  refine Small.line (small_list (n := 5000) fun d hd => ?_) (by show 2 + 3 * 5002 ≤ 100000; decide)
  simp only [List.mem_cons, List.not_mem_nil, or_false] at hd
  rcases hd with rfl | rfl | rfl
  · exact ⟨h1.sm, by have := h1.hx.dp; omega⟩
  · exact ⟨h2.sm, by have := h2.hx.dp; omega⟩
  · exact ⟨h3.sm, by have := h3.hx.dp; omega⟩
theorem ok_others_right {fI : Addr} {fdI : FuncData} (F : FnP K "_law_others_right" s_others_right f fd) (T : Tm mg cs) (B : SysOk base) (TK : Tk K cs) (ES : Es P w K mg base cs)
    (Q_NothingToTakeBack : PySem.W.excIn K (cs 24) (tlOf "RuntimeError") "RuntimeError.__new__" = true) (K_NothingToTakeBack : PySem.W.keepIn K (.ref (cs 24)) = true)
    (O_is : Own P w K mg base CX0 2 "_law_is" ["_law_e", "_law_place"] (sp_is cs) fI fdI) : FnG P w K mg base CX0 10 f fd ["_law_thing", "_law_mate", "_law_third"] (sp_three K) := by
  obtain ⟨fI_InvalidText, fd_InvalidText, E_InvalidText, ⟨g_InvalidText, W_InvalidText⟩, n_InvalidText⟩ := ES.InvalidText
  obtain ⟨fI_InvalidCommand, fd_InvalidCommand, E_InvalidCommand, ⟨g_InvalidCommand, W_InvalidCommand⟩, n_InvalidCommand⟩ := ES.InvalidCommand
  obtain ⟨fI_NotFree, fd_NotFree, E_NotFree, ⟨g_NotFree, W_NotFree⟩, n_NotFree⟩ := ES.NotFree
  obtain ⟨fI_NotDetermined, fd_NotDetermined, E_NotDetermined, ⟨g_NotDetermined, W_NotDetermined⟩, n_NotDetermined⟩ := ES.NotDetermined
  obtain ⟨fI_Refused, fd_Refused, E_Refused, ⟨g_Refused, W_Refused⟩, n_Refused⟩ := ES.Refused
  obtain ⟨fI_Impossible, fd_Impossible, E_Impossible, ⟨g_Impossible, W_Impossible⟩, n_Impossible⟩ := ES.Impossible
  obtain ⟨fI_RunFailed, fd_RunFailed, E_RunFailed, ⟨g_RunFailed, W_RunFailed⟩, n_RunFailed⟩ := ES.RunFailed
  obtain ⟨fI_TooMany, fd_TooMany, E_TooMany, ⟨g_TooMany, W_TooMany⟩, n_TooMany⟩ := ES.TooMany
  refine fn_g F sc_others_right (fun vs H Q E h => ?_) (fun cdv A outer s H vs Q E hg hr h => ?_)
  · obtain ⟨v1, v2, v3, d1, d2, d3, rfl, _⟩ := h
    rfl
  · obtain ⟨v1, v2, v3, d1, d2, d3, rfl, t1, t2, t3, q⟩ := h
    obtain ⟨z0, z1, z2⟩ := t1.ok.sm.line (by decide)
    obtain ⟨b0, b1, b2⟩ := line2 t1.ok t2.ok
    obtain ⟨c0, c1, c2⟩ := line3 t1.ok t2.ok t3.ok
    refine ⟨_, PSs.nox (pss_cons (ps_for PassesOwn.never rfl (pi_tup (pe_tup (pa_cons (pe_mkV exb_V E_InvalidText (hr.mono (by first | decide | omega)) (pa_cons (pv 0) pa_nil)) (pa_cons (pe_mkW exb_V E_InvalidText W_InvalidText (hr.mono (by first | decide | omega)) (pk_cons (pv 0) pk_nil)) pa_nil)))) (pg_name (i := 3) sc_others_right.nd rfl (Or.inl rfl)) (pss_one (ps_if (PW.pt (pw_or (pt_not (pt_val (pe_own O_is (hr.mono (by first | decide | omega)) (pa_cons (pv 3) (pa_cons pe_int pa_nil))))) (pw_or1 (pt_cmpR op_ne (pe_callB (call_repr B hg hr.units) (by rfl) T.z_repr (by decide +kernel) (pa_cons (pe_xfE (pv 3)) pa_nil)) (pe_callB (call_repr B hg hr.units) (by rfl) T.z_repr (by decide +kernel) (pa_cons (pv 0) pa_nil)) (nomark _))))) (pss_one (ps_ret pe_bl)) pss_nil)))
      (pss_cons (ps_for PassesOwn.never rfl (pi_tup (pe_tup (pa_cons (pe_mkV exb_V E_InvalidCommand (hr.mono (by first | decide | omega)) (pa_cons (pv 0) pa_nil)) (pa_cons (pe_mkW exb_V E_InvalidCommand W_InvalidCommand (hr.mono (by first | decide | omega)) (pk_cons (pv 0) pk_nil)) pa_nil)))) (pg_name (i := 3) sc_others_right.nd rfl (Or.inl rfl)) (pss_one (ps_if (PW.pt (pw_or (pt_not (pt_val (pe_own O_is (hr.mono (by first | decide | omega)) (pa_cons (pv 3) (pa_cons pe_int pa_nil))))) (pw_or1 (pt_cmpR op_ne (pe_callB (call_repr B hg hr.units) (by rfl) T.z_repr (by decide +kernel) (pa_cons (pe_xfE (pv 3)) pa_nil)) (pe_callB (call_repr B hg hr.units) (by rfl) T.z_repr (by decide +kernel) (pa_cons (pv 0) pa_nil)) (nomark _))))) (pss_one (ps_ret pe_bl)) pss_nil)))
      (pss_cons (ps_for PassesOwn.never rfl (pi_tup (pe_tup (pa_cons (pe_mkV exb_R E_NotFree (hr.mono (by first | decide | omega)) (pa_cons (pv 0) pa_nil)) (pa_cons (pe_mkW exb_R E_NotFree W_NotFree (hr.mono (by first | decide | omega)) (pk_cons (pv 0) pk_nil)) pa_nil)))) (pg_name (i := 3) sc_others_right.nd rfl (Or.inl rfl)) (pss_one (ps_if (PW.pt (pw_or (pt_not (pt_val (pe_own O_is (hr.mono (by first | decide | omega)) (pa_cons (pv 3) (pa_cons pe_int pa_nil))))) (pw_or1 (pt_cmpR op_ne (pe_callB (call_repr B hg hr.units) (by rfl) T.z_repr (by decide +kernel) (pa_cons (pe_xfE (pv 3)) pa_nil)) (pe_callB (call_repr B hg hr.units) (by rfl) T.z_repr (by decide +kernel) (pa_cons (pv 0) pa_nil)) (nomark _))))) (pss_one (ps_ret pe_bl)) pss_nil)))
      (pss_cons (ps_for PassesOwn.never rfl (pi_tup (pe_tup (pa_cons (pe_mkV exb_R E_NotDetermined (hr.mono (by first | decide | omega)) (pa_cons (pv 0) pa_nil)) (pa_cons (pe_mkW exb_R E_NotDetermined W_NotDetermined (hr.mono (by first | decide | omega)) (pk_cons (pv 0) pk_nil)) pa_nil)))) (pg_name (i := 3) sc_others_right.nd rfl (Or.inl rfl)) (pss_one (ps_if (PW.pt (pw_or (pt_not (pt_val (pe_own O_is (hr.mono (by first | decide | omega)) (pa_cons (pv 3) (pa_cons pe_int pa_nil))))) (pw_or1 (pt_cmpR op_ne (pe_callB (call_repr B hg hr.units) (by rfl) T.z_repr (by decide +kernel) (pa_cons (pe_xfE (pv 3)) pa_nil)) (pe_callB (call_repr B hg hr.units) (by rfl) T.z_repr (by decide +kernel) (pa_cons (pv 0) pa_nil)) (nomark _))))) (pss_one (ps_ret pe_bl)) pss_nil)))
      (pss_cons (ps_for PassesOwn.never rfl (pi_tup (pe_tup (pa_cons (pe_mkV exb_R E_Refused (hr.mono (by first | decide | omega)) (pa_cons (pv 0) (pa_cons (pv 1) (pa_cons (pv 2) pa_nil)))) (pa_cons (pe_mkW exb_R E_Refused W_Refused (hr.mono (by first | decide | omega)) (pk_cons (pv 2) (pk_cons (pv 0) (pk_cons (pv 1) pk_nil)))) pa_nil)))) (pg_name (i := 3) sc_others_right.nd rfl (Or.inl rfl)) (pss_one (ps_if (PW.pt (pw_or (pt_not (pt_val (pe_own O_is (hr.mono (by first | decide | omega)) (pa_cons (pv 3) (pa_cons pe_int pa_nil))))) (pw_or1 (pt_cmpR op_ne (pe_callB (call_repr B hg hr.units) (by rfl) T.z_repr (by decide +kernel) (pa_cons (pe_lst (pa_cons (pe_xfE (pv 3)) (pa_cons (pe_xfE (pv 3)) (pa_cons (pe_xfE (pv 3)) pa_nil)))) pa_nil)) (pe_callB (call_repr B hg hr.units) (by rfl) T.z_repr (by decide +kernel) (pa_cons (pe_lst (pa_cons (pv 0) (pa_cons (pv 1) (pa_cons (pv 2) pa_nil)))) pa_nil)) (nomark _))))) (pss_one (ps_ret pe_bl)) pss_nil)))
      (pss_cons (ps_for PassesOwn.never rfl (pi_tup (pe_tup (pa_cons (pe_mkV exb_R E_Impossible (hr.mono (by first | decide | omega)) (pa_cons (pv 0) pa_nil)) (pa_cons (pe_mkW exb_R E_Impossible W_Impossible (hr.mono (by first | decide | omega)) (pk_cons (pv 0) pk_nil)) pa_nil)))) (pg_name (i := 3) sc_others_right.nd rfl (Or.inl rfl)) (pss_one (ps_if (PW.pt (pw_or (pt_not (pt_val (pe_own O_is (hr.mono (by first | decide | omega)) (pa_cons (pv 3) (pa_cons pe_int pa_nil))))) (pw_or1 (pt_cmpR op_ne (pe_callB (call_repr B hg hr.units) (by rfl) T.z_repr (by decide +kernel) (pa_cons (pe_xfE (pv 3)) pa_nil)) (pe_callB (call_repr B hg hr.units) (by rfl) T.z_repr (by decide +kernel) (pa_cons (pv 0) pa_nil)) (nomark _))))) (pss_one (ps_ret pe_bl)) pss_nil)))
      (pss_cons (ps_for PassesOwn.never rfl (pi_tup (pe_tup (pa_cons (pe_mkV exb_R E_RunFailed (hr.mono (by first | decide | omega)) (pa_cons (pv 0) (pa_cons (pv 1) pa_nil))) (pa_cons (pe_mkW exb_R E_RunFailed W_RunFailed (hr.mono (by first | decide | omega)) (pk_cons (pv 1) (pk_cons (pv 0) pk_nil))) pa_nil)))) (pg_name (i := 3) sc_others_right.nd rfl (Or.inl rfl)) (pss_one (ps_if (PW.pt (pw_or (pt_not (pt_val (pe_own O_is (hr.mono (by first | decide | omega)) (pa_cons (pv 3) (pa_cons pe_int pa_nil))))) (pw_or1 (pt_cmpR op_ne (pe_callB (call_repr B hg hr.units) (by rfl) T.z_repr (by decide +kernel) (pa_cons (pe_lst (pa_cons (pe_xfE (pv 3)) (pa_cons (pe_xfE (pv 3)) pa_nil))) pa_nil)) (pe_callB (call_repr B hg hr.units) (by rfl) T.z_repr (by decide +kernel) (pa_cons (pe_lst (pa_cons (pv 0) (pa_cons (pv 1) pa_nil))) pa_nil)) (nomark _))))) (pss_one (ps_ret pe_bl)) pss_nil)))
      (pss_cons (ps_for PassesOwn.never rfl (pi_tup (pe_tup (pa_cons (pe_mkV exb_A E_TooMany (hr.mono (by first | decide | omega)) (pa_cons (pv 0) (pa_cons (pv 1) pa_nil))) (pa_cons (pe_mkW exb_A E_TooMany W_TooMany (hr.mono (by first | decide | omega)) (pk_cons (pv 1) (pk_cons (pv 0) pk_nil))) pa_nil)))) (pg_name (i := 3) sc_others_right.nd rfl (Or.inl rfl)) (pss_one (ps_if (PW.pt (pw_or (pt_not (pt_val (pe_own O_is (hr.mono (by first | decide | omega)) (pa_cons (pv 3) (pa_cons pe_int pa_nil))))) (pw_or1 (pt_cmpR op_ne (pe_callB (call_repr B hg hr.units) (by rfl) T.z_repr (by decide +kernel) (pa_cons (pe_lst (pa_cons (pe_xfE (pv 3)) (pa_cons (pe_xfE (pv 3)) pa_nil))) pa_nil)) (pe_callB (call_repr B hg hr.units) (by rfl) T.z_repr (by decide +kernel) (pa_cons (pe_lst (pa_cons (pv 0) (pa_cons (pv 1) pa_nil))) pa_nil)) (nomark _))))) (pss_one (ps_ret pe_bl)) pss_nil)))
      (pss_one (ps_ret (pe_and (pe_own O_is (hr.mono (by first | decide | omega)) (pa_cons (pe_exc0 exb_R.fb Q_NothingToTakeBack T.m_NothingToTakeBack K_NothingToTakeBack (by rfl)) (pa_cons pe_int pa_nil))) (pe_one (pe_own O_is (hr.mono (by first | decide | omega)) (pa_cons (pe_exc1 exb_R.fb Q_NothingToTakeBack T.m_NothingToTakeBack K_NothingToTakeBack (by rfl) pe_str) (pa_cons pe_int pa_nil))))))))))))))), ?_⟩
    change tSeq _ _ _ [some v1, some v2, some v3, none] H
    have mV0 : ∀ y, Mk1 (RfL K cs ["line"] [d1]) (tMkV (cs 13) (sp_init K (cs 13) ["line"]) (tCons (tVar 0) tNil)) [some v1, some v2, some v3, y] H 13 := fun y H' Q' s' k => by
      refine ⟨_, rfl, by show 1 ≤ 1000; decide, ?_⟩
      exact mk_ok (C := cs 13) (fl := ["line"]) (xs := [v1]) (ds := [d1]) (.cons ((t1.same ((Same.refl H).trans s')).q) .nil) (fun d' h' => by
        simp only [List.mem_cons, List.not_mem_nil, or_false] at h'
        subst h'
        exact t1.ok.hx) rfl fun e H2 s2 x _ => k e H2 s2 ⟨x, n_InvalidText⟩
    have mW0 : ∀ y, Mk1 (RfL K cs ["line"] [d1]) (tMkW (cs 13) 1 (sp_init K (cs 13) ["line"]) (fun vs zs => vs ++ zs) (tCons (tVar 0) tNil)) [some v1, some v2, some v3, y] H 13 := fun y H' Q' s' k => by
      refine ⟨_, rfl, rfl, ?_⟩
      exact mk_ok (C := cs 13) (fl := ["line"]) (xs := [v1]) (ds := [d1]) (.cons ((t1.same ((Same.refl H).trans s')).q) .nil) (fun d' h' => by
        simp only [List.mem_cons, List.not_mem_nil, or_false] at h'
        subst h'
        exact t1.ok.hx) rfl fun e H2 s2 x _ => k e H2 s2 ⟨x, n_InvalidText⟩
    refine for_two (K := K) (R := RfL K cs ["line"] [d1]) rfl_mono (i := 13) (mV0 _) (mW0 _) (fun D' e G sG hR kk => ?_) fun y0 G1 s0 => ?_
    · refine ⟨_, rfl, e, 13, rfl, by decide, hR.1.isE, fun G2 s2 => ⟨_, rfl, ?_⟩⟩
      refine iteF ?_
      obtain ⟨a, dx, fs, rfl, h1, h2, h3⟩ := hR.1.same s2
      obtain ⟨w0, l0, x0⟩ := h3 "line" d1 (by simp)
      refine ⟨_, rfl, a, _, dx, fs, w0, rfl, h1, h2, TK.xf 13 (by decide), hR.2 _ (by simp), l0, w0, d1, rfl, x0, z0, z1, z2, ?_⟩
      refine ⟨v1, rfl, v1, d1, rfl, (t1.same (((Same.refl H).trans sG).trans s2)).q, z0, z1, z2, rfl, _, rfl, ?_⟩
      rw [decide_eq_true rfl]
      exact iteF (kk _ s2)
    have S0_ := (Same.refl H).trans s0
    have mV1 : ∀ y, Mk1 (RfL K cs ["command"] [d1]) (tMkV (cs 14) (sp_init K (cs 14) ["command"]) (tCons (tVar 0) tNil)) [some v1, some v2, some v3, y] G1 14 := fun y H' Q' s' k => by
      refine ⟨_, rfl, by show 1 ≤ 1000; decide, ?_⟩
      exact mk_ok (C := cs 14) (fl := ["command"]) (xs := [v1]) (ds := [d1]) (.cons ((t1.same (S0_.trans s')).q) .nil) (fun d' h' => by
        simp only [List.mem_cons, List.not_mem_nil, or_false] at h'
        subst h'
        exact t1.ok.hx) rfl fun e H2 s2 x _ => k e H2 s2 ⟨x, n_InvalidCommand⟩
    have mW1 : ∀ y, Mk1 (RfL K cs ["command"] [d1]) (tMkW (cs 14) 1 (sp_init K (cs 14) ["command"]) (fun vs zs => vs ++ zs) (tCons (tVar 0) tNil)) [some v1, some v2, some v3, y] G1 14 := fun y H' Q' s' k => by
      refine ⟨_, rfl, rfl, ?_⟩
      exact mk_ok (C := cs 14) (fl := ["command"]) (xs := [v1]) (ds := [d1]) (.cons ((t1.same (S0_.trans s')).q) .nil) (fun d' h' => by
        simp only [List.mem_cons, List.not_mem_nil, or_false] at h'
        subst h'
        exact t1.ok.hx) rfl fun e H2 s2 x _ => k e H2 s2 ⟨x, n_InvalidCommand⟩
    refine for_two (K := K) (R := RfL K cs ["command"] [d1]) rfl_mono (i := 14) (mV1 _) (mW1 _) (fun D' e G sG hR kk => ?_) fun y1 G2 s1 => ?_
    · refine ⟨_, rfl, e, 14, rfl, by decide, hR.1.isE, fun G2 s2 => ⟨_, rfl, ?_⟩⟩
      refine iteF ?_
      obtain ⟨a, dx, fs, rfl, h1, h2, h3⟩ := hR.1.same s2
      obtain ⟨w0, l0, x0⟩ := h3 "command" d1 (by simp)
      refine ⟨_, rfl, a, _, dx, fs, w0, rfl, h1, h2, TK.xf 14 (by decide), hR.2 _ (by simp), l0, w0, d1, rfl, x0, z0, z1, z2, ?_⟩
      refine ⟨v1, rfl, v1, d1, rfl, (t1.same ((S0_.trans sG).trans s2)).q, z0, z1, z2, rfl, _, rfl, ?_⟩
      rw [decide_eq_true rfl]
      exact iteF (kk _ s2)
    have S1_ := S0_.trans s1
    have mV2 : ∀ y, Mk1 (RfL K cs ["given"] [d1]) (tMkV (cs 18) (sp_init K (cs 18) ["given"]) (tCons (tVar 0) tNil)) [some v1, some v2, some v3, y] G2 18 := fun y H' Q' s' k => by
      refine ⟨_, rfl, by show 1 ≤ 1000; decide, ?_⟩
      exact mk_ok (C := cs 18) (fl := ["given"]) (xs := [v1]) (ds := [d1]) (.cons ((t1.same (S1_.trans s')).q) .nil) (fun d' h' => by
        simp only [List.mem_cons, List.not_mem_nil, or_false] at h'
        subst h'
        exact t1.ok.hx) rfl fun e H2 s2 x _ => k e H2 s2 ⟨x, n_NotFree⟩
    have mW2 : ∀ y, Mk1 (RfL K cs ["given"] [d1]) (tMkW (cs 18) 1 (sp_init K (cs 18) ["given"]) (fun vs zs => vs ++ zs) (tCons (tVar 0) tNil)) [some v1, some v2, some v3, y] G2 18 := fun y H' Q' s' k => by
      refine ⟨_, rfl, rfl, ?_⟩
      exact mk_ok (C := cs 18) (fl := ["given"]) (xs := [v1]) (ds := [d1]) (.cons ((t1.same (S1_.trans s')).q) .nil) (fun d' h' => by
        simp only [List.mem_cons, List.not_mem_nil, or_false] at h'
        subst h'
        exact t1.ok.hx) rfl fun e H2 s2 x _ => k e H2 s2 ⟨x, n_NotFree⟩
    refine for_two (K := K) (R := RfL K cs ["given"] [d1]) rfl_mono (i := 18) (mV2 _) (mW2 _) (fun D' e G sG hR kk => ?_) fun y2 G3 s2 => ?_
    · refine ⟨_, rfl, e, 18, rfl, by decide, hR.1.isE, fun G2 s2 => ⟨_, rfl, ?_⟩⟩
      refine iteF ?_
      obtain ⟨a, dx, fs, rfl, h1, h2, h3⟩ := hR.1.same s2
      obtain ⟨w0, l0, x0⟩ := h3 "given" d1 (by simp)
      refine ⟨_, rfl, a, _, dx, fs, w0, rfl, h1, h2, TK.xf 18 (by decide), hR.2 _ (by simp), l0, w0, d1, rfl, x0, z0, z1, z2, ?_⟩
      refine ⟨v1, rfl, v1, d1, rfl, (t1.same ((S1_.trans sG).trans s2)).q, z0, z1, z2, rfl, _, rfl, ?_⟩
      rw [decide_eq_true rfl]
      exact iteF (kk _ s2)
    have S2_ := S1_.trans s2
    have mV3 : ∀ y, Mk1 (RfL K cs ["field"] [d1]) (tMkV (cs 19) (sp_init K (cs 19) ["field"]) (tCons (tVar 0) tNil)) [some v1, some v2, some v3, y] G3 19 := fun y H' Q' s' k => by
      refine ⟨_, rfl, by show 1 ≤ 1000; decide, ?_⟩
      exact mk_ok (C := cs 19) (fl := ["field"]) (xs := [v1]) (ds := [d1]) (.cons ((t1.same (S2_.trans s')).q) .nil) (fun d' h' => by
        simp only [List.mem_cons, List.not_mem_nil, or_false] at h'
        subst h'
        exact t1.ok.hx) rfl fun e H2 s2 x _ => k e H2 s2 ⟨x, n_NotDetermined⟩
    have mW3 : ∀ y, Mk1 (RfL K cs ["field"] [d1]) (tMkW (cs 19) 1 (sp_init K (cs 19) ["field"]) (fun vs zs => vs ++ zs) (tCons (tVar 0) tNil)) [some v1, some v2, some v3, y] G3 19 := fun y H' Q' s' k => by
      refine ⟨_, rfl, rfl, ?_⟩
      exact mk_ok (C := cs 19) (fl := ["field"]) (xs := [v1]) (ds := [d1]) (.cons ((t1.same (S2_.trans s')).q) .nil) (fun d' h' => by
        simp only [List.mem_cons, List.not_mem_nil, or_false] at h'
        subst h'
        exact t1.ok.hx) rfl fun e H2 s2 x _ => k e H2 s2 ⟨x, n_NotDetermined⟩
    refine for_two (K := K) (R := RfL K cs ["field"] [d1]) rfl_mono (i := 19) (mV3 _) (mW3 _) (fun D' e G sG hR kk => ?_) fun y3 G4 s3 => ?_
    · refine ⟨_, rfl, e, 19, rfl, by decide, hR.1.isE, fun G2 s2 => ⟨_, rfl, ?_⟩⟩
      refine iteF ?_
      obtain ⟨a, dx, fs, rfl, h1, h2, h3⟩ := hR.1.same s2
      obtain ⟨w0, l0, x0⟩ := h3 "field" d1 (by simp)
      refine ⟨_, rfl, a, _, dx, fs, w0, rfl, h1, h2, TK.xf 19 (by decide), hR.2 _ (by simp), l0, w0, d1, rfl, x0, z0, z1, z2, ?_⟩
      refine ⟨v1, rfl, v1, d1, rfl, (t1.same ((S2_.trans sG).trans s2)).q, z0, z1, z2, rfl, _, rfl, ?_⟩
      rw [decide_eq_true rfl]
      exact iteF (kk _ s2)
    have S3_ := S2_.trans s3
    have mV4 : ∀ y, Mk1 (RfL K cs ["field", "level", "cause"] [d1, d2, d3]) (tMkV (cs 21) (sp_init K (cs 21) ["field", "level", "cause"]) (tCons (tVar 0) (tCons (tVar 1) (tCons (tVar 2) tNil)))) [some v1, some v2, some v3, y] G4 21 := fun y H' Q' s' k => by
      refine ⟨_, rfl, _, rfl, _, rfl, by show 3 ≤ 1000; decide, ?_⟩
      exact mk_ok (C := cs 21) (fl := ["field", "level", "cause"]) (xs := [v1, v2, v3]) (ds := [d1, d2, d3]) (.cons ((t1.same (S3_.trans s')).q) (.cons ((t2.same (S3_.trans s')).q) (.cons ((t3.same (S3_.trans s')).q) .nil))) (fun d' h' => by
        simp only [List.mem_cons, List.not_mem_nil, or_false] at h'
        rcases h' with rfl | rfl | rfl
        · exact t1.ok.hx
        · exact t2.ok.hx
        · exact t3.ok.hx) rfl fun e H2 s2 x _ => k e H2 s2 ⟨x, n_Refused⟩
    have mW4 : ∀ y, Mk1 (RfL K cs ["field", "level", "cause"] [d1, d2, d3]) (tMkW (cs 21) 3 (sp_init K (cs 21) ["field", "level", "cause"]) rot3 (tCons (tVar 2) (tCons (tVar 0) (tCons (tVar 1) tNil)))) [some v1, some v2, some v3, y] G4 21 := fun y H' Q' s' k => by
      refine ⟨_, rfl, _, rfl, _, rfl, rfl, ?_⟩
      exact mk_ok (C := cs 21) (fl := ["field", "level", "cause"]) (xs := [v1, v2, v3]) (ds := [d1, d2, d3]) (.cons ((t1.same (S3_.trans s')).q) (.cons ((t2.same (S3_.trans s')).q) (.cons ((t3.same (S3_.trans s')).q) .nil))) (fun d' h' => by
        simp only [List.mem_cons, List.not_mem_nil, or_false] at h'
        rcases h' with rfl | rfl | rfl
        · exact t1.ok.hx
        · exact t2.ok.hx
        · exact t3.ok.hx) rfl fun e H2 s2 x _ => k e H2 s2 ⟨x, n_Refused⟩
    refine for_two (K := K) (R := RfL K cs ["field", "level", "cause"] [d1, d2, d3]) rfl_mono (i := 21) (mV4 _) (mW4 _) (fun D' e G sG hR kk => ?_) fun y4 G5 s4 => ?_
    · refine ⟨_, rfl, e, 21, rfl, by decide, hR.1.isE, fun G2 s2 => ⟨_, rfl, ?_⟩⟩
      refine iteF ?_
      obtain ⟨a, dx, fs, rfl, h1, h2, h3⟩ := hR.1.same s2
      obtain ⟨w0, l0, x0⟩ := h3 "field" d1 (by simp)
      obtain ⟨w1, l1, x1⟩ := h3 "level" d2 (by simp)
      obtain ⟨w2, l2, x2⟩ := h3 "cause" d3 (by simp)
      refine ⟨_, rfl, a, _, dx, fs, w0, rfl, h1, h2, TK.xf 21 (by decide), hR.2 _ (by simp), l0, _, rfl, a, _, dx, fs, w1, rfl, h1, h2, TK.xf 21 (by decide), hR.2 _ (by simp), l1, _, rfl, a, _, dx, fs, w2, rfl, h1, h2, TK.xf 21 (by decide), hR.2 _ (by simp), l2, by show 3 ≤ sizeLine; decide, fun p np => ?_⟩
      have u4 : Same G2 (upd G2 p (.lst [w0, w1, w2])) := same_upd np
      refine ⟨.ref p, _, rfl, (.lst (.inl (.inl upd_same)) (.cons (x0.same u4) (.cons (x1.same u4) (.cons (x2.same u4) .nil))) : Dq K _ _ (.list [d1, d2, d3])), c0, c1, c2, ?_⟩
      revert u4
      generalize upd G2 p (.lst [w0, w1, w2]) = G4
      intro u4
      refine ⟨_, rfl, _, rfl, _, rfl, by show 3 ≤ sizeLine; decide, fun p2 np2 => ?_⟩
      refine ⟨.ref p2, _, rfl, (.lst (.inl (.inl upd_same)) (.cons ((t1.same ((((S3_.trans sG).trans s2).trans u4).trans (same_upd np2))).q) (.cons ((t2.same ((((S3_.trans sG).trans s2).trans u4).trans (same_upd np2))).q) (.cons ((t3.same ((((S3_.trans sG).trans s2).trans u4).trans (same_upd np2))).q) .nil))) : Dq K _ _ (.list [d1, d2, d3])), c0, c1, c2, rfl, _, rfl, ?_⟩
      rw [decide_eq_true rfl]
      exact iteF (kk _ ((s2.trans u4).trans (same_upd np2)))
    have S4_ := S3_.trans s4
    have mV5 : ∀ y, Mk1 (RfL K cs ["conflict"] [d1]) (tMkV (cs 22) (sp_init K (cs 22) ["conflict"]) (tCons (tVar 0) tNil)) [some v1, some v2, some v3, y] G5 22 := fun y H' Q' s' k => by
      refine ⟨_, rfl, by show 1 ≤ 1000; decide, ?_⟩
      exact mk_ok (C := cs 22) (fl := ["conflict"]) (xs := [v1]) (ds := [d1]) (.cons ((t1.same (S4_.trans s')).q) .nil) (fun d' h' => by
        simp only [List.mem_cons, List.not_mem_nil, or_false] at h'
        subst h'
        exact t1.ok.hx) rfl fun e H2 s2 x _ => k e H2 s2 ⟨x, n_Impossible⟩
    have mW5 : ∀ y, Mk1 (RfL K cs ["conflict"] [d1]) (tMkW (cs 22) 1 (sp_init K (cs 22) ["conflict"]) (fun vs zs => vs ++ zs) (tCons (tVar 0) tNil)) [some v1, some v2, some v3, y] G5 22 := fun y H' Q' s' k => by
      refine ⟨_, rfl, rfl, ?_⟩
      exact mk_ok (C := cs 22) (fl := ["conflict"]) (xs := [v1]) (ds := [d1]) (.cons ((t1.same (S4_.trans s')).q) .nil) (fun d' h' => by
        simp only [List.mem_cons, List.not_mem_nil, or_false] at h'
        subst h'
        exact t1.ok.hx) rfl fun e H2 s2 x _ => k e H2 s2 ⟨x, n_Impossible⟩
    refine for_two (K := K) (R := RfL K cs ["conflict"] [d1]) rfl_mono (i := 22) (mV5 _) (mW5 _) (fun D' e G sG hR kk => ?_) fun y5 G6 s5 => ?_
    · refine ⟨_, rfl, e, 22, rfl, by decide, hR.1.isE, fun G2 s2 => ⟨_, rfl, ?_⟩⟩
      refine iteF ?_
      obtain ⟨a, dx, fs, rfl, h1, h2, h3⟩ := hR.1.same s2
      obtain ⟨w0, l0, x0⟩ := h3 "conflict" d1 (by simp)
      refine ⟨_, rfl, a, _, dx, fs, w0, rfl, h1, h2, TK.xf 22 (by decide), hR.2 _ (by simp), l0, w0, d1, rfl, x0, z0, z1, z2, ?_⟩
      refine ⟨v1, rfl, v1, d1, rfl, (t1.same ((S4_.trans sG).trans s2)).q, z0, z1, z2, rfl, _, rfl, ?_⟩
      rw [decide_eq_true rfl]
      exact iteF (kk _ s2)
    have S5_ := S4_.trans s5
    have mV6 : ∀ y, Mk1 (RfL K cs ["position", "results"] [d1, d2]) (tMkV (cs 23) (sp_init K (cs 23) ["position", "results"]) (tCons (tVar 0) (tCons (tVar 1) tNil))) [some v1, some v2, some v3, y] G6 23 := fun y H' Q' s' k => by
      refine ⟨_, rfl, _, rfl, by show 2 ≤ 1000; decide, ?_⟩
      exact mk_ok (C := cs 23) (fl := ["position", "results"]) (xs := [v1, v2]) (ds := [d1, d2]) (.cons ((t1.same (S5_.trans s')).q) (.cons ((t2.same (S5_.trans s')).q) .nil)) (fun d' h' => by
        simp only [List.mem_cons, List.not_mem_nil, or_false] at h'
        rcases h' with rfl | rfl
        · exact t1.ok.hx
        · exact t2.ok.hx) rfl fun e H2 s2 x _ => k e H2 s2 ⟨x, n_RunFailed⟩
    have mW6 : ∀ y, Mk1 (RfL K cs ["position", "results"] [d1, d2]) (tMkW (cs 23) 2 (sp_init K (cs 23) ["position", "results"]) rot2 (tCons (tVar 1) (tCons (tVar 0) tNil))) [some v1, some v2, some v3, y] G6 23 := fun y H' Q' s' k => by
      refine ⟨_, rfl, _, rfl, rfl, ?_⟩
      exact mk_ok (C := cs 23) (fl := ["position", "results"]) (xs := [v1, v2]) (ds := [d1, d2]) (.cons ((t1.same (S5_.trans s')).q) (.cons ((t2.same (S5_.trans s')).q) .nil)) (fun d' h' => by
        simp only [List.mem_cons, List.not_mem_nil, or_false] at h'
        rcases h' with rfl | rfl
        · exact t1.ok.hx
        · exact t2.ok.hx) rfl fun e H2 s2 x _ => k e H2 s2 ⟨x, n_RunFailed⟩
    refine for_two (K := K) (R := RfL K cs ["position", "results"] [d1, d2]) rfl_mono (i := 23) (mV6 _) (mW6 _) (fun D' e G sG hR kk => ?_) fun y6 G7 s6 => ?_
    · refine ⟨_, rfl, e, 23, rfl, by decide, hR.1.isE, fun G2 s2 => ⟨_, rfl, ?_⟩⟩
      refine iteF ?_
      obtain ⟨a, dx, fs, rfl, h1, h2, h3⟩ := hR.1.same s2
      obtain ⟨w0, l0, x0⟩ := h3 "position" d1 (by simp)
      obtain ⟨w1, l1, x1⟩ := h3 "results" d2 (by simp)
      refine ⟨_, rfl, a, _, dx, fs, w0, rfl, h1, h2, TK.xf 23 (by decide), hR.2 _ (by simp), l0, _, rfl, a, _, dx, fs, w1, rfl, h1, h2, TK.xf 23 (by decide), hR.2 _ (by simp), l1, by show 2 ≤ sizeLine; decide, fun p np => ?_⟩
      have u4 : Same G2 (upd G2 p (.lst [w0, w1])) := same_upd np
      refine ⟨.ref p, _, rfl, (.lst (.inl (.inl upd_same)) (.cons (x0.same u4) (.cons (x1.same u4) .nil)) : Dq K _ _ (.list [d1, d2])), b0, b1, b2, ?_⟩
      revert u4
      generalize upd G2 p (.lst [w0, w1]) = G4
      intro u4
      refine ⟨_, rfl, _, rfl, by show 2 ≤ sizeLine; decide, fun p2 np2 => ?_⟩
      refine ⟨.ref p2, _, rfl, (.lst (.inl (.inl upd_same)) (.cons ((t1.same ((((S5_.trans sG).trans s2).trans u4).trans (same_upd np2))).q) (.cons ((t2.same ((((S5_.trans sG).trans s2).trans u4).trans (same_upd np2))).q) .nil)) : Dq K _ _ (.list [d1, d2])), b0, b1, b2, rfl, _, rfl, ?_⟩
      rw [decide_eq_true rfl]
      exact iteF (kk _ ((s2.trans u4).trans (same_upd np2)))
    have S6_ := S5_.trans s6
    have mV7 : ∀ y, Mk1 (RfL K cs ["kind", "limit"] [d1, d2]) (tMkV (cs 25) (sp_init K (cs 25) ["kind", "limit"]) (tCons (tVar 0) (tCons (tVar 1) tNil))) [some v1, some v2, some v3, y] G7 25 := fun y H' Q' s' k => by
      refine ⟨_, rfl, _, rfl, by show 2 ≤ 1000; decide, ?_⟩
      exact mk_ok (C := cs 25) (fl := ["kind", "limit"]) (xs := [v1, v2]) (ds := [d1, d2]) (.cons ((t1.same (S6_.trans s')).q) (.cons ((t2.same (S6_.trans s')).q) .nil)) (fun d' h' => by
        simp only [List.mem_cons, List.not_mem_nil, or_false] at h'
        rcases h' with rfl | rfl
        · exact t1.ok.hx
        · exact t2.ok.hx) rfl fun e H2 s2 x _ => k e H2 s2 ⟨x, n_TooMany⟩
    have mW7 : ∀ y, Mk1 (RfL K cs ["kind", "limit"] [d1, d2]) (tMkW (cs 25) 2 (sp_init K (cs 25) ["kind", "limit"]) rot2 (tCons (tVar 1) (tCons (tVar 0) tNil))) [some v1, some v2, some v3, y] G7 25 := fun y H' Q' s' k => by
      refine ⟨_, rfl, _, rfl, rfl, ?_⟩
      exact mk_ok (C := cs 25) (fl := ["kind", "limit"]) (xs := [v1, v2]) (ds := [d1, d2]) (.cons ((t1.same (S6_.trans s')).q) (.cons ((t2.same (S6_.trans s')).q) .nil)) (fun d' h' => by
        simp only [List.mem_cons, List.not_mem_nil, or_false] at h'
        rcases h' with rfl | rfl
        · exact t1.ok.hx
        · exact t2.ok.hx) rfl fun e H2 s2 x _ => k e H2 s2 ⟨x, n_TooMany⟩
    refine for_two (K := K) (R := RfL K cs ["kind", "limit"] [d1, d2]) rfl_mono (i := 25) (mV7 _) (mW7 _) (fun D' e G sG hR kk => ?_) fun y7 G8 s7 => ?_
    · refine ⟨_, rfl, e, 25, rfl, by decide, hR.1.isE, fun G2 s2 => ⟨_, rfl, ?_⟩⟩
      refine iteF ?_
      obtain ⟨a, dx, fs, rfl, h1, h2, h3⟩ := hR.1.same s2
      obtain ⟨w0, l0, x0⟩ := h3 "kind" d1 (by simp)
      obtain ⟨w1, l1, x1⟩ := h3 "limit" d2 (by simp)
      refine ⟨_, rfl, a, _, dx, fs, w0, rfl, h1, h2, TK.xf 25 (by decide), hR.2 _ (by simp), l0, _, rfl, a, _, dx, fs, w1, rfl, h1, h2, TK.xf 25 (by decide), hR.2 _ (by simp), l1, by show 2 ≤ sizeLine; decide, fun p np => ?_⟩
      have u4 : Same G2 (upd G2 p (.lst [w0, w1])) := same_upd np
      refine ⟨.ref p, _, rfl, (.lst (.inl (.inl upd_same)) (.cons (x0.same u4) (.cons (x1.same u4) .nil)) : Dq K _ _ (.list [d1, d2])), b0, b1, b2, ?_⟩
      revert u4
      generalize upd G2 p (.lst [w0, w1]) = G4
      intro u4
      refine ⟨_, rfl, _, rfl, by show 2 ≤ sizeLine; decide, fun p2 np2 => ?_⟩
      refine ⟨.ref p2, _, rfl, (.lst (.inl (.inl upd_same)) (.cons ((t1.same ((((S6_.trans sG).trans s2).trans u4).trans (same_upd np2))).q) (.cons ((t2.same ((((S6_.trans sG).trans s2).trans u4).trans (same_upd np2))).q) .nil)) : Dq K _ _ (.list [d1, d2])), b0, b1, b2, rfl, _, rfl, ?_⟩
      rw [decide_eq_true rfl]
      exact iteF (kk _ ((s2.trans u4).trans (same_upd np2)))
    have S7_ := S6_.trans s7
    refine fun a na => ⟨.ref a, 24, rfl, by decide, ⟨a, rfl, .inr upd_same⟩, fun G9 s9 => ⟨_, rfl, ?_⟩⟩
    refine iteT fun a2 na2 => ⟨.ref a2, 24, rfl, by decide, ⟨a2, rfl, .inr upd_same⟩, fun G10 s10 => ?_⟩
    exact q _ ((S7_.trans ((same_upd na).trans s9)).trans ((same_upd na2).trans s10))
end
end K18

set_option Elab.async false
set_option linter.all false
set_option maxRecDepth 100000
set_option maxHeartbeats 4000000
namespace K18
open PySem PySem.Spec PyProof.Rows L2 Lw
section
variable {P : Program} {w : World} {K : PySem.W.Frag} {mg : Str → Option Value} {base : Heap} {f : Addr} {fd : FuncData} {cs : Nat → Addr}
def sp_plain : Sp := fun vs H Q _ => vs = [] ∧ ∀ H', Same H H' → Q (.bl true) H'
theorem ok_plain_right {fF fB : Addr} {fdF fdB : FuncData} (F : FnP K "_law_plain_right" s_plain_right f fd) (T : Tm mg cs) (B : SysOk base) (TK : Tk K cs)
    (Q_LastheldError : PySem.W.excIn K (cs 27) (tlOf "ValueError") "ValueError.__new__" = true) (K_LastheldError : PySem.W.keepIn K (.ref (cs 27)) = true)
    (Q_MissingError : PySem.W.excIn K (cs 28) (tlOf "LookupError") "LookupError.__new__" = true) (K_MissingError : PySem.W.keepIn K (.ref (cs 28)) = true)
    (Q_StateError : PySem.W.excIn K (cs 29) (tlOf "RuntimeError") "RuntimeError.__new__" = true) (K_StateError : PySem.W.keepIn K (.ref (cs 29)) = true)
    (Q_LimitError : PySem.W.excIn K (cs 30) (tlOf "ArithmeticError") "ArithmeticError.__new__" = true) (K_LimitError : PySem.W.keepIn K (.ref (cs 30)) = true)
    (O_flags : Own P w K mg base CX0 1 "_law_flags" ["_law_e"] (sp_flags cs) fF fdF) (O_bases : Own P w K mg base CX0 1 "_law_bases" ["_law_e"] (sp_bases cs) fB fdB) :
    FnOk P w K mg base CX0 2 f fd [] sp_plain := by
  refine F.ok sc_plain_right (fun vs H Q E h => ?_) (fun cdv A outer s H vs Q E hr h => ?_)
  · obtain ⟨rfl, _⟩ := h
    rfl
  · obtain ⟨rfl, q⟩ := h
    refine ⟨_, PSs.nox (pss_cons (ps_set (i := 0) sc_plain_right.nd rfl (Or.inl rfl) (pe_lst (pa_cons (pe_exc1 exb_V.fb Q_LastheldError T.m_LastheldError K_LastheldError (by rfl) pe_str) (pa_cons (pe_exc1 exb_L.fb Q_MissingError T.m_MissingError K_MissingError (by rfl) pe_str) (pa_cons (pe_exc1 exb_R.fb Q_StateError T.m_StateError K_StateError (by rfl) pe_str) (pa_cons (pe_exc1 exb_A.fb Q_LimitError T.m_LimitError K_LimitError (by rfl) pe_str) pa_nil))))))
      (pss_cons (ps_for PassesOwn.never rfl (pi_enum (by rfl) T.z_enumerate (pa_cons (pv 0) pa_nil)) (pg_tup rfl (pgs_cons (pg_name (i := 1) sc_plain_right.nd rfl (Or.inl rfl)) (pgs_cons (pg_name (i := 2) sc_plain_right.nd rfl (Or.inl rfl)) pgs_nil))) (pss_cons (ps_set (i := 3) sc_plain_right.nd rfl (Or.inl rfl) (pe_op op_rep (pe_lst (pa_cons pe_bl pa_nil)) pe_int))
      (pss_cons (ps_asg pe_bl (pg_sub (pv 3) (pe_op op_mul pe_int (pv 1)) set_list))
      (pss_cons (ps_asg pe_bl (pg_sub (pv 3) (pe_op op_add (pe_op op_mul pe_int (pv 1)) pe_int) set_list))
      (pss_one (ps_if (PW.pt (pw_or (pt_cmpR (op_neE hr.units) (pe_own O_flags (hr.mono (by first | decide | omega)) (pa_cons (pv 2) pa_nil)) (pe_lst pa_nil) (nomark _)) (pw_or1 (pt_cmpR (op_neD hr.units) (pe_own O_bases (hr.mono (by first | decide | omega)) (pa_cons (pv 2) pa_nil)) (pv 3) (nomark _))))) (pss_one (ps_ret pe_bl)) pss_nil))))))
      (pss_one (ps_ret pe_bl)))), ?_⟩
    refine fun a0 n0 a1 n1 a2 n2 a3 n3 => ⟨by show 4 ≤ sizeLine; decide, fun p np => ?_⟩
    have s0 := same_upd n0 (o := ExO (.ref (cs 27)) a0)
    have s1 := same_upd n1 (o := ExO (.ref (cs 28)) a1)
    have s2 := same_upd n2 (o := ExO (.ref (cs 29)) a2)
    have s3 := same_upd n3 (o := ExO (.ref (cs 30)) a3)
    have s4 := same_upd np (o := .lst [.ref a0, .ref a1, .ref a2, .ref a3])
    have e0 : IsE _ (.ref a0) (cs 27) := (IsE.same ⟨a0, rfl, .inr upd_same⟩ (s1.trans (s2.trans (s3.trans s4))) : IsE _ (.ref a0) (cs 27))
    have e1 : IsE _ (.ref a1) (cs 28) := (IsE.same ⟨a1, rfl, .inr upd_same⟩ (s2.trans (s3.trans s4)) : IsE _ (.ref a1) (cs 28))
    have e2 : IsE _ (.ref a2) (cs 29) := (IsE.same ⟨a2, rfl, .inr upd_same⟩ (s3.trans s4) : IsE _ (.ref a2) (cs 29))
    have e3 : IsE _ (.ref a3) (cs 30) := (IsE.same ⟨a3, rfl, .inr upd_same⟩ s4 : IsE _ (.ref a3) (cs 30))
    have S := s0.trans (s1.trans (s2.trans (s3.trans s4)))
    have hp : (upd (upd (upd (upd (upd H a0 (ExO (.ref (cs 27)) a0)) a1 (ExO (.ref (cs 28)) a1)) a2 (ExO (.ref (cs 29)) a2)) a3 (ExO (.ref (cs 30)) a3)) p (.lst [.ref a0, .ref a1, .ref a2, .ref a3])) p = some (.lst [.ref a0, .ref a1, .ref a2, .ref a3]) := upd_same
    clear s0 s1 s2 s3 s4
    change tSeq _ _ _ [some (.ref p), none, none, none] (upd (upd (upd (upd (upd H a0 (ExO (.ref (cs 27)) a0)) a1 (ExO (.ref (cs 28)) a1)) a2 (ExO (.ref (cs 29)) a2)) a3 (ExO (.ref (cs 30)) a3)) p (.lst [.ref a0, .ref a1, .ref a2, .ref a3]))
    revert e0 e1 e2 e3 S hp
    generalize (upd (upd (upd (upd (upd H a0 (ExO (.ref (cs 27)) a0)) a1 (ExO (.ref (cs 28)) a1)) a2 (ExO (.ref (cs 29)) a2)) a3 (ExO (.ref (cs 30)) a3)) p (.lst [.ref a0, .ref a1, .ref a2, .ref a3])) = H1
    intro e0 e1 e2 e3 S hp
    refine ⟨.ref p, rfl, p, _, rfl, .inl (.inl hp), ?_⟩
    refine for_it (walk_enum (K := K) (a := p) (xs := [.ref a0, .ref a1, .ref a2, .ref a3])) (fun j σ G => ∃ x1 x2 x3, σ = [some (.ref p), x1, x2, x3] ∧ Same H1 G) ⟨none, none, none, rfl, Same.refl H1⟩ (fun j σ G _ h => ?_) ?_ ?_
    · obtain ⟨_, _, _, _, sG⟩ := h
      exact sG.seq (.inl (.inl hp))
    · rintro j x σ G G' hj ⟨x1, x2, x3, rfl, sG⟩ hy
      obtain ⟨tt, y1, y2, rfl, nt, rfl, hy1, hy2⟩ := hy
      cases hy1
      have sT : Same G (upd G tt (.tup [.int (j : Int), y2])) := same_upd nt
      have hj4 : j < 4 := hj
      have hE : IsE G y2 (cs (27 + j)) := by
        match j, hj4, hy2 with
        | 0, _, hy2 => cases hy2; exact e0.same sG
        | 1, _, hy2 => cases hy2; exact e1.same sG
        | 2, _, hy2 => cases hy2; exact e2.same sG
        | 3, _, hy2 => cases hy2; exact e3.same sG
      have hg : grp (27 + j) = j := by
        unfold grp
        rw [if_neg (by omega), if_neg (by omega), if_neg (by omega), if_neg (by omega)]
        omega
      have hf : flagsL (27 + j) 27 = [] := by
        unfold flagsL
        rw [if_neg (by omega)]
      have g4 : j = 0 ∨ j = 1 ∨ j = 2 ∨ j = 3 := by omega
      refine ⟨tt, _, rfl, .inl (.inl upd_same), rfl, _, _, rfl, _, _, rfl, rfl, ?_⟩
      have hE2 := hE.same sT
      have sU := sG.trans sT
      revert hE2 sU
      generalize upd G tt (.tup [.int (j : Int), y2]) = G1
      intro hE2 sU
      refine s_due (i := 3) (j := 1) (g := j) g4 rfl (by decide) (by show 3 < 4; decide) fun pd G2 t2 ed => ?_
      refine ⟨y2, rfl, y2, 27 + j, rfl, by omega, hE2.same t2, fun pf G3 t3 ef => ?_⟩
      rw [hf] at ef
      refine ⟨by show 0 ≤ sizeLine; decide, fun pn nn => ?_⟩
      have tn : Same G3 (upd G3 pn (.lst [])) := same_upd nn
      refine ⟨pf, pn, [], rfl, rfl, .inl (.inl (tn _ _ ef)), .inl (.inl upd_same), _, rfl, ?_⟩
      refine iteF ⟨y2, rfl, y2, 27 + j, rfl, by omega, hE2.same ((t2.trans t3).trans tn), fun pb G4 t4 eb => ?_⟩
      rw [hg] at eb
      refine ⟨_, rfl, .list (boolD (basesV j)), .list (boolD (basesV j)), dp_bases eb, dp_bases (t4 _ _ (tn _ _ (t3 _ _ ed))), (eqv_bases g4).2, (eqv_bases g4).2, _, rfl, ?_⟩
      rw [(eqv_bases g4).1]
      exact iteF ⟨_, _, _, rfl, sU.trans ((t2.trans t3).trans (tn.trans t4))⟩
    · rintro σ G ⟨x1, x2, x3, rfl, sG⟩
      exact q G (S.trans sG)
end
end K18

set_option Elab.async false
set_option linter.all false
set_option maxRecDepth 100000
set_option maxHeartbeats 4000000
namespace K18
open PySem PySem.Spec PyProof.Rows L2 Lw
section
variable {P : Program} {w : World} {K : PySem.W.Frag} {mg : Str → Option Value} {base : Heap} {f : Addr} {fd : FuncData} {cs : Nat → Addr}
theorem odds_ok : ∀ d ∈ odds, OkS d := by
  intro d hd
  simp only [odds, odds1, odds2, odds3, List.cons_append, List.nil_append, List.mem_cons, List.not_mem_nil, or_false] at hd
  rcases hd with rfl | rfl | rfl | rfl | rfl | rfl | rfl | rfl | rfl | rfl | rfl | rfl | rfl | rfl | rfl | rfl | rfl | rfl | rfl | rfl | rfl | rfl | rfl | rfl | rfl | rfl | rfl | rfl | rfl
  all_goals
    exact ⟨⟨by decide +kernel, by decide +kernel⟩, ⟨by decide +kernel, by decide +kernel, by decide +kernel⟩⟩
theorem off_new {K : PySem.W.Frag} {H : Hp} {p s : Addr} {o : HO} {xs : List V} (h : SqL K H s xs) (n : H p = none) : SqL K (off (upd H p o) p) s xs := by
  refine Same.seq (fun b u e => ?_) h
  rw [off_ne (ne_of_none e n), upd_ne (ne_of_none e n)]
  exact e
def sp_law (K : PySem.W.Frag) : Sp := fun vs H Q _ => ∃ (s : Addr) (ns : List Int), vs = [.ref s] ∧ SqL K H s (ns.map V.int) ∧ ns.length ≤ 63 ∧ ∀ H', Q (.bl true) H'
theorem ok_law {fP fO fV fL fR fN : Addr} {fdP fdO fdV fdL fdR fdN : FuncData} (F : FnP K "law" s_law f fd) (T : Tz mg) (B : SysOk base)
    (O_pot : Own P w K mg base CX0 1 "_law_pot" ["_law_script", "_law_k"] (sp_pot K) fP fdP)
    (O_odd : Own P w K mg base CX0 2 "_law_odd" ["_law_pot_here"] (sp_odd K) fO fdO)
    (O_values_right : OwnG P w K mg base CX0 10 "_law_values_right" ["_law_thing"] (sp_thing K) fV fdV)
    (O_places_right : OwnG P w K mg base CX0 10 "_law_places_right" ["_law_thing"] (sp_thing K) fL fdL)
    (O_others_right : OwnG P w K mg base CX0 10 "_law_others_right" ["_law_thing", "_law_mate", "_law_third"] (sp_three K) fR fdR)
    (O_plain_right : Own P w K mg base CX0 2 "_law_plain_right" [] sp_plain fN fdN) : FnG P w K mg base CX0 11 f fd ["_law_script"] (sp_law K) := by
  refine fn_g F sc_law (fun vs H Q E h => ?_) (fun cdv A outer s H vs Q E hg hr h => ?_)
  · obtain ⟨a, ns, rfl, _⟩ := h
    rfl
  · obtain ⟨sc, ns, rfl, hS, hl, q⟩ := h
    refine ⟨_, PSs.nox (pss_cons (ps_for PassesOwn.never rfl (pi_range1 (by rfl) T.z_range (pa_cons (pe_callB (call_max2 rfl) (by rfl) T.z_max (by decide +kernel) (pa_cons pe_int (pa_cons (pe_callB (call_min2 rfl) (by rfl) T.z_min (by decide +kernel) (pa_cons pe_int (pa_cons (pe_callB call_len_seq (by rfl) T.z_len (by decide +kernel) (pa_cons (pv 0) pa_nil)) pa_nil))) pa_nil))) pa_nil)) (pg_name (i := 1) sc_law.nd rfl (Or.inl rfl)) (pss_cons (ps_set (i := 2) sc_law.nd rfl (Or.inl rfl) (pe_own O_pot (hr.mono (by first | decide | omega)) (pa_cons (pv 0) (pa_cons (pv 1) pa_nil))))
      (pss_cons (ps_par3 (i := 3) (j := 4) (l := 5) (by rfl) sc_law.nd rfl rfl rfl (by decide) (by decide) (by decide) rfl rfl rfl (pa_cons (pe_own O_odd (hr.mono (by first | decide | omega)) (pa_cons (pv 2) pa_nil)) (pa_cons (pe_own O_odd (hr.mono (by first | decide | omega)) (pa_cons (pv 2) pa_nil)) (pa_cons (pe_own O_odd (hr.mono (by first | decide | omega)) (pa_cons (pv 2) pa_nil)) pa_nil))) (by rfl))
      (pss_one (ps_if (PW.pt (pw_or (pt_not (pt_val (pe_owng O_values_right hg (hr.mono (by first | decide | omega)) (pa_cons (pv 3) pa_nil)))) (pw_or (pt_not (pt_val (pe_owng O_places_right hg (hr.mono (by first | decide | omega)) (pa_cons (pv 4) pa_nil)))) (pw_or1 (pt_not (pt_val (pe_owng O_others_right hg (hr.mono (by first | decide | omega)) (pa_cons (pv 3) (pa_cons (pv 4) (pa_cons (pv 5) pa_nil)))))))))) (pss_one (ps_ret pe_bl)) pss_nil)))))
      (pss_one (ps_ret (pe_own0 O_plain_right (hr.mono (by first | decide | omega)))))), ?_⟩
    refine ⟨.ref sc, rfl, sc, _, rfl, .inl hS, _, _, rfl, _, _, rfl, _, rfl, ?_, ?_, ?_⟩
    · split <;> split <;> omega
    · rw [List.length_map]
      split <;> split <;> omega
    refine for_range (lo := 0) (n := _) (fun _ σ H1 => ∃ x1 x2 x3 x4 x5, σ = [some (.ref sc), x1, x2, x3, x4, x5] ∧ SqL K H1 sc (ns.map V.int)) ⟨none, none, none, none, none, rfl, hS⟩ ?_ ?_
    · rintro i σ H1 hi ⟨x1, x2, x3, x4, x5, rfl, hS1⟩
      have hi1 : i < 1000 := by
        refine Nat.lt_of_lt_of_le hi ?_
        rw [List.length_map]
        split <;> split <;> omega
      refine ⟨.ref sc, rfl, .int i, by show some (some (V.int (0 + i))) = _; rw [Int.zero_add], sc, ns, i, rfl, hS1, hi1, fun a u v na v0 v1 => ?_⟩
      have pa : PotAt (upd H1 a (.lst [.int u, .int v])) a := ⟨u, v, upd_same, v0, v1⟩
      have sa := off_new (o := .lst [.int u, .int v]) hS1 na
      revert pa sa
      generalize upd H1 a (.lst [.int u, .int v]) = H2
      intro pa sa
      refine ⟨.ref a, rfl, a, rfl, pa, fun y1 d1 H3 m1 q1 p1 o1 => ?_⟩
      refine ⟨.ref a, rfl, a, rfl, p1, fun y2 d2 H4 m2 q2 p2 o2 => ?_⟩
      refine ⟨.ref a, rfl, a, rfl, p2, fun y3 d3 H5 m3 q3 p3 o3 => ?_⟩
      have t1 : Th K H5 y1 d1 := ⟨Dq.same off_same (Dq.same (o2.trans o3) q1), odds_ok d1 m1⟩
      have t2 : Th K H5 y2 d2 := ⟨Dq.same off_same (Dq.same o3 q2), odds_ok d2 m2⟩
      have t3 : Th K H5 y3 d3 := ⟨Dq.same off_same q3, odds_ok d3 m3⟩
      have sS : SqL K H5 sc (ns.map V.int) := off_same.seq ((o1.trans (o2.trans o3)).seq sa)
      refine ⟨y1, y2, y3, rfl, y1, rfl, y1, d1, rfl, t1.q, t1.ok, fun H6 s6 => ⟨_, rfl, ?_⟩⟩
      refine iteF ⟨y2, rfl, y2, d2, rfl, (t2.same s6).q, t2.ok, fun H7 s7 => ⟨_, rfl, ?_⟩⟩
      have s67 := s6.trans s7
      refine iteF ⟨y1, rfl, y2, rfl, y3, rfl, y1, y2, y3, d1, d2, d3, rfl, t1.same s67, t2.same s67, t3.same s67, fun H8 s8 => ⟨_, rfl, ?_⟩⟩
      exact iteF ⟨_, _, _, _, _, rfl, (s67.trans s8).seq sS⟩
    · rintro σ H1 ⟨x1, x2, x3, x4, x5, rfl, hS1⟩
      exact ⟨rfl, fun H2 _ => q H2⟩
end
end K18

set_option Elab.async false
set_option linter.all false
set_option maxRecDepth 100000
set_option maxHeartbeats 4000000
namespace K18
open PySem PySem.Spec PyProof.Rows L2 Lw
def nmL : List Str := ["InvalidName", "InvalidNumber", "InvalidLevel", "InvalidClock", "InvalidCount", "InvalidFields", "InvalidEquation", "InvalidEquations", "InvalidSetting", "InvalidSettings", "InvalidPairs", "InvalidWishes", "InvalidNames", "InvalidText", "InvalidCommand", "UnknownField", "UnknownReplica", "UnknownMessage", "NotFree", "NotDetermined", "OtherSheet", "Refused", "Impossible", "RunFailed", "NothingToTakeBack", "TooMany", "NoQuotient", "LastheldError", "MissingError", "StateError", "LimitError"]
def nm (i : Nat) : Str := nmL.getD i ""
def csK (K : PySem.W.Frag) (i : Nat) : Addr := He.ga K (nm i)
def mro1 (K : PySem.W.Frag) (i : Nat) : List Value := .ref (csK K i) :: ((if i < 27 then [.ref (csK K (27 + grp i))] else []) ++ tlOf (bt (grp i)))
/-- the class i: its name, its line of bases -/
def clB (K : PySem.W.Frag) (i : Nat) : Bool := match K.lookup (csK K i) with
  | some ⟨c, _, .cls cd, _⟩ => decide (c = .type "type") && (decide (cd.name = nm i) && decide (cd.mro = mro1 K i))
  | _ => false
def exA (K : PySem.W.Frag) : Bool := (List.range 31).all fun i => clB K i && (excB K (csK K i) && xfB K (csK K i))
def plainL : List (Nat × String × String) := [(24, "RuntimeError", "RuntimeError.__new__"), (27, "ValueError", "ValueError.__new__"), (28, "LookupError", "LookupError.__new__"), (29, "RuntimeError", "RuntimeError.__new__"), (30, "ArithmeticError", "ArithmeticError.__new__")]
def exQ (K : PySem.W.Frag) : Bool := plainL.all fun p => PySem.W.excIn K (csK K p.1) (tlOf p.2.1) p.2.2 && PySem.W.keepIn K (.ref (csK K p.1))
def fieldL : List (Nat × List Str) := [(0, ["value"]), (1, ["value"]), (2, ["value"]), (3, ["value"]), (4, ["value"]), (5, ["index"]), (6, ["value"]), (7, ["index"]), (8, ["value"]), (9, ["index"]), (10, ["index"]), (11, ["index"]), (12, ["index"]), (13, ["line"]), (14, ["command"]), (15, ["value"]), (16, ["value"]), (17, ["value"]), (18, ["given"]), (19, ["field"]), (20, ["index"]), (21, ["field", "level", "cause"]), (22, ["conflict"]), (23, ["position", "results"]), (25, ["kind", "limit"]), (26, ["value"])]
def exF (K : PySem.W.Frag) : Bool := fieldL.all fun p => p.2.all fun x => He.eqO (PySem.W.findIn K (.ref (csK K p.1)) x) (some none)
section
variable {P : Program} {w : World} {K : PySem.W.Frag} {mg : Str → Option Value} {base : Heap} {f : Addr} {fd : FuncData}
structure ClK (K : PySem.W.Frag) (i : Nat) : Prop where
  c : ∃ cd, PySem.W.clsIn K (csK K i) = some cd ∧ cd.name = nm i ∧ cd.mro = mro1 K i
  t : PySem.W.typeIn K (.ref (csK K i)) = some (.type "type")
theorem clB_ok {i : Nat} (h : clB K i = true) : ClK K i := by
  unfold clB at h
  split at h
  · rename_i c d cd sl e
    simp only [Bool.and_eq_true, decide_eq_true_eq] at h
    obtain ⟨rfl, h2, h3⟩ := h
    refine ⟨⟨cd, ?_, h2, h3⟩, ?_⟩
    · unfold PySem.W.clsIn
      rw [e]
    · show (K.lookup (csK K i)).map (·.cls) = _
      rw [e]
      rfl
  · cases h
theorem nm_inj {i j : Nat} (hi : i < 31) (hj : j < 31) (h : nm i = nm j) : i = j := by
  have key : ∀ i, i < 31 → ∀ j, j < 31 → nm i = nm j → i = j := by decide +kernel
  exact key i hi j hj h
theorem cs_inj {i j : Nat} (Ai : ClK K i) (Aj : ClK K j) (hi : i < 31) (hj : j < 31) (h : csK K i = csK K j) : i = j := by
  obtain ⟨c1, e1, n1, _⟩ := Ai.c
  obtain ⟨c2, e2, n2, _⟩ := Aj.c
  rw [h, e2] at e1
  cases e1
  exact nm_inj hi hj (n1.symm.trans n2)
theorem sub_of {i : Nat} (A : ClK K i) (v : Value) : PySem.W.subIn K (.ref (csK K i)) v = some ((mro1 K i).contains v) := by
  obtain ⟨cd, e, _, m⟩ := A.c
  show PySem.W.mroIn K (csK K i) v = _
  unfold PySem.W.mroIn
  rw [e]
  show (if cd.mro.isEmpty = true then none else some (cd.mro.contains v)) = _
  rw [m]
  rfl
theorem ref_beq {a b : Addr} : ((Value.ref a == Value.ref b) = true) ↔ a = b := ⟨fun h => Value.ref.inj (beq_iff_eq.mp h), fun h => by rw [h]; exact beq_self_eq_true _⟩
theorem ref_ty {a : Addr} {T : String} : (Value.ref a == Value.type T) = false := Bool.eq_false_iff.mpr fun h => nomatch beq_iff_eq.mp h
theorem ty_ref {a : Addr} {T : String} : (Value.type T == Value.ref a) = false := Bool.eq_false_iff.mpr fun h => nomatch beq_iff_eq.mp h
theorem kit_ref {i j : Nat} (A : ∀ i, i < 31 → ClK K i) (hi : i < 31) (hj : j < 31) : PySem.W.kitOne K (.ref (csK K i)) (.ref (csK K j)) = some (decide (i = j ∨ (i < 27 ∧ j = 27 + grp i))) := by
  have inj : ∀ {a b : Nat}, a < 31 → b < 31 → csK K a = csK K b → a = b := fun ha hb h => cs_inj (A _ ha) (A _ hb) ha hb h
  have g4 := grp_lt hi
  have hg : 27 + grp i < 31 := by omega
  unfold PySem.W.kitOne
  by_cases hij : i = j
  · subst hij
    rw [if_pos (beq_self_eq_true _), decide_eq_true (Or.inl rfl)]
  · rw [if_neg (fun h => hij (inj hi hj (ref_beq.mp h)))]
    obtain ⟨cd, e, _, _⟩ := (A j hj).c
    have ht := (A j hj).t
    show (if ((PySem.W.clsIn K (csK K j)).isSome && PySem.W.typeIn K (.ref (csK K j)) == some (.type "type")) = true then PySem.W.subIn K (.ref (csK K i)) (.ref (csK K j)) else none) = _
    rw [e, ht, if_pos (by rw [beq_self_eq_true]; rfl), sub_of (A i hi)]
    congr 1
    rw [Bool.eq_iff_iff, decide_eq_true_iff, List.contains_iff_mem]
    unfold mro1
    constructor
    · intro h
      rcases List.mem_cons.mp h with h | h
      · exact .inl (inj hi hj (Value.ref.inj h).symm)
      · rcases List.mem_append.mp h with h | h
        · split at h
          · rename_i h27
            exact .inr ⟨h27, inj hj hg (Value.ref.inj (List.mem_singleton.mp h))⟩
          · cases h
        · simp at h
    · rintro (h | ⟨h, rfl⟩)
      · exact absurd h hij
      · rw [if_pos h]
        exact List.mem_cons_of_mem _ (List.mem_append_left _ (List.mem_singleton.mpr rfl))
theorem bt_meta : ∀ g, g < 4 → PySem.W.kitMeta (bt g) = true := by decide +kernel
theorem bt_in : ∀ g, g < 4 → ∀ h, h < 4 → ((tlOf (bt h)).contains (Value.type (bt g))) = decide (h = g) := by decide +kernel
theorem bt_out : ∀ h, h < 4 → ((tlOf (bt h)).contains (Value.type "KeyError")) = false ∧ ((tlOf (bt h)).contains (Value.type "IndexError")) = false := by decide +kernel
theorem mro_ty {i : Nat} (T : String) : (mro1 K i).contains (Value.type T) = (tlOf (bt (grp i))).contains (Value.type T) := by
  unfold mro1
  rw [List.contains_cons, ty_ref, Bool.false_or]
  split
  · show ((Value.ref _ :: tlOf (bt (grp i))).contains (Value.type T)) = _
    rw [List.contains_cons, ty_ref, Bool.false_or]
  · rfl
theorem kit_ty {i : Nat} (A : ClK K i) {T : String} (m : PySem.W.kitMeta T = true) : PySem.W.kitOne K (.ref (csK K i)) (.type T) = some ((tlOf (bt (grp i))).contains (Value.type T)) := by
  unfold PySem.W.kitOne
  rw [if_neg (by rw [ref_ty]; exact fun h => nomatch h)]
  show (if PySem.W.kitMeta T = true then PySem.W.subIn K (.ref (csK K i)) (.type T) else none) = _
  rw [if_pos m, sub_of A, mro_ty]
theorem tk_of (h : exA K = true) : Tk K (csK K) := by
  have h2 : ∀ i, i < 31 → clB K i = true ∧ excB K (csK K i) = true ∧ xfB K (csK K i) = true := fun i hi => by
    have := List.all_eq_true.mp h i (List.mem_range.mpr hi)
    simpa only [Bool.and_eq_true] using this
  have A : ∀ i, i < 31 → ClK K i := fun i hi => clB_ok (h2 i hi).1
  have gl : ∀ i, i < 31 → grp i < 4 := fun i hi => by have := grp_lt hi; omega
  refine ⟨fun i j hi hj => ?_, fun i g hi hg => ?_, fun i g hi hg => ?_, fun i hi => ?_, fun i hi => excB_ok (h2 i hi).2.1, fun i hi => xfB_ok (h2 i hi).2.2⟩
  · rw [kit_ref A hi (by omega)]
    congr 1
    rw [decide_eq_decide]
    constructor
    · rintro (h | ⟨_, h⟩)
      · exact h
      · omega
    · exact .inl
  · rw [kit_ref A hi (by omega)]
    congr 1
    rw [decide_eq_decide]
    constructor
    · rintro (h | ⟨_, h⟩)
      · subst h
        unfold grp
        rw [if_neg (by omega), if_neg (by omega), if_neg (by omega), if_neg (by omega)]
        omega
      · omega
    · intro h
      by_cases h27 : i < 27
      · exact .inr ⟨h27, by omega⟩
      · refine .inl ?_
        unfold grp at h
        rw [if_neg (by omega), if_neg (by omega), if_neg (by omega), if_neg (by omega)] at h
        omega
  · rw [kit_ty (A i hi) (bt_meta g hg), bt_in g hg _ (gl i hi)]
  · have k1 := kit_ty (A i hi) (T := "KeyError") (by decide +kernel)
    have k2 := kit_ty (A i hi) (T := "IndexError") (by decide +kernel)
    rw [(bt_out _ (gl i hi)).1] at k1
    rw [(bt_out _ (gl i hi)).2] at k2
    unfold PySem.W.kitAny
    rw [k1]
    show PySem.W.kitAny K _ _ = _
    unfold PySem.W.kitAny
    rw [k2]
    rfl
theorem plain_of (h : exQ K = true) {i : Nat} {B n : String} (hm : (i, B, n) ∈ plainL) : PySem.W.excIn K (csK K i) (tlOf B) n = true ∧ PySem.W.keepIn K (.ref (csK K i)) = true := by
  have := List.all_eq_true.mp h _ hm
  simpa only [Bool.and_eq_true] using this
theorem field_of (h : exF K = true) {i : Nat} {fl : List Str} (hm : (i, fl) ∈ fieldL) : ∀ x ∈ fl, PySem.W.findIn K (.ref (csK K i)) x = some none := fun x hx => He.eqO_ok (List.all_eq_true.mp (List.all_eq_true.mp h _ hm) x hx)
/-! ### keywords -/
def g2 : List Value → List Value → List Value
  | us, [b, a] => us ++ [a, b]
  | us, _ => us
def g3 : List Value → List Value → List Value
  | us, [c, a, b] => us ++ [a, b, c]
  | us, _ => us
theorem rot2_rel {vs : List V} {us : List Value} {zs : List V} {ws : List Value} (h : Vals vs us) (r : Vals zs ws) : Vals (rot2 vs zs) (g2 us ws) := by
  match zs, ws, r with
  | [], _, .nil => exact h
  | [_], _, .cons _ .nil => exact h
  | [_, _], _, .cons a (.cons b .nil) => exact h.append (.cons b (.cons a .nil))
  | _ :: _ :: _ :: _, _, .cons a (.cons b (.cons c d)) => exact h
theorem rot3_rel {vs : List V} {us : List Value} {zs : List V} {ws : List Value} (h : Vals vs us) (r : Vals zs ws) : Vals (rot3 vs zs) (g3 us ws) := by
  match zs, ws, r with
  | [], _, .nil => exact h
  | [_], _, .cons _ .nil => exact h
  | [_, _], _, .cons a (.cons b .nil) => exact h
  | [_, _, _], _, .cons a (.cons b (.cons c .nil)) => exact h.append (.cons b (.cons c (.cons a .nil)))
  | _ :: _ :: _ :: _ :: _, _, .cons a (.cons b (.cons c (.cons d e))) => exact h
section
variable {d : IniD} {C : Addr} {x y z : Str}
theorem kbi1 (R : IniR P K mg d C f fd) (h : ∀ (cl : List (Str × Addr)) (doc pm cdv ct u v : Value), bindArgs (PySem.W.fnX d.w.name d.w.qual d.w.params d.w.body d.w.scope cl .none .none doc pm none cdv ct) ⟨[u], [(x, v)]⟩ = pure [(("self" : Str), u), (x, v)]) :
    KBn K fd ["self", x] 1 [x] (fun us ws => us ++ ws) (fun vs zs => vs ++ zs) := by
  obtain ⟨cl, doc, pm, cdv, ct, rfl⟩ := R.b
  refine ⟨fun s us ws X l1 l2 => ?_, fun a b => a.append b⟩
  match us, ws, l1, l2 with
  | [u], [v], _, _ => exact .of_eq (h cl doc pm cdv ct u v)
theorem kbi2 (R : IniR P K mg d C f fd) (h : ∀ (cl : List (Str × Addr)) (doc pm cdv ct u a b : Value), bindArgs (PySem.W.fnX d.w.name d.w.qual d.w.params d.w.body d.w.scope cl .none .none doc pm none cdv ct) ⟨[u], [(y, b), (x, a)]⟩ = pure [(("self" : Str), u), (x, a), (y, b)]) :
    KBn K fd ["self", x, y] 1 [y, x] g2 rot2 := by
  obtain ⟨cl, doc, pm, cdv, ct, rfl⟩ := R.b
  refine ⟨fun s us ws X l1 l2 => ?_, fun a b => rot2_rel a b⟩
  match us, ws, l1, l2 with
  | [u], [b, a], _, _ => exact .of_eq (h cl doc pm cdv ct u a b)
theorem kbi3 (R : IniR P K mg d C f fd) (h : ∀ (cl : List (Str × Addr)) (doc pm cdv ct u a b c : Value), bindArgs (PySem.W.fnX d.w.name d.w.qual d.w.params d.w.body d.w.scope cl .none .none doc pm none cdv ct) ⟨[u], [(z, c), (x, a), (y, b)]⟩ = pure [(("self" : Str), u), (x, a), (y, b), (z, c)]) :
    KBn K fd ["self", x, y, z] 1 [z, x, y] g3 rot3 := by
  obtain ⟨cl, doc, pm, cdv, ct, rfl⟩ := R.b
  refine ⟨fun s us ws X l1 l2 => ?_, fun a b => rot3_rel a b⟩
  match us, ws, l1, l2 with
  | [u], [c, a, b], _, _ => exact .of_eq (h cl doc pm cdv ct u a b c)
end
end
end K18

set_option Elab.async false
set_option linter.all false
set_option maxRecDepth 100000
set_option maxHeartbeats 0
namespace K18
open PySem PySem.Spec PyProof.Rows L2 Lw
def dd (x : Str) (st : Stmt) : He.DefD := ⟨(x, none), x, x, defArgs st, defBody st, defScope st, [], []⟩
def fn : List He.DefD := ([dd "kept" s_kept, dd "_law_pot" s_pot, dd "_law_draw" s_draw, dd "_law_odd" s_odd, dd "_law_flags" s_flags, dd "_law_bases" s_bases, dd "_law_is" s_is, dd "_law_values_right" s_values_right, dd "_law_places_right" s_places_right, dd "_law_others_right" s_others_right, dd "_law_plain_right" s_plain_right, dd "law" s_law] : List He.DefD)
def fa : List He.Fa := ([He.Fa.glo "kept", He.Fa.glo "_law_pot", He.Fa.glo "_law_draw", He.Fa.glo "_law_odd", He.Fa.glo "_law_flags", He.Fa.glo "_law_bases", He.Fa.glo "_law_is", He.Fa.glo "_law_values_right", He.Fa.glo "_law_places_right", He.Fa.glo "_law_others_right", He.Fa.glo "_law_plain_right", He.Fa.glo "law"] : List He.Fa) ++
  ([He.Fa.free "isinstance", He.Fa.free "list", He.Fa.free "tuple", He.Fa.free "dict", He.Fa.free "len", He.Fa.free "repr", He.Fa.free "range", He.Fa.free "max", He.Fa.free "min", He.Fa.free "abs", He.Fa.free "divmod", He.Fa.free "zip"] : List He.Fa) ++
  ([He.Fa.free "enumerate", He.Fa.free "ValueError", He.Fa.free "LookupError", He.Fa.free "RuntimeError", He.Fa.free "ArithmeticError", He.Fa.free "KeyError", He.Fa.free "IndexError", He.Fa.free "super", He.Fa.glo "InvalidName", He.Fa.glo "InvalidNumber", He.Fa.glo "InvalidLevel", He.Fa.glo "InvalidClock"] : List He.Fa) ++
  ([He.Fa.glo "InvalidCount", He.Fa.glo "InvalidFields", He.Fa.glo "InvalidEquation", He.Fa.glo "InvalidEquations", He.Fa.glo "InvalidSetting", He.Fa.glo "InvalidSettings", He.Fa.glo "InvalidPairs", He.Fa.glo "InvalidWishes", He.Fa.glo "InvalidNames", He.Fa.glo "InvalidText", He.Fa.glo "InvalidCommand", He.Fa.glo "UnknownField"] : List He.Fa) ++
  ([He.Fa.glo "UnknownReplica", He.Fa.glo "UnknownMessage", He.Fa.glo "NotFree", He.Fa.glo "NotDetermined", He.Fa.glo "OtherSheet", He.Fa.glo "Refused", He.Fa.glo "Impossible", He.Fa.glo "RunFailed", He.Fa.glo "NothingToTakeBack", He.Fa.glo "TooMany", He.Fa.glo "NoQuotient", He.Fa.glo "LastheldError"] : List He.Fa) ++
  ([He.Fa.glo "MissingError", He.Fa.glo "StateError", He.Fa.glo "LimitError"] : List He.Fa)
def i_InvalidName : IniD := ⟨"InvalidName", W0_InvalidName, "ValueError", "ValueError.__new__", "ValueError.__init__"⟩
def i_InvalidNumber : IniD := ⟨"InvalidNumber", W0_InvalidNumber, "ValueError", "ValueError.__new__", "ValueError.__init__"⟩
def i_InvalidLevel : IniD := ⟨"InvalidLevel", W0_InvalidLevel, "ValueError", "ValueError.__new__", "ValueError.__init__"⟩
def i_InvalidClock : IniD := ⟨"InvalidClock", W0_InvalidClock, "ValueError", "ValueError.__new__", "ValueError.__init__"⟩
def i_InvalidCount : IniD := ⟨"InvalidCount", W0_InvalidCount, "ValueError", "ValueError.__new__", "ValueError.__init__"⟩
def i_InvalidFields : IniD := ⟨"InvalidFields", W0_InvalidFields, "ValueError", "ValueError.__new__", "ValueError.__init__"⟩
def i_InvalidEquation : IniD := ⟨"InvalidEquation", W0_InvalidEquation, "ValueError", "ValueError.__new__", "ValueError.__init__"⟩
def i_InvalidEquations : IniD := ⟨"InvalidEquations", W0_InvalidEquations, "ValueError", "ValueError.__new__", "ValueError.__init__"⟩
def i_InvalidSetting : IniD := ⟨"InvalidSetting", W0_InvalidSetting, "ValueError", "ValueError.__new__", "ValueError.__init__"⟩
def i_InvalidSettings : IniD := ⟨"InvalidSettings", W0_InvalidSettings, "ValueError", "ValueError.__new__", "ValueError.__init__"⟩
def i_InvalidPairs : IniD := ⟨"InvalidPairs", W0_InvalidPairs, "ValueError", "ValueError.__new__", "ValueError.__init__"⟩
def i_InvalidWishes : IniD := ⟨"InvalidWishes", W0_InvalidWishes, "ValueError", "ValueError.__new__", "ValueError.__init__"⟩
def i_InvalidNames : IniD := ⟨"InvalidNames", W0_InvalidNames, "ValueError", "ValueError.__new__", "ValueError.__init__"⟩
def i_InvalidText : IniD := ⟨"InvalidText", W0_InvalidText, "ValueError", "ValueError.__new__", "ValueError.__init__"⟩
def i_InvalidCommand : IniD := ⟨"InvalidCommand", W0_InvalidCommand, "ValueError", "ValueError.__new__", "ValueError.__init__"⟩
def i_UnknownField : IniD := ⟨"UnknownField", W0_UnknownField, "LookupError", "LookupError.__new__", "LookupError.__init__"⟩
def i_UnknownReplica : IniD := ⟨"UnknownReplica", W0_UnknownReplica, "LookupError", "LookupError.__new__", "LookupError.__init__"⟩
def i_UnknownMessage : IniD := ⟨"UnknownMessage", W0_UnknownMessage, "LookupError", "LookupError.__new__", "LookupError.__init__"⟩
def i_NotFree : IniD := ⟨"NotFree", W0_NotFree, "RuntimeError", "RuntimeError.__new__", "RuntimeError.__init__"⟩
def i_NotDetermined : IniD := ⟨"NotDetermined", W0_NotDetermined, "RuntimeError", "RuntimeError.__new__", "RuntimeError.__init__"⟩
def i_OtherSheet : IniD := ⟨"OtherSheet", W0_OtherSheet, "RuntimeError", "RuntimeError.__new__", "RuntimeError.__init__"⟩
def i_Refused : IniD := ⟨"Refused", W0_Refused, "RuntimeError", "RuntimeError.__new__", "RuntimeError.__init__"⟩
def i_Impossible : IniD := ⟨"Impossible", W0_Impossible, "RuntimeError", "RuntimeError.__new__", "RuntimeError.__init__"⟩
def i_RunFailed : IniD := ⟨"RunFailed", W0_RunFailed, "RuntimeError", "RuntimeError.__new__", "RuntimeError.__init__"⟩
def i_TooMany : IniD := ⟨"TooMany", W0_TooMany, "ArithmeticError", "ArithmeticError.__new__", "ArithmeticError.__init__"⟩
def i_NoQuotient : IniD := ⟨"NoQuotient", W0_NoQuotient, "ArithmeticError", "ArithmeticError.__new__", "ArithmeticError.__init__"⟩
def ex (K : PySem.W.Frag) : Bool :=
  exA K && (exQ K && (exF K))
abbrev R : PySem.W.OpenRow := PySem.W.OpenLaw.row PySem.Challenge.rw_lastheld_k18_errors_made
abbrev hk : PySem.W.Hook := hookW 6 (R.prog.main.file : Str) fa fn [i_InvalidName, i_InvalidNumber, i_InvalidLevel, i_InvalidClock, i_InvalidCount, i_InvalidFields, i_InvalidEquation, i_InvalidEquations, i_InvalidSetting, i_InvalidSettings, i_InvalidPairs, i_InvalidWishes, i_InvalidNames, i_InvalidText, i_InvalidCommand, i_UnknownField, i_UnknownReplica, i_UnknownMessage, i_NotFree, i_NotDetermined, i_OtherSheet, i_Refused, i_Impossible, i_RunFailed, i_TooMany, i_NoQuotient] ex
def ob (s : PySem.W.SharedT) : AlW := obsWG 6 (R.prog.main.file : Str) fa fn [i_InvalidName, i_InvalidNumber, i_InvalidLevel, i_InvalidClock, i_InvalidCount, i_InvalidFields, i_InvalidEquation, i_InvalidEquations, i_InvalidSetting, i_InvalidSettings, i_InvalidPairs, i_InvalidWishes, i_InvalidNames, i_InvalidText, i_InvalidCommand, i_UnknownField, i_UnknownReplica, i_UnknownMessage, i_NotFree, i_NotDetermined, i_OtherSheet, i_Refused, i_Impossible, i_RunFailed, i_TooMany, i_NoQuotient] ex (HandSHeadRun.getT s)
theorem ob_eq (s : PySem.W.SharedT) : ob s = hk.obs s.abs := obsWG_eq (HandSHeadRun.getT_eq s)
abbrev names : List Str := (["kept", "LastheldError", "InvalidName", "InvalidNumber", "InvalidLevel", "InvalidClock", "InvalidCount", "InvalidFields", "InvalidEquation", "InvalidEquations", "InvalidSetting", "InvalidSettings"] : List Str) ++
  (["InvalidPairs", "InvalidWishes", "InvalidNames", "InvalidText", "InvalidCommand", "MissingError", "UnknownField", "UnknownReplica", "UnknownMessage", "StateError", "NotFree", "NotDetermined"] : List Str) ++
  (["OtherSheet", "Refused", "Impossible", "RunFailed", "NothingToTakeBack", "LimitError", "TooMany", "NoQuotient", "_law_pot", "_law_draw", "_law_odd", "_law_flags"] : List Str) ++
  (["_law_bases", "_law_is", "_law_values_right", "_law_places_right", "_law_others_right", "_law_plain_right"] : List Str)
theorem run (w : World) : HandSHeadRun.RunEq R (PySem.W.view R.prog [44]) hk ob 40000 names w := by
  intro os
  kernel_rfl
end K18

set_option Elab.async false
set_option linter.all false
set_option maxRecDepth 100000
set_option maxHeartbeats 0
namespace K18
open PySem PySem.Spec PyProof.Rows L2 Lw
theorem F_i_InvalidName : IniF R.prog i_InvalidName := ⟨by kernel_rfl, by kernel_rfl, by kernel_rfl, by kernel_rfl, by kernel_rfl, by kernel_rfl⟩
theorem F_i_InvalidNumber : IniF R.prog i_InvalidNumber := ⟨by kernel_rfl, by kernel_rfl, by kernel_rfl, by kernel_rfl, by kernel_rfl, by kernel_rfl⟩
theorem F_i_InvalidLevel : IniF R.prog i_InvalidLevel := ⟨by kernel_rfl, by kernel_rfl, by kernel_rfl, by kernel_rfl, by kernel_rfl, by kernel_rfl⟩
theorem F_i_InvalidClock : IniF R.prog i_InvalidClock := ⟨by kernel_rfl, by kernel_rfl, by kernel_rfl, by kernel_rfl, by kernel_rfl, by kernel_rfl⟩
theorem F_i_InvalidCount : IniF R.prog i_InvalidCount := ⟨by kernel_rfl, by kernel_rfl, by kernel_rfl, by kernel_rfl, by kernel_rfl, by kernel_rfl⟩
theorem F_i_InvalidFields : IniF R.prog i_InvalidFields := ⟨by kernel_rfl, by kernel_rfl, by kernel_rfl, by kernel_rfl, by kernel_rfl, by kernel_rfl⟩
theorem F_i_InvalidEquation : IniF R.prog i_InvalidEquation := ⟨by kernel_rfl, by kernel_rfl, by kernel_rfl, by kernel_rfl, by kernel_rfl, by kernel_rfl⟩
theorem F_i_InvalidEquations : IniF R.prog i_InvalidEquations := ⟨by kernel_rfl, by kernel_rfl, by kernel_rfl, by kernel_rfl, by kernel_rfl, by kernel_rfl⟩
theorem F_i_InvalidSetting : IniF R.prog i_InvalidSetting := ⟨by kernel_rfl, by kernel_rfl, by kernel_rfl, by kernel_rfl, by kernel_rfl, by kernel_rfl⟩
theorem F_i_InvalidSettings : IniF R.prog i_InvalidSettings := ⟨by kernel_rfl, by kernel_rfl, by kernel_rfl, by kernel_rfl, by kernel_rfl, by kernel_rfl⟩
theorem F_i_InvalidPairs : IniF R.prog i_InvalidPairs := ⟨by kernel_rfl, by kernel_rfl, by kernel_rfl, by kernel_rfl, by kernel_rfl, by kernel_rfl⟩
theorem F_i_InvalidWishes : IniF R.prog i_InvalidWishes := ⟨by kernel_rfl, by kernel_rfl, by kernel_rfl, by kernel_rfl, by kernel_rfl, by kernel_rfl⟩
theorem F_i_InvalidNames : IniF R.prog i_InvalidNames := ⟨by kernel_rfl, by kernel_rfl, by kernel_rfl, by kernel_rfl, by kernel_rfl, by kernel_rfl⟩
theorem F_i_InvalidText : IniF R.prog i_InvalidText := ⟨by kernel_rfl, by kernel_rfl, by kernel_rfl, by kernel_rfl, by kernel_rfl, by kernel_rfl⟩
theorem F_i_InvalidCommand : IniF R.prog i_InvalidCommand := ⟨by kernel_rfl, by kernel_rfl, by kernel_rfl, by kernel_rfl, by kernel_rfl, by kernel_rfl⟩
theorem F_i_UnknownField : IniF R.prog i_UnknownField := ⟨by kernel_rfl, by kernel_rfl, by kernel_rfl, by kernel_rfl, by kernel_rfl, by kernel_rfl⟩
theorem F_i_UnknownReplica : IniF R.prog i_UnknownReplica := ⟨by kernel_rfl, by kernel_rfl, by kernel_rfl, by kernel_rfl, by kernel_rfl, by kernel_rfl⟩
theorem F_i_UnknownMessage : IniF R.prog i_UnknownMessage := ⟨by kernel_rfl, by kernel_rfl, by kernel_rfl, by kernel_rfl, by kernel_rfl, by kernel_rfl⟩
theorem F_i_NotFree : IniF R.prog i_NotFree := ⟨by kernel_rfl, by kernel_rfl, by kernel_rfl, by kernel_rfl, by kernel_rfl, by kernel_rfl⟩
theorem F_i_NotDetermined : IniF R.prog i_NotDetermined := ⟨by kernel_rfl, by kernel_rfl, by kernel_rfl, by kernel_rfl, by kernel_rfl, by kernel_rfl⟩
theorem F_i_OtherSheet : IniF R.prog i_OtherSheet := ⟨by kernel_rfl, by kernel_rfl, by kernel_rfl, by kernel_rfl, by kernel_rfl, by kernel_rfl⟩
theorem F_i_Refused : IniF R.prog i_Refused := ⟨by kernel_rfl, by kernel_rfl, by kernel_rfl, by kernel_rfl, by kernel_rfl, by kernel_rfl⟩
theorem F_i_Impossible : IniF R.prog i_Impossible := ⟨by kernel_rfl, by kernel_rfl, by kernel_rfl, by kernel_rfl, by kernel_rfl, by kernel_rfl⟩
theorem F_i_RunFailed : IniF R.prog i_RunFailed := ⟨by kernel_rfl, by kernel_rfl, by kernel_rfl, by kernel_rfl, by kernel_rfl, by kernel_rfl⟩
theorem F_i_TooMany : IniF R.prog i_TooMany := ⟨by kernel_rfl, by kernel_rfl, by kernel_rfl, by kernel_rfl, by kernel_rfl, by kernel_rfl⟩
theorem F_i_NoQuotient : IniF R.prog i_NoQuotient := ⟨by kernel_rfl, by kernel_rfl, by kernel_rfl, by kernel_rfl, by kernel_rfl, by kernel_rfl⟩
theorem facts {w : World} {K : PySem.W.Frag} {h : Heap} {mg : Str → Option Value} {f : Addr} (X : K.In h) (G : h.Ns mainGlobals mg) (hfa : mg ("law" : Str) = some (.ref f)) (cw : SaysW (R.prog.main.file : Str) fa fn [i_InvalidName, i_InvalidNumber, i_InvalidLevel, i_InvalidClock, i_InvalidCount, i_InvalidFields, i_InvalidEquation, i_InvalidEquations, i_InvalidSetting, i_InvalidSettings, i_InvalidPairs, i_InvalidWishes, i_InvalidNames, i_InvalidText, i_InvalidCommand, i_UnknownField, i_UnknownReplica, i_UnknownMessage, i_NotFree, i_NotDetermined, i_OtherSheet, i_Refused, i_Impossible, i_RunFailed, i_TooMany, i_NoQuotient] ex K) :
    ∃ fd : FuncData, (∀ (s : Shared) (v : Value), BindsTo s fd ⟨[v], []⟩ [("_law_script", v)]) ∧ ∀ base : Heap, K.In base → base.Ns mainGlobals mg → SysOk base → FnG R.prog w K mg base CX0 11 f fd ["_law_script"] (sp_law K) := by
  have c := cw.d
  obtain ⟨fd_kept, F_kept⟩ := c.def_ 0 (d := dd "kept" s_kept) rfl
  have m_kept := He.glo_ok X G (c.fact 0 (f := .glo "kept") rfl)
  obtain ⟨fd_pot, F_pot⟩ := c.def_ 1 (d := dd "_law_pot" s_pot) rfl
  have m_pot := He.glo_ok X G (c.fact 1 (f := .glo "_law_pot") rfl)
  obtain ⟨fd_draw, F_draw⟩ := c.def_ 2 (d := dd "_law_draw" s_draw) rfl
  have m_draw := He.glo_ok X G (c.fact 2 (f := .glo "_law_draw") rfl)
  obtain ⟨fd_odd, F_odd⟩ := c.def_ 3 (d := dd "_law_odd" s_odd) rfl
  have m_odd := He.glo_ok X G (c.fact 3 (f := .glo "_law_odd") rfl)
  obtain ⟨fd_flags, F_flags⟩ := c.def_ 4 (d := dd "_law_flags" s_flags) rfl
  have m_flags := He.glo_ok X G (c.fact 4 (f := .glo "_law_flags") rfl)
  obtain ⟨fd_bases, F_bases⟩ := c.def_ 5 (d := dd "_law_bases" s_bases) rfl
  have m_bases := He.glo_ok X G (c.fact 5 (f := .glo "_law_bases") rfl)
  obtain ⟨fd_is, F_is⟩ := c.def_ 6 (d := dd "_law_is" s_is) rfl
  have m_is := He.glo_ok X G (c.fact 6 (f := .glo "_law_is") rfl)
  obtain ⟨fd_values_right, F_values_right⟩ := c.def_ 7 (d := dd "_law_values_right" s_values_right) rfl
  have m_values_right := He.glo_ok X G (c.fact 7 (f := .glo "_law_values_right") rfl)
  obtain ⟨fd_places_right, F_places_right⟩ := c.def_ 8 (d := dd "_law_places_right" s_places_right) rfl
  have m_places_right := He.glo_ok X G (c.fact 8 (f := .glo "_law_places_right") rfl)
  obtain ⟨fd_others_right, F_others_right⟩ := c.def_ 9 (d := dd "_law_others_right" s_others_right) rfl
  have m_others_right := He.glo_ok X G (c.fact 9 (f := .glo "_law_others_right") rfl)
  obtain ⟨fd_plain_right, F_plain_right⟩ := c.def_ 10 (d := dd "_law_plain_right" s_plain_right) rfl
  have m_plain_right := He.glo_ok X G (c.fact 10 (f := .glo "_law_plain_right") rfl)
  obtain ⟨fd_law, F_law⟩ := c.def_ 11 (d := dd "law" s_law) rfl
  have m_law := He.glo_ok X G (c.fact 11 (f := .glo "law") rfl)
  have e := hfa.symm.trans m_law
  cases e
  have T : Tz mg := ⟨He.free_ok X G (c.fact 12 rfl), He.free_ok X G (c.fact 13 rfl), He.free_ok X G (c.fact 14 rfl), He.free_ok X G (c.fact 15 rfl), He.free_ok X G (c.fact 16 rfl), He.free_ok X G (c.fact 17 rfl), He.free_ok X G (c.fact 18 rfl), He.free_ok X G (c.fact 19 rfl), He.free_ok X G (c.fact 20 rfl), He.free_ok X G (c.fact 21 rfl), He.free_ok X G (c.fact 22 rfl), He.free_ok X G (c.fact 23 rfl), He.free_ok X G (c.fact 24 rfl), He.free_ok X G (c.fact 25 rfl), He.free_ok X G (c.fact 26 rfl), He.free_ok X G (c.fact 27 rfl), He.free_ok X G (c.fact 28 rfl), He.free_ok X G (c.fact 29 rfl), He.free_ok X G (c.fact 30 rfl), He.free_ok X G (c.fact 31 rfl)⟩
  have k_InvalidName := He.glo_ok X G (c.fact 32 (f := .glo "InvalidName") rfl)
  have k_InvalidNumber := He.glo_ok X G (c.fact 33 (f := .glo "InvalidNumber") rfl)
  have k_InvalidLevel := He.glo_ok X G (c.fact 34 (f := .glo "InvalidLevel") rfl)
  have k_InvalidClock := He.glo_ok X G (c.fact 35 (f := .glo "InvalidClock") rfl)
  have k_InvalidCount := He.glo_ok X G (c.fact 36 (f := .glo "InvalidCount") rfl)
  have k_InvalidFields := He.glo_ok X G (c.fact 37 (f := .glo "InvalidFields") rfl)
  have k_InvalidEquation := He.glo_ok X G (c.fact 38 (f := .glo "InvalidEquation") rfl)
  have k_InvalidEquations := He.glo_ok X G (c.fact 39 (f := .glo "InvalidEquations") rfl)
  have k_InvalidSetting := He.glo_ok X G (c.fact 40 (f := .glo "InvalidSetting") rfl)
  have k_InvalidSettings := He.glo_ok X G (c.fact 41 (f := .glo "InvalidSettings") rfl)
  have k_InvalidPairs := He.glo_ok X G (c.fact 42 (f := .glo "InvalidPairs") rfl)
  have k_InvalidWishes := He.glo_ok X G (c.fact 43 (f := .glo "InvalidWishes") rfl)
  have k_InvalidNames := He.glo_ok X G (c.fact 44 (f := .glo "InvalidNames") rfl)
  have k_InvalidText := He.glo_ok X G (c.fact 45 (f := .glo "InvalidText") rfl)
  have k_InvalidCommand := He.glo_ok X G (c.fact 46 (f := .glo "InvalidCommand") rfl)
  have k_UnknownField := He.glo_ok X G (c.fact 47 (f := .glo "UnknownField") rfl)
  have k_UnknownReplica := He.glo_ok X G (c.fact 48 (f := .glo "UnknownReplica") rfl)
  have k_UnknownMessage := He.glo_ok X G (c.fact 49 (f := .glo "UnknownMessage") rfl)
  have k_NotFree := He.glo_ok X G (c.fact 50 (f := .glo "NotFree") rfl)
  have k_NotDetermined := He.glo_ok X G (c.fact 51 (f := .glo "NotDetermined") rfl)
  have k_OtherSheet := He.glo_ok X G (c.fact 52 (f := .glo "OtherSheet") rfl)
  have k_Refused := He.glo_ok X G (c.fact 53 (f := .glo "Refused") rfl)
  have k_Impossible := He.glo_ok X G (c.fact 54 (f := .glo "Impossible") rfl)
  have k_RunFailed := He.glo_ok X G (c.fact 55 (f := .glo "RunFailed") rfl)
  have k_NothingToTakeBack := He.glo_ok X G (c.fact 56 (f := .glo "NothingToTakeBack") rfl)
  have k_TooMany := He.glo_ok X G (c.fact 57 (f := .glo "TooMany") rfl)
  have k_NoQuotient := He.glo_ok X G (c.fact 58 (f := .glo "NoQuotient") rfl)
  have k_LastheldError := He.glo_ok X G (c.fact 59 (f := .glo "LastheldError") rfl)
  have k_MissingError := He.glo_ok X G (c.fact 60 (f := .glo "MissingError") rfl)
  have k_StateError := He.glo_ok X G (c.fact 61 (f := .glo "StateError") rfl)
  have k_LimitError := He.glo_ok X G (c.fact 62 (f := .glo "LimitError") rfl)
  obtain ⟨fd_i_InvalidName, R_i_InvalidName⟩ := ini_of (d := i_InvalidName) X G T.z_super F_i_InvalidName (cw.i i_InvalidName (List.mem_cons_self ..)).2 (cw.i i_InvalidName (List.mem_cons_self ..)).1
  obtain ⟨cc_i_InvalidName, cda_i_InvalidName, S_i_InvalidName⟩ := R_i_InvalidName.s
  obtain ⟨fd_i_InvalidNumber, R_i_InvalidNumber⟩ := ini_of (d := i_InvalidNumber) X G T.z_super F_i_InvalidNumber (cw.i i_InvalidNumber (List.mem_cons_of_mem _ (List.mem_cons_self ..))).2 (cw.i i_InvalidNumber (List.mem_cons_of_mem _ (List.mem_cons_self ..))).1
  obtain ⟨cc_i_InvalidNumber, cda_i_InvalidNumber, S_i_InvalidNumber⟩ := R_i_InvalidNumber.s
  obtain ⟨fd_i_InvalidLevel, R_i_InvalidLevel⟩ := ini_of (d := i_InvalidLevel) X G T.z_super F_i_InvalidLevel (cw.i i_InvalidLevel (List.mem_cons_of_mem _ (List.mem_cons_of_mem _ (List.mem_cons_self ..)))).2 (cw.i i_InvalidLevel (List.mem_cons_of_mem _ (List.mem_cons_of_mem _ (List.mem_cons_self ..)))).1
  obtain ⟨cc_i_InvalidLevel, cda_i_InvalidLevel, S_i_InvalidLevel⟩ := R_i_InvalidLevel.s
  obtain ⟨fd_i_InvalidClock, R_i_InvalidClock⟩ := ini_of (d := i_InvalidClock) X G T.z_super F_i_InvalidClock (cw.i i_InvalidClock (List.mem_cons_of_mem _ (List.mem_cons_of_mem _ (List.mem_cons_of_mem _ (List.mem_cons_self ..))))).2 (cw.i i_InvalidClock (List.mem_cons_of_mem _ (List.mem_cons_of_mem _ (List.mem_cons_of_mem _ (List.mem_cons_self ..))))).1
  obtain ⟨cc_i_InvalidClock, cda_i_InvalidClock, S_i_InvalidClock⟩ := R_i_InvalidClock.s
  obtain ⟨fd_i_InvalidCount, R_i_InvalidCount⟩ := ini_of (d := i_InvalidCount) X G T.z_super F_i_InvalidCount (cw.i i_InvalidCount (List.mem_cons_of_mem _ (List.mem_cons_of_mem _ (List.mem_cons_of_mem _ (List.mem_cons_of_mem _ (List.mem_cons_self ..)))))).2 (cw.i i_InvalidCount (List.mem_cons_of_mem _ (List.mem_cons_of_mem _ (List.mem_cons_of_mem _ (List.mem_cons_of_mem _ (List.mem_cons_self ..)))))).1
  obtain ⟨cc_i_InvalidCount, cda_i_InvalidCount, S_i_InvalidCount⟩ := R_i_InvalidCount.s
  obtain ⟨fd_i_InvalidFields, R_i_InvalidFields⟩ := ini_of (d := i_InvalidFields) X G T.z_super F_i_InvalidFields (cw.i i_InvalidFields (List.mem_cons_of_mem _ (List.mem_cons_of_mem _ (List.mem_cons_of_mem _ (List.mem_cons_of_mem _ (List.mem_cons_of_mem _ (List.mem_cons_self ..))))))).2 (cw.i i_InvalidFields (List.mem_cons_of_mem _ (List.mem_cons_of_mem _ (List.mem_cons_of_mem _ (List.mem_cons_of_mem _ (List.mem_cons_of_mem _ (List.mem_cons_self ..))))))).1
  obtain ⟨cc_i_InvalidFields, cda_i_InvalidFields, S_i_InvalidFields⟩ := R_i_InvalidFields.s
  obtain ⟨fd_i_InvalidEquation, R_i_InvalidEquation⟩ := ini_of (d := i_InvalidEquation) X G T.z_super F_i_InvalidEquation (cw.i i_InvalidEquation (List.mem_cons_of_mem _ (List.mem_cons_of_mem _ (List.mem_cons_of_mem _ (List.mem_cons_of_mem _ (List.mem_cons_of_mem _ (List.mem_cons_of_mem _ (List.mem_cons_self ..)))))))).2 (cw.i i_InvalidEquation (List.mem_cons_of_mem _ (List.mem_cons_of_mem _ (List.mem_cons_of_mem _ (List.mem_cons_of_mem _ (List.mem_cons_of_mem _ (List.mem_cons_of_mem _ (List.mem_cons_self ..)))))))).1
  obtain ⟨cc_i_InvalidEquation, cda_i_InvalidEquation, S_i_InvalidEquation⟩ := R_i_InvalidEquation.s
  obtain ⟨fd_i_InvalidEquations, R_i_InvalidEquations⟩ := ini_of (d := i_InvalidEquations) X G T.z_super F_i_InvalidEquations (cw.i i_InvalidEquations (List.mem_cons_of_mem _ (List.mem_cons_of_mem _ (List.mem_cons_of_mem _ (List.mem_cons_of_mem _ (List.mem_cons_of_mem _ (List.mem_cons_of_mem _ (List.mem_cons_of_mem _ (List.mem_cons_self ..))))))))).2 (cw.i i_InvalidEquations (List.mem_cons_of_mem _ (List.mem_cons_of_mem _ (List.mem_cons_of_mem _ (List.mem_cons_of_mem _ (List.mem_cons_of_mem _ (List.mem_cons_of_mem _ (List.mem_cons_of_mem _ (List.mem_cons_self ..))))))))).1
  obtain ⟨cc_i_InvalidEquations, cda_i_InvalidEquations, S_i_InvalidEquations⟩ := R_i_InvalidEquations.s
  obtain ⟨fd_i_InvalidSetting, R_i_InvalidSetting⟩ := ini_of (d := i_InvalidSetting) X G T.z_super F_i_InvalidSetting (cw.i i_InvalidSetting (List.mem_cons_of_mem _ (List.mem_cons_of_mem _ (List.mem_cons_of_mem _ (List.mem_cons_of_mem _ (List.mem_cons_of_mem _ (List.mem_cons_of_mem _ (List.mem_cons_of_mem _ (List.mem_cons_of_mem _ (List.mem_cons_self ..)))))))))).2 (cw.i i_InvalidSetting (List.mem_cons_of_mem _ (List.mem_cons_of_mem _ (List.mem_cons_of_mem _ (List.mem_cons_of_mem _ (List.mem_cons_of_mem _ (List.mem_cons_of_mem _ (List.mem_cons_of_mem _ (List.mem_cons_of_mem _ (List.mem_cons_self ..)))))))))).1
  obtain ⟨cc_i_InvalidSetting, cda_i_InvalidSetting, S_i_InvalidSetting⟩ := R_i_InvalidSetting.s
  obtain ⟨fd_i_InvalidSettings, R_i_InvalidSettings⟩ := ini_of (d := i_InvalidSettings) X G T.z_super F_i_InvalidSettings (cw.i i_InvalidSettings (List.mem_cons_of_mem _ (List.mem_cons_of_mem _ (List.mem_cons_of_mem _ (List.mem_cons_of_mem _ (List.mem_cons_of_mem _ (List.mem_cons_of_mem _ (List.mem_cons_of_mem _ (List.mem_cons_of_mem _ (List.mem_cons_of_mem _ (List.mem_cons_self ..))))))))))).2 (cw.i i_InvalidSettings (List.mem_cons_of_mem _ (List.mem_cons_of_mem _ (List.mem_cons_of_mem _ (List.mem_cons_of_mem _ (List.mem_cons_of_mem _ (List.mem_cons_of_mem _ (List.mem_cons_of_mem _ (List.mem_cons_of_mem _ (List.mem_cons_of_mem _ (List.mem_cons_self ..))))))))))).1
  obtain ⟨cc_i_InvalidSettings, cda_i_InvalidSettings, S_i_InvalidSettings⟩ := R_i_InvalidSettings.s
  obtain ⟨fd_i_InvalidPairs, R_i_InvalidPairs⟩ := ini_of (d := i_InvalidPairs) X G T.z_super F_i_InvalidPairs (cw.i i_InvalidPairs (List.mem_cons_of_mem _ (List.mem_cons_of_mem _ (List.mem_cons_of_mem _ (List.mem_cons_of_mem _ (List.mem_cons_of_mem _ (List.mem_cons_of_mem _ (List.mem_cons_of_mem _ (List.mem_cons_of_mem _ (List.mem_cons_of_mem _ (List.mem_cons_of_mem _ (List.mem_cons_self ..)))))))))))).2 (cw.i i_InvalidPairs (List.mem_cons_of_mem _ (List.mem_cons_of_mem _ (List.mem_cons_of_mem _ (List.mem_cons_of_mem _ (List.mem_cons_of_mem _ (List.mem_cons_of_mem _ (List.mem_cons_of_mem _ (List.mem_cons_of_mem _ (List.mem_cons_of_mem _ (List.mem_cons_of_mem _ (List.mem_cons_self ..)))))))))))).1
  obtain ⟨cc_i_InvalidPairs, cda_i_InvalidPairs, S_i_InvalidPairs⟩ := R_i_InvalidPairs.s
  obtain ⟨fd_i_InvalidWishes, R_i_InvalidWishes⟩ := ini_of (d := i_InvalidWishes) X G T.z_super F_i_InvalidWishes (cw.i i_InvalidWishes (List.mem_cons_of_mem _ (List.mem_cons_of_mem _ (List.mem_cons_of_mem _ (List.mem_cons_of_mem _ (List.mem_cons_of_mem _ (List.mem_cons_of_mem _ (List.mem_cons_of_mem _ (List.mem_cons_of_mem _ (List.mem_cons_of_mem _ (List.mem_cons_of_mem _ (List.mem_cons_of_mem _ (List.mem_cons_self ..))))))))))))).2 (cw.i i_InvalidWishes (List.mem_cons_of_mem _ (List.mem_cons_of_mem _ (List.mem_cons_of_mem _ (List.mem_cons_of_mem _ (List.mem_cons_of_mem _ (List.mem_cons_of_mem _ (List.mem_cons_of_mem _ (List.mem_cons_of_mem _ (List.mem_cons_of_mem _ (List.mem_cons_of_mem _ (List.mem_cons_of_mem _ (List.mem_cons_self ..))))))))))))).1
  obtain ⟨cc_i_InvalidWishes, cda_i_InvalidWishes, S_i_InvalidWishes⟩ := R_i_InvalidWishes.s
  obtain ⟨fd_i_InvalidNames, R_i_InvalidNames⟩ := ini_of (d := i_InvalidNames) X G T.z_super F_i_InvalidNames (cw.i i_InvalidNames (List.mem_cons_of_mem _ (List.mem_cons_of_mem _ (List.mem_cons_of_mem _ (List.mem_cons_of_mem _ (List.mem_cons_of_mem _ (List.mem_cons_of_mem _ (List.mem_cons_of_mem _ (List.mem_cons_of_mem _ (List.mem_cons_of_mem _ (List.mem_cons_of_mem _ (List.mem_cons_of_mem _ (List.mem_cons_of_mem _ (List.mem_cons_self ..)))))))))))))).2 (cw.i i_InvalidNames (List.mem_cons_of_mem _ (List.mem_cons_of_mem _ (List.mem_cons_of_mem _ (List.mem_cons_of_mem _ (List.mem_cons_of_mem _ (List.mem_cons_of_mem _ (List.mem_cons_of_mem _ (List.mem_cons_of_mem _ (List.mem_cons_of_mem _ (List.mem_cons_of_mem _ (List.mem_cons_of_mem _ (List.mem_cons_of_mem _ (List.mem_cons_self ..)))))))))))))).1
  obtain ⟨cc_i_InvalidNames, cda_i_InvalidNames, S_i_InvalidNames⟩ := R_i_InvalidNames.s
  obtain ⟨fd_i_InvalidText, R_i_InvalidText⟩ := ini_of (d := i_InvalidText) X G T.z_super F_i_InvalidText (cw.i i_InvalidText (List.mem_cons_of_mem _ (List.mem_cons_of_mem _ (List.mem_cons_of_mem _ (List.mem_cons_of_mem _ (List.mem_cons_of_mem _ (List.mem_cons_of_mem _ (List.mem_cons_of_mem _ (List.mem_cons_of_mem _ (List.mem_cons_of_mem _ (List.mem_cons_of_mem _ (List.mem_cons_of_mem _ (List.mem_cons_of_mem _ (List.mem_cons_of_mem _ (List.mem_cons_self ..))))))))))))))).2 (cw.i i_InvalidText (List.mem_cons_of_mem _ (List.mem_cons_of_mem _ (List.mem_cons_of_mem _ (List.mem_cons_of_mem _ (List.mem_cons_of_mem _ (List.mem_cons_of_mem _ (List.mem_cons_of_mem _ (List.mem_cons_of_mem _ (List.mem_cons_of_mem _ (List.mem_cons_of_mem _ (List.mem_cons_of_mem _ (List.mem_cons_of_mem _ (List.mem_cons_of_mem _ (List.mem_cons_self ..))))))))))))))).1
  obtain ⟨cc_i_InvalidText, cda_i_InvalidText, S_i_InvalidText⟩ := R_i_InvalidText.s
  obtain ⟨fd_i_InvalidCommand, R_i_InvalidCommand⟩ := ini_of (d := i_InvalidCommand) X G T.z_super F_i_InvalidCommand (cw.i i_InvalidCommand (List.mem_cons_of_mem _ (List.mem_cons_of_mem _ (List.mem_cons_of_mem _ (List.mem_cons_of_mem _ (List.mem_cons_of_mem _ (List.mem_cons_of_mem _ (List.mem_cons_of_mem _ (List.mem_cons_of_mem _ (List.mem_cons_of_mem _ (List.mem_cons_of_mem _ (List.mem_cons_of_mem _ (List.mem_cons_of_mem _ (List.mem_cons_of_mem _ (List.mem_cons_of_mem _ (List.mem_cons_self ..)))))))))))))))).2 (cw.i i_InvalidCommand (List.mem_cons_of_mem _ (List.mem_cons_of_mem _ (List.mem_cons_of_mem _ (List.mem_cons_of_mem _ (List.mem_cons_of_mem _ (List.mem_cons_of_mem _ (List.mem_cons_of_mem _ (List.mem_cons_of_mem _ (List.mem_cons_of_mem _ (List.mem_cons_of_mem _ (List.mem_cons_of_mem _ (List.mem_cons_of_mem _ (List.mem_cons_of_mem _ (List.mem_cons_of_mem _ (List.mem_cons_self ..)))))))))))))))).1
  obtain ⟨cc_i_InvalidCommand, cda_i_InvalidCommand, S_i_InvalidCommand⟩ := R_i_InvalidCommand.s
  obtain ⟨fd_i_UnknownField, R_i_UnknownField⟩ := ini_of (d := i_UnknownField) X G T.z_super F_i_UnknownField (cw.i i_UnknownField (List.mem_cons_of_mem _ (List.mem_cons_of_mem _ (List.mem_cons_of_mem _ (List.mem_cons_of_mem _ (List.mem_cons_of_mem _ (List.mem_cons_of_mem _ (List.mem_cons_of_mem _ (List.mem_cons_of_mem _ (List.mem_cons_of_mem _ (List.mem_cons_of_mem _ (List.mem_cons_of_mem _ (List.mem_cons_of_mem _ (List.mem_cons_of_mem _ (List.mem_cons_of_mem _ (List.mem_cons_of_mem _ (List.mem_cons_self ..))))))))))))))))).2 (cw.i i_UnknownField (List.mem_cons_of_mem _ (List.mem_cons_of_mem _ (List.mem_cons_of_mem _ (List.mem_cons_of_mem _ (List.mem_cons_of_mem _ (List.mem_cons_of_mem _ (List.mem_cons_of_mem _ (List.mem_cons_of_mem _ (List.mem_cons_of_mem _ (List.mem_cons_of_mem _ (List.mem_cons_of_mem _ (List.mem_cons_of_mem _ (List.mem_cons_of_mem _ (List.mem_cons_of_mem _ (List.mem_cons_of_mem _ (List.mem_cons_self ..))))))))))))))))).1
  obtain ⟨cc_i_UnknownField, cda_i_UnknownField, S_i_UnknownField⟩ := R_i_UnknownField.s
  obtain ⟨fd_i_UnknownReplica, R_i_UnknownReplica⟩ := ini_of (d := i_UnknownReplica) X G T.z_super F_i_UnknownReplica (cw.i i_UnknownReplica (List.mem_cons_of_mem _ (List.mem_cons_of_mem _ (List.mem_cons_of_mem _ (List.mem_cons_of_mem _ (List.mem_cons_of_mem _ (List.mem_cons_of_mem _ (List.mem_cons_of_mem _ (List.mem_cons_of_mem _ (List.mem_cons_of_mem _ (List.mem_cons_of_mem _ (List.mem_cons_of_mem _ (List.mem_cons_of_mem _ (List.mem_cons_of_mem _ (List.mem_cons_of_mem _ (List.mem_cons_of_mem _ (List.mem_cons_of_mem _ (List.mem_cons_self ..)))))))))))))))))).2 (cw.i i_UnknownReplica (List.mem_cons_of_mem _ (List.mem_cons_of_mem _ (List.mem_cons_of_mem _ (List.mem_cons_of_mem _ (List.mem_cons_of_mem _ (List.mem_cons_of_mem _ (List.mem_cons_of_mem _ (List.mem_cons_of_mem _ (List.mem_cons_of_mem _ (List.mem_cons_of_mem _ (List.mem_cons_of_mem _ (List.mem_cons_of_mem _ (List.mem_cons_of_mem _ (List.mem_cons_of_mem _ (List.mem_cons_of_mem _ (List.mem_cons_of_mem _ (List.mem_cons_self ..)))))))))))))))))).1
  obtain ⟨cc_i_UnknownReplica, cda_i_UnknownReplica, S_i_UnknownReplica⟩ := R_i_UnknownReplica.s
  obtain ⟨fd_i_UnknownMessage, R_i_UnknownMessage⟩ := ini_of (d := i_UnknownMessage) X G T.z_super F_i_UnknownMessage (cw.i i_UnknownMessage (List.mem_cons_of_mem _ (List.mem_cons_of_mem _ (List.mem_cons_of_mem _ (List.mem_cons_of_mem _ (List.mem_cons_of_mem _ (List.mem_cons_of_mem _ (List.mem_cons_of_mem _ (List.mem_cons_of_mem _ (List.mem_cons_of_mem _ (List.mem_cons_of_mem _ (List.mem_cons_of_mem _ (List.mem_cons_of_mem _ (List.mem_cons_of_mem _ (List.mem_cons_of_mem _ (List.mem_cons_of_mem _ (List.mem_cons_of_mem _ (List.mem_cons_of_mem _ (List.mem_cons_self ..))))))))))))))))))).2 (cw.i i_UnknownMessage (List.mem_cons_of_mem _ (List.mem_cons_of_mem _ (List.mem_cons_of_mem _ (List.mem_cons_of_mem _ (List.mem_cons_of_mem _ (List.mem_cons_of_mem _ (List.mem_cons_of_mem _ (List.mem_cons_of_mem _ (List.mem_cons_of_mem _ (List.mem_cons_of_mem _ (List.mem_cons_of_mem _ (List.mem_cons_of_mem _ (List.mem_cons_of_mem _ (List.mem_cons_of_mem _ (List.mem_cons_of_mem _ (List.mem_cons_of_mem _ (List.mem_cons_of_mem _ (List.mem_cons_self ..))))))))))))))))))).1
  obtain ⟨cc_i_UnknownMessage, cda_i_UnknownMessage, S_i_UnknownMessage⟩ := R_i_UnknownMessage.s
  obtain ⟨fd_i_NotFree, R_i_NotFree⟩ := ini_of (d := i_NotFree) X G T.z_super F_i_NotFree (cw.i i_NotFree (List.mem_cons_of_mem _ (List.mem_cons_of_mem _ (List.mem_cons_of_mem _ (List.mem_cons_of_mem _ (List.mem_cons_of_mem _ (List.mem_cons_of_mem _ (List.mem_cons_of_mem _ (List.mem_cons_of_mem _ (List.mem_cons_of_mem _ (List.mem_cons_of_mem _ (List.mem_cons_of_mem _ (List.mem_cons_of_mem _ (List.mem_cons_of_mem _ (List.mem_cons_of_mem _ (List.mem_cons_of_mem _ (List.mem_cons_of_mem _ (List.mem_cons_of_mem _ (List.mem_cons_of_mem _ (List.mem_cons_self ..)))))))))))))))))))).2 (cw.i i_NotFree (List.mem_cons_of_mem _ (List.mem_cons_of_mem _ (List.mem_cons_of_mem _ (List.mem_cons_of_mem _ (List.mem_cons_of_mem _ (List.mem_cons_of_mem _ (List.mem_cons_of_mem _ (List.mem_cons_of_mem _ (List.mem_cons_of_mem _ (List.mem_cons_of_mem _ (List.mem_cons_of_mem _ (List.mem_cons_of_mem _ (List.mem_cons_of_mem _ (List.mem_cons_of_mem _ (List.mem_cons_of_mem _ (List.mem_cons_of_mem _ (List.mem_cons_of_mem _ (List.mem_cons_of_mem _ (List.mem_cons_self ..)))))))))))))))))))).1
  obtain ⟨cc_i_NotFree, cda_i_NotFree, S_i_NotFree⟩ := R_i_NotFree.s
  obtain ⟨fd_i_NotDetermined, R_i_NotDetermined⟩ := ini_of (d := i_NotDetermined) X G T.z_super F_i_NotDetermined (cw.i i_NotDetermined (List.mem_cons_of_mem _ (List.mem_cons_of_mem _ (List.mem_cons_of_mem _ (List.mem_cons_of_mem _ (List.mem_cons_of_mem _ (List.mem_cons_of_mem _ (List.mem_cons_of_mem _ (List.mem_cons_of_mem _ (List.mem_cons_of_mem _ (List.mem_cons_of_mem _ (List.mem_cons_of_mem _ (List.mem_cons_of_mem _ (List.mem_cons_of_mem _ (List.mem_cons_of_mem _ (List.mem_cons_of_mem _ (List.mem_cons_of_mem _ (List.mem_cons_of_mem _ (List.mem_cons_of_mem _ (List.mem_cons_of_mem _ (List.mem_cons_self ..))))))))))))))))))))).2 (cw.i i_NotDetermined (List.mem_cons_of_mem _ (List.mem_cons_of_mem _ (List.mem_cons_of_mem _ (List.mem_cons_of_mem _ (List.mem_cons_of_mem _ (List.mem_cons_of_mem _ (List.mem_cons_of_mem _ (List.mem_cons_of_mem _ (List.mem_cons_of_mem _ (List.mem_cons_of_mem _ (List.mem_cons_of_mem _ (List.mem_cons_of_mem _ (List.mem_cons_of_mem _ (List.mem_cons_of_mem _ (List.mem_cons_of_mem _ (List.mem_cons_of_mem _ (List.mem_cons_of_mem _ (List.mem_cons_of_mem _ (List.mem_cons_of_mem _ (List.mem_cons_self ..))))))))))))))))))))).1
  obtain ⟨cc_i_NotDetermined, cda_i_NotDetermined, S_i_NotDetermined⟩ := R_i_NotDetermined.s
  obtain ⟨fd_i_OtherSheet, R_i_OtherSheet⟩ := ini_of (d := i_OtherSheet) X G T.z_super F_i_OtherSheet (cw.i i_OtherSheet (List.mem_cons_of_mem _ (List.mem_cons_of_mem _ (List.mem_cons_of_mem _ (List.mem_cons_of_mem _ (List.mem_cons_of_mem _ (List.mem_cons_of_mem _ (List.mem_cons_of_mem _ (List.mem_cons_of_mem _ (List.mem_cons_of_mem _ (List.mem_cons_of_mem _ (List.mem_cons_of_mem _ (List.mem_cons_of_mem _ (List.mem_cons_of_mem _ (List.mem_cons_of_mem _ (List.mem_cons_of_mem _ (List.mem_cons_of_mem _ (List.mem_cons_of_mem _ (List.mem_cons_of_mem _ (List.mem_cons_of_mem _ (List.mem_cons_of_mem _ (List.mem_cons_self ..)))))))))))))))))))))).2 (cw.i i_OtherSheet (List.mem_cons_of_mem _ (List.mem_cons_of_mem _ (List.mem_cons_of_mem _ (List.mem_cons_of_mem _ (List.mem_cons_of_mem _ (List.mem_cons_of_mem _ (List.mem_cons_of_mem _ (List.mem_cons_of_mem _ (List.mem_cons_of_mem _ (List.mem_cons_of_mem _ (List.mem_cons_of_mem _ (List.mem_cons_of_mem _ (List.mem_cons_of_mem _ (List.mem_cons_of_mem _ (List.mem_cons_of_mem _ (List.mem_cons_of_mem _ (List.mem_cons_of_mem _ (List.mem_cons_of_mem _ (List.mem_cons_of_mem _ (List.mem_cons_of_mem _ (List.mem_cons_self ..)))))))))))))))))))))).1
  obtain ⟨cc_i_OtherSheet, cda_i_OtherSheet, S_i_OtherSheet⟩ := R_i_OtherSheet.s
  obtain ⟨fd_i_Refused, R_i_Refused⟩ := ini_of (d := i_Refused) X G T.z_super F_i_Refused (cw.i i_Refused (List.mem_cons_of_mem _ (List.mem_cons_of_mem _ (List.mem_cons_of_mem _ (List.mem_cons_of_mem _ (List.mem_cons_of_mem _ (List.mem_cons_of_mem _ (List.mem_cons_of_mem _ (List.mem_cons_of_mem _ (List.mem_cons_of_mem _ (List.mem_cons_of_mem _ (List.mem_cons_of_mem _ (List.mem_cons_of_mem _ (List.mem_cons_of_mem _ (List.mem_cons_of_mem _ (List.mem_cons_of_mem _ (List.mem_cons_of_mem _ (List.mem_cons_of_mem _ (List.mem_cons_of_mem _ (List.mem_cons_of_mem _ (List.mem_cons_of_mem _ (List.mem_cons_of_mem _ (List.mem_cons_self ..))))))))))))))))))))))).2 (cw.i i_Refused (List.mem_cons_of_mem _ (List.mem_cons_of_mem _ (List.mem_cons_of_mem _ (List.mem_cons_of_mem _ (List.mem_cons_of_mem _ (List.mem_cons_of_mem _ (List.mem_cons_of_mem _ (List.mem_cons_of_mem _ (List.mem_cons_of_mem _ (List.mem_cons_of_mem _ (List.mem_cons_of_mem _ (List.mem_cons_of_mem _ (List.mem_cons_of_mem _ (List.mem_cons_of_mem _ (List.mem_cons_of_mem _ (List.mem_cons_of_mem _ (List.mem_cons_of_mem _ (List.mem_cons_of_mem _ (List.mem_cons_of_mem _ (List.mem_cons_of_mem _ (List.mem_cons_of_mem _ (List.mem_cons_self ..))))))))))))))))))))))).1
  obtain ⟨cc_i_Refused, cda_i_Refused, S_i_Refused⟩ := R_i_Refused.s
  obtain ⟨fd_i_Impossible, R_i_Impossible⟩ := ini_of (d := i_Impossible) X G T.z_super F_i_Impossible (cw.i i_Impossible (List.mem_cons_of_mem _ (List.mem_cons_of_mem _ (List.mem_cons_of_mem _ (List.mem_cons_of_mem _ (List.mem_cons_of_mem _ (List.mem_cons_of_mem _ (List.mem_cons_of_mem _ (List.mem_cons_of_mem _ (List.mem_cons_of_mem _ (List.mem_cons_of_mem _ (List.mem_cons_of_mem _ (List.mem_cons_of_mem _ (List.mem_cons_of_mem _ (List.mem_cons_of_mem _ (List.mem_cons_of_mem _ (List.mem_cons_of_mem _ (List.mem_cons_of_mem _ (List.mem_cons_of_mem _ (List.mem_cons_of_mem _ (List.mem_cons_of_mem _ (List.mem_cons_of_mem _ (List.mem_cons_of_mem _ (List.mem_cons_self ..)))))))))))))))))))))))).2 (cw.i i_Impossible (List.mem_cons_of_mem _ (List.mem_cons_of_mem _ (List.mem_cons_of_mem _ (List.mem_cons_of_mem _ (List.mem_cons_of_mem _ (List.mem_cons_of_mem _ (List.mem_cons_of_mem _ (List.mem_cons_of_mem _ (List.mem_cons_of_mem _ (List.mem_cons_of_mem _ (List.mem_cons_of_mem _ (List.mem_cons_of_mem _ (List.mem_cons_of_mem _ (List.mem_cons_of_mem _ (List.mem_cons_of_mem _ (List.mem_cons_of_mem _ (List.mem_cons_of_mem _ (List.mem_cons_of_mem _ (List.mem_cons_of_mem _ (List.mem_cons_of_mem _ (List.mem_cons_of_mem _ (List.mem_cons_of_mem _ (List.mem_cons_self ..)))))))))))))))))))))))).1
  obtain ⟨cc_i_Impossible, cda_i_Impossible, S_i_Impossible⟩ := R_i_Impossible.s
  obtain ⟨fd_i_RunFailed, R_i_RunFailed⟩ := ini_of (d := i_RunFailed) X G T.z_super F_i_RunFailed (cw.i i_RunFailed (List.mem_cons_of_mem _ (List.mem_cons_of_mem _ (List.mem_cons_of_mem _ (List.mem_cons_of_mem _ (List.mem_cons_of_mem _ (List.mem_cons_of_mem _ (List.mem_cons_of_mem _ (List.mem_cons_of_mem _ (List.mem_cons_of_mem _ (List.mem_cons_of_mem _ (List.mem_cons_of_mem _ (List.mem_cons_of_mem _ (List.mem_cons_of_mem _ (List.mem_cons_of_mem _ (List.mem_cons_of_mem _ (List.mem_cons_of_mem _ (List.mem_cons_of_mem _ (List.mem_cons_of_mem _ (List.mem_cons_of_mem _ (List.mem_cons_of_mem _ (List.mem_cons_of_mem _ (List.mem_cons_of_mem _ (List.mem_cons_of_mem _ (List.mem_cons_self ..))))))))))))))))))))))))).2 (cw.i i_RunFailed (List.mem_cons_of_mem _ (List.mem_cons_of_mem _ (List.mem_cons_of_mem _ (List.mem_cons_of_mem _ (List.mem_cons_of_mem _ (List.mem_cons_of_mem _ (List.mem_cons_of_mem _ (List.mem_cons_of_mem _ (List.mem_cons_of_mem _ (List.mem_cons_of_mem _ (List.mem_cons_of_mem _ (List.mem_cons_of_mem _ (List.mem_cons_of_mem _ (List.mem_cons_of_mem _ (List.mem_cons_of_mem _ (List.mem_cons_of_mem _ (List.mem_cons_of_mem _ (List.mem_cons_of_mem _ (List.mem_cons_of_mem _ (List.mem_cons_of_mem _ (List.mem_cons_of_mem _ (List.mem_cons_of_mem _ (List.mem_cons_of_mem _ (List.mem_cons_self ..))))))))))))))))))))))))).1
  obtain ⟨cc_i_RunFailed, cda_i_RunFailed, S_i_RunFailed⟩ := R_i_RunFailed.s
  obtain ⟨fd_i_TooMany, R_i_TooMany⟩ := ini_of (d := i_TooMany) X G T.z_super F_i_TooMany (cw.i i_TooMany (List.mem_cons_of_mem _ (List.mem_cons_of_mem _ (List.mem_cons_of_mem _ (List.mem_cons_of_mem _ (List.mem_cons_of_mem _ (List.mem_cons_of_mem _ (List.mem_cons_of_mem _ (List.mem_cons_of_mem _ (List.mem_cons_of_mem _ (List.mem_cons_of_mem _ (List.mem_cons_of_mem _ (List.mem_cons_of_mem _ (List.mem_cons_of_mem _ (List.mem_cons_of_mem _ (List.mem_cons_of_mem _ (List.mem_cons_of_mem _ (List.mem_cons_of_mem _ (List.mem_cons_of_mem _ (List.mem_cons_of_mem _ (List.mem_cons_of_mem _ (List.mem_cons_of_mem _ (List.mem_cons_of_mem _ (List.mem_cons_of_mem _ (List.mem_cons_of_mem _ (List.mem_cons_self ..)))))))))))))))))))))))))).2 (cw.i i_TooMany (List.mem_cons_of_mem _ (List.mem_cons_of_mem _ (List.mem_cons_of_mem _ (List.mem_cons_of_mem _ (List.mem_cons_of_mem _ (List.mem_cons_of_mem _ (List.mem_cons_of_mem _ (List.mem_cons_of_mem _ (List.mem_cons_of_mem _ (List.mem_cons_of_mem _ (List.mem_cons_of_mem _ (List.mem_cons_of_mem _ (List.mem_cons_of_mem _ (List.mem_cons_of_mem _ (List.mem_cons_of_mem _ (List.mem_cons_of_mem _ (List.mem_cons_of_mem _ (List.mem_cons_of_mem _ (List.mem_cons_of_mem _ (List.mem_cons_of_mem _ (List.mem_cons_of_mem _ (List.mem_cons_of_mem _ (List.mem_cons_of_mem _ (List.mem_cons_of_mem _ (List.mem_cons_self ..)))))))))))))))))))))))))).1
  obtain ⟨cc_i_TooMany, cda_i_TooMany, S_i_TooMany⟩ := R_i_TooMany.s
  obtain ⟨fd_i_NoQuotient, R_i_NoQuotient⟩ := ini_of (d := i_NoQuotient) X G T.z_super F_i_NoQuotient (cw.i i_NoQuotient (List.mem_cons_of_mem _ (List.mem_cons_of_mem _ (List.mem_cons_of_mem _ (List.mem_cons_of_mem _ (List.mem_cons_of_mem _ (List.mem_cons_of_mem _ (List.mem_cons_of_mem _ (List.mem_cons_of_mem _ (List.mem_cons_of_mem _ (List.mem_cons_of_mem _ (List.mem_cons_of_mem _ (List.mem_cons_of_mem _ (List.mem_cons_of_mem _ (List.mem_cons_of_mem _ (List.mem_cons_of_mem _ (List.mem_cons_of_mem _ (List.mem_cons_of_mem _ (List.mem_cons_of_mem _ (List.mem_cons_of_mem _ (List.mem_cons_of_mem _ (List.mem_cons_of_mem _ (List.mem_cons_of_mem _ (List.mem_cons_of_mem _ (List.mem_cons_of_mem _ (List.mem_cons_of_mem _ (List.mem_cons_self ..))))))))))))))))))))))))))).2 (cw.i i_NoQuotient (List.mem_cons_of_mem _ (List.mem_cons_of_mem _ (List.mem_cons_of_mem _ (List.mem_cons_of_mem _ (List.mem_cons_of_mem _ (List.mem_cons_of_mem _ (List.mem_cons_of_mem _ (List.mem_cons_of_mem _ (List.mem_cons_of_mem _ (List.mem_cons_of_mem _ (List.mem_cons_of_mem _ (List.mem_cons_of_mem _ (List.mem_cons_of_mem _ (List.mem_cons_of_mem _ (List.mem_cons_of_mem _ (List.mem_cons_of_mem _ (List.mem_cons_of_mem _ (List.mem_cons_of_mem _ (List.mem_cons_of_mem _ (List.mem_cons_of_mem _ (List.mem_cons_of_mem _ (List.mem_cons_of_mem _ (List.mem_cons_of_mem _ (List.mem_cons_of_mem _ (List.mem_cons_of_mem _ (List.mem_cons_self ..))))))))))))))))))))))))))).1
  obtain ⟨cc_i_NoQuotient, cda_i_NoQuotient, S_i_NoQuotient⟩ := R_i_NoQuotient.s
  have cx := cw.ex
  unfold ex at cx
  simp only [Bool.and_eq_true] at cx
  obtain ⟨x0, x1, x2⟩ := cx
  have b := FunD.bindsA (ps := ["_law_script"]) F_law fun _ _ _ _ _ _ us hl => match us, hl with | [_], _ => rfl
  refine ⟨fd_law, fun s v => b s [v] rfl, fun base _ _ B => ?_⟩
  have TK : Tk K (csK K) := tk_of x0
  have T2 : Tm mg (csK K) := { toTz := T, m_InvalidName := k_InvalidName, m_InvalidNumber := k_InvalidNumber, m_InvalidLevel := k_InvalidLevel, m_InvalidClock := k_InvalidClock, m_InvalidCount := k_InvalidCount, m_InvalidFields := k_InvalidFields, m_InvalidEquation := k_InvalidEquation, m_InvalidEquations := k_InvalidEquations, m_InvalidSetting := k_InvalidSetting, m_InvalidSettings := k_InvalidSettings, m_InvalidPairs := k_InvalidPairs, m_InvalidWishes := k_InvalidWishes, m_InvalidNames := k_InvalidNames, m_InvalidText := k_InvalidText, m_InvalidCommand := k_InvalidCommand, m_UnknownField := k_UnknownField, m_UnknownReplica := k_UnknownReplica, m_UnknownMessage := k_UnknownMessage, m_NotFree := k_NotFree, m_NotDetermined := k_NotDetermined, m_OtherSheet := k_OtherSheet, m_Refused := k_Refused, m_Impossible := k_Impossible, m_RunFailed := k_RunFailed, m_NothingToTakeBack := k_NothingToTakeBack, m_TooMany := k_TooMany, m_NoQuotient := k_NoQuotient, m_LastheldError := k_LastheldError, m_MissingError := k_MissingError, m_StateError := k_StateError, m_LimitError := k_LimitError }
  have O_kept : Own R.prog w K mg base CX0 7 "kept" ["value"] (sp_kept K 6) _ fd_kept := ⟨ok_kept F_kept T m_kept 6, m_kept, F_kept.kp, F_kept.bindsN fun _ _ _ _ _ _ us hl => match us, hl with | [_], _ => rfl⟩
  have n_InvalidName := field_of x2 (i := 0) (fl := ["value"]) (List.mem_of_getElem? (i := 0) rfl)
  have E_InvalidName : ∃ (fI : Addr) (fd : FuncData), OwnE R.prog w K mg base 8 "InvalidName" ["self", "value"] (sp_init K (csK K 0) ["value"]) (csK K 0) fI fd (tlOf "ValueError") "ValueError.__new__" ∧ (∃ g, KBn K fd ["self", "value"] 1 ["value"] g (fun vs zs => vs ++ zs)) ∧ ∀ x ∈ (["value"] : List Str), PySem.W.findIn K (.ref (csK K 0)) x = some none :=
    ⟨iniAt K i_InvalidName, fd_i_InvalidName, ⟨R_i_InvalidName.t, R_i_InvalidName.i, R_i_InvalidName.ti, ok_InvalidName R_i_InvalidName.t S_i_InvalidName (n_InvalidName _ (List.mem_singleton.mpr rfl)) R_i_InvalidName.lk O_kept, R_i_InvalidName.binds fun _ _ _ _ _ us hl => match us, hl with | [_, _], _ => rfl, R_i_InvalidName.m⟩, ⟨_, kbi1 R_i_InvalidName fun _ _ _ _ _ _ _ => rfl⟩, n_InvalidName⟩
  have n_InvalidNumber := field_of x2 (i := 1) (fl := ["value"]) (List.mem_of_getElem? (i := 1) rfl)
  have E_InvalidNumber : ∃ (fI : Addr) (fd : FuncData), OwnE R.prog w K mg base 8 "InvalidNumber" ["self", "value"] (sp_init K (csK K 1) ["value"]) (csK K 1) fI fd (tlOf "ValueError") "ValueError.__new__" ∧ (∃ g, KBn K fd ["self", "value"] 1 ["value"] g (fun vs zs => vs ++ zs)) ∧ ∀ x ∈ (["value"] : List Str), PySem.W.findIn K (.ref (csK K 1)) x = some none :=
    ⟨iniAt K i_InvalidNumber, fd_i_InvalidNumber, ⟨R_i_InvalidNumber.t, R_i_InvalidNumber.i, R_i_InvalidNumber.ti, ok_InvalidNumber R_i_InvalidNumber.t S_i_InvalidNumber (n_InvalidNumber _ (List.mem_singleton.mpr rfl)) R_i_InvalidNumber.lk O_kept, R_i_InvalidNumber.binds fun _ _ _ _ _ us hl => match us, hl with | [_, _], _ => rfl, R_i_InvalidNumber.m⟩, ⟨_, kbi1 R_i_InvalidNumber fun _ _ _ _ _ _ _ => rfl⟩, n_InvalidNumber⟩
  have n_InvalidLevel := field_of x2 (i := 2) (fl := ["value"]) (List.mem_of_getElem? (i := 2) rfl)
  have E_InvalidLevel : ∃ (fI : Addr) (fd : FuncData), OwnE R.prog w K mg base 8 "InvalidLevel" ["self", "value"] (sp_init K (csK K 2) ["value"]) (csK K 2) fI fd (tlOf "ValueError") "ValueError.__new__" ∧ (∃ g, KBn K fd ["self", "value"] 1 ["value"] g (fun vs zs => vs ++ zs)) ∧ ∀ x ∈ (["value"] : List Str), PySem.W.findIn K (.ref (csK K 2)) x = some none :=
    ⟨iniAt K i_InvalidLevel, fd_i_InvalidLevel, ⟨R_i_InvalidLevel.t, R_i_InvalidLevel.i, R_i_InvalidLevel.ti, ok_InvalidLevel R_i_InvalidLevel.t S_i_InvalidLevel (n_InvalidLevel _ (List.mem_singleton.mpr rfl)) R_i_InvalidLevel.lk O_kept, R_i_InvalidLevel.binds fun _ _ _ _ _ us hl => match us, hl with | [_, _], _ => rfl, R_i_InvalidLevel.m⟩, ⟨_, kbi1 R_i_InvalidLevel fun _ _ _ _ _ _ _ => rfl⟩, n_InvalidLevel⟩
  have n_InvalidClock := field_of x2 (i := 3) (fl := ["value"]) (List.mem_of_getElem? (i := 3) rfl)
  have E_InvalidClock : ∃ (fI : Addr) (fd : FuncData), OwnE R.prog w K mg base 8 "InvalidClock" ["self", "value"] (sp_init K (csK K 3) ["value"]) (csK K 3) fI fd (tlOf "ValueError") "ValueError.__new__" ∧ (∃ g, KBn K fd ["self", "value"] 1 ["value"] g (fun vs zs => vs ++ zs)) ∧ ∀ x ∈ (["value"] : List Str), PySem.W.findIn K (.ref (csK K 3)) x = some none :=
    ⟨iniAt K i_InvalidClock, fd_i_InvalidClock, ⟨R_i_InvalidClock.t, R_i_InvalidClock.i, R_i_InvalidClock.ti, ok_InvalidClock R_i_InvalidClock.t S_i_InvalidClock (n_InvalidClock _ (List.mem_singleton.mpr rfl)) R_i_InvalidClock.lk O_kept, R_i_InvalidClock.binds fun _ _ _ _ _ us hl => match us, hl with | [_, _], _ => rfl, R_i_InvalidClock.m⟩, ⟨_, kbi1 R_i_InvalidClock fun _ _ _ _ _ _ _ => rfl⟩, n_InvalidClock⟩
  have n_InvalidCount := field_of x2 (i := 4) (fl := ["value"]) (List.mem_of_getElem? (i := 4) rfl)
  have E_InvalidCount : ∃ (fI : Addr) (fd : FuncData), OwnE R.prog w K mg base 8 "InvalidCount" ["self", "value"] (sp_init K (csK K 4) ["value"]) (csK K 4) fI fd (tlOf "ValueError") "ValueError.__new__" ∧ (∃ g, KBn K fd ["self", "value"] 1 ["value"] g (fun vs zs => vs ++ zs)) ∧ ∀ x ∈ (["value"] : List Str), PySem.W.findIn K (.ref (csK K 4)) x = some none :=
    ⟨iniAt K i_InvalidCount, fd_i_InvalidCount, ⟨R_i_InvalidCount.t, R_i_InvalidCount.i, R_i_InvalidCount.ti, ok_InvalidCount R_i_InvalidCount.t S_i_InvalidCount (n_InvalidCount _ (List.mem_singleton.mpr rfl)) R_i_InvalidCount.lk O_kept, R_i_InvalidCount.binds fun _ _ _ _ _ us hl => match us, hl with | [_, _], _ => rfl, R_i_InvalidCount.m⟩, ⟨_, kbi1 R_i_InvalidCount fun _ _ _ _ _ _ _ => rfl⟩, n_InvalidCount⟩
  have n_InvalidFields := field_of x2 (i := 5) (fl := ["index"]) (List.mem_of_getElem? (i := 5) rfl)
  have E_InvalidFields : ∃ (fI : Addr) (fd : FuncData), OwnE R.prog w K mg base 1 "InvalidFields" ["self", "index"] (sp_init K (csK K 5) ["index"]) (csK K 5) fI fd (tlOf "ValueError") "ValueError.__new__" ∧ (∃ g, KBn K fd ["self", "index"] 1 ["index"] g (fun vs zs => vs ++ zs)) ∧ ∀ x ∈ (["index"] : List Str), PySem.W.findIn K (.ref (csK K 5)) x = some none :=
    ⟨iniAt K i_InvalidFields, fd_i_InvalidFields, ⟨R_i_InvalidFields.t, R_i_InvalidFields.i, R_i_InvalidFields.ti, ok_InvalidFields R_i_InvalidFields.t S_i_InvalidFields (n_InvalidFields _ (List.mem_singleton.mpr rfl)) R_i_InvalidFields.lk, R_i_InvalidFields.binds fun _ _ _ _ _ us hl => match us, hl with | [_, _], _ => rfl, R_i_InvalidFields.m⟩, ⟨_, kbi1 R_i_InvalidFields fun _ _ _ _ _ _ _ => rfl⟩, n_InvalidFields⟩
  have n_InvalidEquation := field_of x2 (i := 6) (fl := ["value"]) (List.mem_of_getElem? (i := 6) rfl)
  have E_InvalidEquation : ∃ (fI : Addr) (fd : FuncData), OwnE R.prog w K mg base 8 "InvalidEquation" ["self", "value"] (sp_init K (csK K 6) ["value"]) (csK K 6) fI fd (tlOf "ValueError") "ValueError.__new__" ∧ (∃ g, KBn K fd ["self", "value"] 1 ["value"] g (fun vs zs => vs ++ zs)) ∧ ∀ x ∈ (["value"] : List Str), PySem.W.findIn K (.ref (csK K 6)) x = some none :=
    ⟨iniAt K i_InvalidEquation, fd_i_InvalidEquation, ⟨R_i_InvalidEquation.t, R_i_InvalidEquation.i, R_i_InvalidEquation.ti, ok_InvalidEquation R_i_InvalidEquation.t S_i_InvalidEquation (n_InvalidEquation _ (List.mem_singleton.mpr rfl)) R_i_InvalidEquation.lk O_kept, R_i_InvalidEquation.binds fun _ _ _ _ _ us hl => match us, hl with | [_, _], _ => rfl, R_i_InvalidEquation.m⟩, ⟨_, kbi1 R_i_InvalidEquation fun _ _ _ _ _ _ _ => rfl⟩, n_InvalidEquation⟩
  have n_InvalidEquations := field_of x2 (i := 7) (fl := ["index"]) (List.mem_of_getElem? (i := 7) rfl)
  have E_InvalidEquations : ∃ (fI : Addr) (fd : FuncData), OwnE R.prog w K mg base 1 "InvalidEquations" ["self", "index"] (sp_init K (csK K 7) ["index"]) (csK K 7) fI fd (tlOf "ValueError") "ValueError.__new__" ∧ (∃ g, KBn K fd ["self", "index"] 1 ["index"] g (fun vs zs => vs ++ zs)) ∧ ∀ x ∈ (["index"] : List Str), PySem.W.findIn K (.ref (csK K 7)) x = some none :=
    ⟨iniAt K i_InvalidEquations, fd_i_InvalidEquations, ⟨R_i_InvalidEquations.t, R_i_InvalidEquations.i, R_i_InvalidEquations.ti, ok_InvalidEquations R_i_InvalidEquations.t S_i_InvalidEquations (n_InvalidEquations _ (List.mem_singleton.mpr rfl)) R_i_InvalidEquations.lk, R_i_InvalidEquations.binds fun _ _ _ _ _ us hl => match us, hl with | [_, _], _ => rfl, R_i_InvalidEquations.m⟩, ⟨_, kbi1 R_i_InvalidEquations fun _ _ _ _ _ _ _ => rfl⟩, n_InvalidEquations⟩
  have n_InvalidSetting := field_of x2 (i := 8) (fl := ["value"]) (List.mem_of_getElem? (i := 8) rfl)
  have E_InvalidSetting : ∃ (fI : Addr) (fd : FuncData), OwnE R.prog w K mg base 8 "InvalidSetting" ["self", "value"] (sp_init K (csK K 8) ["value"]) (csK K 8) fI fd (tlOf "ValueError") "ValueError.__new__" ∧ (∃ g, KBn K fd ["self", "value"] 1 ["value"] g (fun vs zs => vs ++ zs)) ∧ ∀ x ∈ (["value"] : List Str), PySem.W.findIn K (.ref (csK K 8)) x = some none :=
    ⟨iniAt K i_InvalidSetting, fd_i_InvalidSetting, ⟨R_i_InvalidSetting.t, R_i_InvalidSetting.i, R_i_InvalidSetting.ti, ok_InvalidSetting R_i_InvalidSetting.t S_i_InvalidSetting (n_InvalidSetting _ (List.mem_singleton.mpr rfl)) R_i_InvalidSetting.lk O_kept, R_i_InvalidSetting.binds fun _ _ _ _ _ us hl => match us, hl with | [_, _], _ => rfl, R_i_InvalidSetting.m⟩, ⟨_, kbi1 R_i_InvalidSetting fun _ _ _ _ _ _ _ => rfl⟩, n_InvalidSetting⟩
  have n_InvalidSettings := field_of x2 (i := 9) (fl := ["index"]) (List.mem_of_getElem? (i := 9) rfl)
  have E_InvalidSettings : ∃ (fI : Addr) (fd : FuncData), OwnE R.prog w K mg base 1 "InvalidSettings" ["self", "index"] (sp_init K (csK K 9) ["index"]) (csK K 9) fI fd (tlOf "ValueError") "ValueError.__new__" ∧ (∃ g, KBn K fd ["self", "index"] 1 ["index"] g (fun vs zs => vs ++ zs)) ∧ ∀ x ∈ (["index"] : List Str), PySem.W.findIn K (.ref (csK K 9)) x = some none :=
    ⟨iniAt K i_InvalidSettings, fd_i_InvalidSettings, ⟨R_i_InvalidSettings.t, R_i_InvalidSettings.i, R_i_InvalidSettings.ti, ok_InvalidSettings R_i_InvalidSettings.t S_i_InvalidSettings (n_InvalidSettings _ (List.mem_singleton.mpr rfl)) R_i_InvalidSettings.lk, R_i_InvalidSettings.binds fun _ _ _ _ _ us hl => match us, hl with | [_, _], _ => rfl, R_i_InvalidSettings.m⟩, ⟨_, kbi1 R_i_InvalidSettings fun _ _ _ _ _ _ _ => rfl⟩, n_InvalidSettings⟩
  have n_InvalidPairs := field_of x2 (i := 10) (fl := ["index"]) (List.mem_of_getElem? (i := 10) rfl)
  have E_InvalidPairs : ∃ (fI : Addr) (fd : FuncData), OwnE R.prog w K mg base 1 "InvalidPairs" ["self", "index"] (sp_init K (csK K 10) ["index"]) (csK K 10) fI fd (tlOf "ValueError") "ValueError.__new__" ∧ (∃ g, KBn K fd ["self", "index"] 1 ["index"] g (fun vs zs => vs ++ zs)) ∧ ∀ x ∈ (["index"] : List Str), PySem.W.findIn K (.ref (csK K 10)) x = some none :=
    ⟨iniAt K i_InvalidPairs, fd_i_InvalidPairs, ⟨R_i_InvalidPairs.t, R_i_InvalidPairs.i, R_i_InvalidPairs.ti, ok_InvalidPairs R_i_InvalidPairs.t S_i_InvalidPairs (n_InvalidPairs _ (List.mem_singleton.mpr rfl)) R_i_InvalidPairs.lk, R_i_InvalidPairs.binds fun _ _ _ _ _ us hl => match us, hl with | [_, _], _ => rfl, R_i_InvalidPairs.m⟩, ⟨_, kbi1 R_i_InvalidPairs fun _ _ _ _ _ _ _ => rfl⟩, n_InvalidPairs⟩
  have n_InvalidWishes := field_of x2 (i := 11) (fl := ["index"]) (List.mem_of_getElem? (i := 11) rfl)
  have E_InvalidWishes : ∃ (fI : Addr) (fd : FuncData), OwnE R.prog w K mg base 1 "InvalidWishes" ["self", "index"] (sp_init K (csK K 11) ["index"]) (csK K 11) fI fd (tlOf "ValueError") "ValueError.__new__" ∧ (∃ g, KBn K fd ["self", "index"] 1 ["index"] g (fun vs zs => vs ++ zs)) ∧ ∀ x ∈ (["index"] : List Str), PySem.W.findIn K (.ref (csK K 11)) x = some none :=
    ⟨iniAt K i_InvalidWishes, fd_i_InvalidWishes, ⟨R_i_InvalidWishes.t, R_i_InvalidWishes.i, R_i_InvalidWishes.ti, ok_InvalidWishes R_i_InvalidWishes.t S_i_InvalidWishes (n_InvalidWishes _ (List.mem_singleton.mpr rfl)) R_i_InvalidWishes.lk, R_i_InvalidWishes.binds fun _ _ _ _ _ us hl => match us, hl with | [_, _], _ => rfl, R_i_InvalidWishes.m⟩, ⟨_, kbi1 R_i_InvalidWishes fun _ _ _ _ _ _ _ => rfl⟩, n_InvalidWishes⟩
  have n_InvalidNames := field_of x2 (i := 12) (fl := ["index"]) (List.mem_of_getElem? (i := 12) rfl)
  have E_InvalidNames : ∃ (fI : Addr) (fd : FuncData), OwnE R.prog w K mg base 1 "InvalidNames" ["self", "index"] (sp_init K (csK K 12) ["index"]) (csK K 12) fI fd (tlOf "ValueError") "ValueError.__new__" ∧ (∃ g, KBn K fd ["self", "index"] 1 ["index"] g (fun vs zs => vs ++ zs)) ∧ ∀ x ∈ (["index"] : List Str), PySem.W.findIn K (.ref (csK K 12)) x = some none :=
    ⟨iniAt K i_InvalidNames, fd_i_InvalidNames, ⟨R_i_InvalidNames.t, R_i_InvalidNames.i, R_i_InvalidNames.ti, ok_InvalidNames R_i_InvalidNames.t S_i_InvalidNames (n_InvalidNames _ (List.mem_singleton.mpr rfl)) R_i_InvalidNames.lk, R_i_InvalidNames.binds fun _ _ _ _ _ us hl => match us, hl with | [_, _], _ => rfl, R_i_InvalidNames.m⟩, ⟨_, kbi1 R_i_InvalidNames fun _ _ _ _ _ _ _ => rfl⟩, n_InvalidNames⟩
  have n_InvalidText := field_of x2 (i := 13) (fl := ["line"]) (List.mem_of_getElem? (i := 13) rfl)
  have E_InvalidText : ∃ (fI : Addr) (fd : FuncData), OwnE R.prog w K mg base 1 "InvalidText" ["self", "line"] (sp_init K (csK K 13) ["line"]) (csK K 13) fI fd (tlOf "ValueError") "ValueError.__new__" ∧ (∃ g, KBn K fd ["self", "line"] 1 ["line"] g (fun vs zs => vs ++ zs)) ∧ ∀ x ∈ (["line"] : List Str), PySem.W.findIn K (.ref (csK K 13)) x = some none :=
    ⟨iniAt K i_InvalidText, fd_i_InvalidText, ⟨R_i_InvalidText.t, R_i_InvalidText.i, R_i_InvalidText.ti, ok_InvalidText R_i_InvalidText.t S_i_InvalidText (n_InvalidText _ (List.mem_singleton.mpr rfl)) R_i_InvalidText.lk, R_i_InvalidText.binds fun _ _ _ _ _ us hl => match us, hl with | [_, _], _ => rfl, R_i_InvalidText.m⟩, ⟨_, kbi1 R_i_InvalidText fun _ _ _ _ _ _ _ => rfl⟩, n_InvalidText⟩
  have n_InvalidCommand := field_of x2 (i := 14) (fl := ["command"]) (List.mem_of_getElem? (i := 14) rfl)
  have E_InvalidCommand : ∃ (fI : Addr) (fd : FuncData), OwnE R.prog w K mg base 8 "InvalidCommand" ["self", "command"] (sp_init K (csK K 14) ["command"]) (csK K 14) fI fd (tlOf "ValueError") "ValueError.__new__" ∧ (∃ g, KBn K fd ["self", "command"] 1 ["command"] g (fun vs zs => vs ++ zs)) ∧ ∀ x ∈ (["command"] : List Str), PySem.W.findIn K (.ref (csK K 14)) x = some none :=
    ⟨iniAt K i_InvalidCommand, fd_i_InvalidCommand, ⟨R_i_InvalidCommand.t, R_i_InvalidCommand.i, R_i_InvalidCommand.ti, ok_InvalidCommand R_i_InvalidCommand.t S_i_InvalidCommand (n_InvalidCommand _ (List.mem_singleton.mpr rfl)) R_i_InvalidCommand.lk O_kept, R_i_InvalidCommand.binds fun _ _ _ _ _ us hl => match us, hl with | [_, _], _ => rfl, R_i_InvalidCommand.m⟩, ⟨_, kbi1 R_i_InvalidCommand fun _ _ _ _ _ _ _ => rfl⟩, n_InvalidCommand⟩
  have n_UnknownField := field_of x2 (i := 15) (fl := ["value"]) (List.mem_of_getElem? (i := 15) rfl)
  have E_UnknownField : ∃ (fI : Addr) (fd : FuncData), OwnE R.prog w K mg base 8 "UnknownField" ["self", "value"] (sp_init K (csK K 15) ["value"]) (csK K 15) fI fd (tlOf "LookupError") "LookupError.__new__" ∧ (∃ g, KBn K fd ["self", "value"] 1 ["value"] g (fun vs zs => vs ++ zs)) ∧ ∀ x ∈ (["value"] : List Str), PySem.W.findIn K (.ref (csK K 15)) x = some none :=
    ⟨iniAt K i_UnknownField, fd_i_UnknownField, ⟨R_i_UnknownField.t, R_i_UnknownField.i, R_i_UnknownField.ti, ok_UnknownField R_i_UnknownField.t S_i_UnknownField (n_UnknownField _ (List.mem_singleton.mpr rfl)) R_i_UnknownField.lk O_kept, R_i_UnknownField.binds fun _ _ _ _ _ us hl => match us, hl with | [_, _], _ => rfl, R_i_UnknownField.m⟩, ⟨_, kbi1 R_i_UnknownField fun _ _ _ _ _ _ _ => rfl⟩, n_UnknownField⟩
  have n_UnknownReplica := field_of x2 (i := 16) (fl := ["value"]) (List.mem_of_getElem? (i := 16) rfl)
  have E_UnknownReplica : ∃ (fI : Addr) (fd : FuncData), OwnE R.prog w K mg base 8 "UnknownReplica" ["self", "value"] (sp_init K (csK K 16) ["value"]) (csK K 16) fI fd (tlOf "LookupError") "LookupError.__new__" ∧ (∃ g, KBn K fd ["self", "value"] 1 ["value"] g (fun vs zs => vs ++ zs)) ∧ ∀ x ∈ (["value"] : List Str), PySem.W.findIn K (.ref (csK K 16)) x = some none :=
    ⟨iniAt K i_UnknownReplica, fd_i_UnknownReplica, ⟨R_i_UnknownReplica.t, R_i_UnknownReplica.i, R_i_UnknownReplica.ti, ok_UnknownReplica R_i_UnknownReplica.t S_i_UnknownReplica (n_UnknownReplica _ (List.mem_singleton.mpr rfl)) R_i_UnknownReplica.lk O_kept, R_i_UnknownReplica.binds fun _ _ _ _ _ us hl => match us, hl with | [_, _], _ => rfl, R_i_UnknownReplica.m⟩, ⟨_, kbi1 R_i_UnknownReplica fun _ _ _ _ _ _ _ => rfl⟩, n_UnknownReplica⟩
  have n_UnknownMessage := field_of x2 (i := 17) (fl := ["value"]) (List.mem_of_getElem? (i := 17) rfl)
  have E_UnknownMessage : ∃ (fI : Addr) (fd : FuncData), OwnE R.prog w K mg base 8 "UnknownMessage" ["self", "value"] (sp_init K (csK K 17) ["value"]) (csK K 17) fI fd (tlOf "LookupError") "LookupError.__new__" ∧ (∃ g, KBn K fd ["self", "value"] 1 ["value"] g (fun vs zs => vs ++ zs)) ∧ ∀ x ∈ (["value"] : List Str), PySem.W.findIn K (.ref (csK K 17)) x = some none :=
    ⟨iniAt K i_UnknownMessage, fd_i_UnknownMessage, ⟨R_i_UnknownMessage.t, R_i_UnknownMessage.i, R_i_UnknownMessage.ti, ok_UnknownMessage R_i_UnknownMessage.t S_i_UnknownMessage (n_UnknownMessage _ (List.mem_singleton.mpr rfl)) R_i_UnknownMessage.lk O_kept, R_i_UnknownMessage.binds fun _ _ _ _ _ us hl => match us, hl with | [_, _], _ => rfl, R_i_UnknownMessage.m⟩, ⟨_, kbi1 R_i_UnknownMessage fun _ _ _ _ _ _ _ => rfl⟩, n_UnknownMessage⟩
  have n_NotFree := field_of x2 (i := 18) (fl := ["given"]) (List.mem_of_getElem? (i := 18) rfl)
  have E_NotFree : ∃ (fI : Addr) (fd : FuncData), OwnE R.prog w K mg base 8 "NotFree" ["self", "given"] (sp_init K (csK K 18) ["given"]) (csK K 18) fI fd (tlOf "RuntimeError") "RuntimeError.__new__" ∧ (∃ g, KBn K fd ["self", "given"] 1 ["given"] g (fun vs zs => vs ++ zs)) ∧ ∀ x ∈ (["given"] : List Str), PySem.W.findIn K (.ref (csK K 18)) x = some none :=
    ⟨iniAt K i_NotFree, fd_i_NotFree, ⟨R_i_NotFree.t, R_i_NotFree.i, R_i_NotFree.ti, ok_NotFree R_i_NotFree.t S_i_NotFree (n_NotFree _ (List.mem_singleton.mpr rfl)) R_i_NotFree.lk O_kept, R_i_NotFree.binds fun _ _ _ _ _ us hl => match us, hl with | [_, _], _ => rfl, R_i_NotFree.m⟩, ⟨_, kbi1 R_i_NotFree fun _ _ _ _ _ _ _ => rfl⟩, n_NotFree⟩
  have n_NotDetermined := field_of x2 (i := 19) (fl := ["field"]) (List.mem_of_getElem? (i := 19) rfl)
  have E_NotDetermined : ∃ (fI : Addr) (fd : FuncData), OwnE R.prog w K mg base 1 "NotDetermined" ["self", "field"] (sp_init K (csK K 19) ["field"]) (csK K 19) fI fd (tlOf "RuntimeError") "RuntimeError.__new__" ∧ (∃ g, KBn K fd ["self", "field"] 1 ["field"] g (fun vs zs => vs ++ zs)) ∧ ∀ x ∈ (["field"] : List Str), PySem.W.findIn K (.ref (csK K 19)) x = some none :=
    ⟨iniAt K i_NotDetermined, fd_i_NotDetermined, ⟨R_i_NotDetermined.t, R_i_NotDetermined.i, R_i_NotDetermined.ti, ok_NotDetermined R_i_NotDetermined.t S_i_NotDetermined (n_NotDetermined _ (List.mem_singleton.mpr rfl)) R_i_NotDetermined.lk, R_i_NotDetermined.binds fun _ _ _ _ _ us hl => match us, hl with | [_, _], _ => rfl, R_i_NotDetermined.m⟩, ⟨_, kbi1 R_i_NotDetermined fun _ _ _ _ _ _ _ => rfl⟩, n_NotDetermined⟩
  have n_OtherSheet := field_of x2 (i := 20) (fl := ["index"]) (List.mem_of_getElem? (i := 20) rfl)
  have E_OtherSheet : ∃ (fI : Addr) (fd : FuncData), OwnE R.prog w K mg base 1 "OtherSheet" ["self", "index"] (sp_init K (csK K 20) ["index"]) (csK K 20) fI fd (tlOf "RuntimeError") "RuntimeError.__new__" ∧ (∃ g, KBn K fd ["self", "index"] 1 ["index"] g (fun vs zs => vs ++ zs)) ∧ ∀ x ∈ (["index"] : List Str), PySem.W.findIn K (.ref (csK K 20)) x = some none :=
    ⟨iniAt K i_OtherSheet, fd_i_OtherSheet, ⟨R_i_OtherSheet.t, R_i_OtherSheet.i, R_i_OtherSheet.ti, ok_OtherSheet R_i_OtherSheet.t S_i_OtherSheet (n_OtherSheet _ (List.mem_singleton.mpr rfl)) R_i_OtherSheet.lk, R_i_OtherSheet.binds fun _ _ _ _ _ us hl => match us, hl with | [_, _], _ => rfl, R_i_OtherSheet.m⟩, ⟨_, kbi1 R_i_OtherSheet fun _ _ _ _ _ _ _ => rfl⟩, n_OtherSheet⟩
  have n_Refused := field_of x2 (i := 21) (fl := ["field", "level", "cause"]) (List.mem_of_getElem? (i := 21) rfl)
  have E_Refused : ∃ (fI : Addr) (fd : FuncData), OwnE R.prog w K mg base 8 "Refused" ["self", "field", "level", "cause"] (sp_init K (csK K 21) ["field", "level", "cause"]) (csK K 21) fI fd (tlOf "RuntimeError") "RuntimeError.__new__" ∧ (∃ g, KBn K fd ["self", "field", "level", "cause"] 1 ["cause", "field", "level"] g rot3) ∧ ∀ x ∈ (["field", "level", "cause"] : List Str), PySem.W.findIn K (.ref (csK K 21)) x = some none :=
    ⟨iniAt K i_Refused, fd_i_Refused, ⟨R_i_Refused.t, R_i_Refused.i, R_i_Refused.ti, ok_Refused R_i_Refused.t S_i_Refused n_Refused R_i_Refused.lk O_kept, R_i_Refused.binds fun _ _ _ _ _ us hl => match us, hl with | [_, _, _, _], _ => rfl, R_i_Refused.m⟩, ⟨_, kbi3 R_i_Refused fun _ _ _ _ _ _ _ _ _ => rfl⟩, n_Refused⟩
  have n_Impossible := field_of x2 (i := 22) (fl := ["conflict"]) (List.mem_of_getElem? (i := 22) rfl)
  have E_Impossible : ∃ (fI : Addr) (fd : FuncData), OwnE R.prog w K mg base 8 "Impossible" ["self", "conflict"] (sp_init K (csK K 22) ["conflict"]) (csK K 22) fI fd (tlOf "RuntimeError") "RuntimeError.__new__" ∧ (∃ g, KBn K fd ["self", "conflict"] 1 ["conflict"] g (fun vs zs => vs ++ zs)) ∧ ∀ x ∈ (["conflict"] : List Str), PySem.W.findIn K (.ref (csK K 22)) x = some none :=
    ⟨iniAt K i_Impossible, fd_i_Impossible, ⟨R_i_Impossible.t, R_i_Impossible.i, R_i_Impossible.ti, ok_Impossible R_i_Impossible.t S_i_Impossible (n_Impossible _ (List.mem_singleton.mpr rfl)) R_i_Impossible.lk O_kept, R_i_Impossible.binds fun _ _ _ _ _ us hl => match us, hl with | [_, _], _ => rfl, R_i_Impossible.m⟩, ⟨_, kbi1 R_i_Impossible fun _ _ _ _ _ _ _ => rfl⟩, n_Impossible⟩
  have n_RunFailed := field_of x2 (i := 23) (fl := ["position", "results"]) (List.mem_of_getElem? (i := 23) rfl)
  have E_RunFailed : ∃ (fI : Addr) (fd : FuncData), OwnE R.prog w K mg base 8 "RunFailed" ["self", "position", "results"] (sp_init K (csK K 23) ["position", "results"]) (csK K 23) fI fd (tlOf "RuntimeError") "RuntimeError.__new__" ∧ (∃ g, KBn K fd ["self", "position", "results"] 1 ["results", "position"] g rot2) ∧ ∀ x ∈ (["position", "results"] : List Str), PySem.W.findIn K (.ref (csK K 23)) x = some none :=
    ⟨iniAt K i_RunFailed, fd_i_RunFailed, ⟨R_i_RunFailed.t, R_i_RunFailed.i, R_i_RunFailed.ti, ok_RunFailed R_i_RunFailed.t S_i_RunFailed n_RunFailed R_i_RunFailed.lk O_kept, R_i_RunFailed.binds fun _ _ _ _ _ us hl => match us, hl with | [_, _, _], _ => rfl, R_i_RunFailed.m⟩, ⟨_, kbi2 R_i_RunFailed fun _ _ _ _ _ _ _ _ => rfl⟩, n_RunFailed⟩
  have n_TooMany := field_of x2 (i := 25) (fl := ["kind", "limit"]) (List.mem_of_getElem? (i := 24) rfl)
  have E_TooMany : ∃ (fI : Addr) (fd : FuncData), OwnE R.prog w K mg base 1 "TooMany" ["self", "kind", "limit"] (sp_init K (csK K 25) ["kind", "limit"]) (csK K 25) fI fd (tlOf "ArithmeticError") "ArithmeticError.__new__" ∧ (∃ g, KBn K fd ["self", "kind", "limit"] 1 ["limit", "kind"] g rot2) ∧ ∀ x ∈ (["kind", "limit"] : List Str), PySem.W.findIn K (.ref (csK K 25)) x = some none :=
    ⟨iniAt K i_TooMany, fd_i_TooMany, ⟨R_i_TooMany.t, R_i_TooMany.i, R_i_TooMany.ti, ok_TooMany R_i_TooMany.t S_i_TooMany n_TooMany R_i_TooMany.lk, R_i_TooMany.binds fun _ _ _ _ _ us hl => match us, hl with | [_, _, _], _ => rfl, R_i_TooMany.m⟩, ⟨_, kbi2 R_i_TooMany fun _ _ _ _ _ _ _ _ => rfl⟩, n_TooMany⟩
  have n_NoQuotient := field_of x2 (i := 26) (fl := ["value"]) (List.mem_of_getElem? (i := 25) rfl)
  have E_NoQuotient : ∃ (fI : Addr) (fd : FuncData), OwnE R.prog w K mg base 8 "NoQuotient" ["self", "value"] (sp_init K (csK K 26) ["value"]) (csK K 26) fI fd (tlOf "ArithmeticError") "ArithmeticError.__new__" ∧ (∃ g, KBn K fd ["self", "value"] 1 ["value"] g (fun vs zs => vs ++ zs)) ∧ ∀ x ∈ (["value"] : List Str), PySem.W.findIn K (.ref (csK K 26)) x = some none :=
    ⟨iniAt K i_NoQuotient, fd_i_NoQuotient, ⟨R_i_NoQuotient.t, R_i_NoQuotient.i, R_i_NoQuotient.ti, ok_NoQuotient R_i_NoQuotient.t S_i_NoQuotient (n_NoQuotient _ (List.mem_singleton.mpr rfl)) R_i_NoQuotient.lk O_kept, R_i_NoQuotient.binds fun _ _ _ _ _ us hl => match us, hl with | [_, _], _ => rfl, R_i_NoQuotient.m⟩, ⟨_, kbi1 R_i_NoQuotient fun _ _ _ _ _ _ _ => rfl⟩, n_NoQuotient⟩
  have ES : Es R.prog w K mg base (csK K) := { InvalidName := E_InvalidName, InvalidNumber := E_InvalidNumber, InvalidLevel := E_InvalidLevel, InvalidClock := E_InvalidClock, InvalidCount := E_InvalidCount, InvalidFields := E_InvalidFields, InvalidEquation := E_InvalidEquation, InvalidEquations := E_InvalidEquations, InvalidSetting := E_InvalidSetting, InvalidSettings := E_InvalidSettings, InvalidPairs := E_InvalidPairs, InvalidWishes := E_InvalidWishes, InvalidNames := E_InvalidNames, InvalidText := E_InvalidText, InvalidCommand := E_InvalidCommand, UnknownField := E_UnknownField, UnknownReplica := E_UnknownReplica, UnknownMessage := E_UnknownMessage, NotFree := E_NotFree, NotDetermined := E_NotDetermined, OtherSheet := E_OtherSheet, Refused := E_Refused, Impossible := E_Impossible, RunFailed := E_RunFailed, TooMany := E_TooMany, NoQuotient := E_NoQuotient }
  have Q_NothingToTakeBack := plain_of x1 (i := 24) (B := "RuntimeError") (n := "RuntimeError.__new__") (List.mem_of_getElem? (i := 0) rfl)
  have Q_LastheldError := plain_of x1 (i := 27) (B := "ValueError") (n := "ValueError.__new__") (List.mem_of_getElem? (i := 1) rfl)
  have Q_MissingError := plain_of x1 (i := 28) (B := "LookupError") (n := "LookupError.__new__") (List.mem_of_getElem? (i := 2) rfl)
  have Q_StateError := plain_of x1 (i := 29) (B := "RuntimeError") (n := "RuntimeError.__new__") (List.mem_of_getElem? (i := 3) rfl)
  have Q_LimitError := plain_of x1 (i := 30) (B := "ArithmeticError") (n := "ArithmeticError.__new__") (List.mem_of_getElem? (i := 4) rfl)
  have O_pot : Own R.prog w K mg base CX0 1 "_law_pot" ["_law_script", "_law_k"] (sp_pot K) _ fd_pot := ⟨ok_pot F_pot T, m_pot, F_pot.kp, F_pot.bindsN fun _ _ _ _ _ _ us hl => match us, hl with | [_, _], _ => rfl⟩
  have O_draw : Own R.prog w K mg base CX0 1 "_law_draw" ["_law_pot_here", "_law_many"] sp_draw _ fd_draw := ⟨ok_draw F_draw T, m_draw, F_draw.kp, F_draw.bindsN fun _ _ _ _ _ _ us hl => match us, hl with | [_, _], _ => rfl⟩
  have O_odd : Own R.prog w K mg base CX0 2 "_law_odd" ["_law_pot_here"] (sp_odd K) _ fd_odd := ⟨ok_odd F_odd T O_draw, m_odd, F_odd.kp, F_odd.bindsN fun _ _ _ _ _ _ us hl => match us, hl with | [_], _ => rfl⟩
  have O_flags : Own R.prog w K mg base CX0 1 "_law_flags" ["_law_e"] (sp_flags (csK K)) _ fd_flags := ⟨ok_flags F_flags T2 TK, m_flags, F_flags.kp, F_flags.bindsN fun _ _ _ _ _ _ us hl => match us, hl with | [_], _ => rfl⟩
  have O_bases : Own R.prog w K mg base CX0 1 "_law_bases" ["_law_e"] (sp_bases (csK K)) _ fd_bases := ⟨ok_bases F_bases T2 TK, m_bases, F_bases.kp, F_bases.bindsN fun _ _ _ _ _ _ us hl => match us, hl with | [_], _ => rfl⟩
  have O_is : Own R.prog w K mg base CX0 2 "_law_is" ["_law_e", "_law_place"] (sp_is (csK K)) _ fd_is := ⟨ok_is F_is T2 O_flags O_bases, m_is, F_is.kp, F_is.bindsN fun _ _ _ _ _ _ us hl => match us, hl with | [_, _], _ => rfl⟩
  have O_values_right : OwnG R.prog w K mg base CX0 10 "_law_values_right" ["_law_thing"] (sp_thing K) _ fd_values_right := ⟨ok_values_right F_values_right T2 B TK ES O_is, m_values_right, F_values_right.kp, F_values_right.bindsN fun _ _ _ _ _ _ us hl => match us, hl with | [_], _ => rfl⟩
  have O_places_right : OwnG R.prog w K mg base CX0 10 "_law_places_right" ["_law_thing"] (sp_thing K) _ fd_places_right := ⟨ok_places_right F_places_right T2 B TK ES O_is, m_places_right, F_places_right.kp, F_places_right.bindsN fun _ _ _ _ _ _ us hl => match us, hl with | [_], _ => rfl⟩
  have O_others_right : OwnG R.prog w K mg base CX0 10 "_law_others_right" ["_law_thing", "_law_mate", "_law_third"] (sp_three K) _ fd_others_right := ⟨ok_others_right F_others_right T2 B TK ES Q_NothingToTakeBack.1 Q_NothingToTakeBack.2 O_is, m_others_right, F_others_right.kp, F_others_right.bindsN fun _ _ _ _ _ _ us hl => match us, hl with | [_, _, _], _ => rfl⟩
  have O_plain_right : Own R.prog w K mg base CX0 2 "_law_plain_right" [] sp_plain _ fd_plain_right := ⟨ok_plain_right F_plain_right T2 B TK Q_LastheldError.1 Q_LastheldError.2 Q_MissingError.1 Q_MissingError.2 Q_StateError.1 Q_StateError.2 Q_LimitError.1 Q_LimitError.2 O_flags O_bases, m_plain_right, F_plain_right.kp, F_plain_right.bindsN fun _ _ _ _ _ _ us hl => match us, hl with | [], _ => rfl⟩
  exact ok_law F_law T B O_pot O_odd O_values_right O_places_right O_others_right O_plain_right
end K18
open PySem PySem.W PySem.Calls PyProof.Rows
theorem PySem.Challenge.cw_lastheld_k18_errors_made_holds : PySem.Challenge.rw_lastheld_k18_errors_made.Holds := by
  w_on; o_law
  refine HandSHeadRun.head_any (r := OpenLaw.row PySem.Challenge.rw_lastheld_k18_errors_made) (q := view (OpenLaw.row PySem.Challenge.rw_lastheld_k18_errors_made).prog [44]) (H := K18.hk) (ob := K18.ob) (M := 40000) (loose := K18.names)
    (d := HandSHeadRun.topDef (OpenLaw.row PySem.Challenge.rw_lastheld_k18_errors_made).prog 44) (kwd := []) K18.ob_eq
    (by kernel_rfl) (fun s => by kernel_rfl) K18.run (by kernel_rfl) (by kernel_rfl) (by kernel_rfl) (by rfl) (by first | assumption | decide +kernel) (by decide +kernel) ⟨rfl, rfl, rfl, rfl, rfl, by decide +kernel⟩ ?hw ?hc
  case hw => w_witness2
  case hc =>
    refine Lw.walk_g (l := PySem.Challenge.rw_lastheld_k18_errors_made) (n := 63) (k := 11) (x := "_law_script") (CX := L2.CX0) rfl (by decide) (by kernel_rfl) (by kernel_rfl) ⟨rfl, by decide, by decide⟩ ?F (fun _ _ _ _ z => z)
    intro w mg fa h Y G hmg0
    obtain ⟨K, KX, c⟩ := Y
    have hmg : mg ("law" : PySem.Str) = some (.ref fa) := by
      have e : (HandSHeadRun.topDef (OpenLaw.row PySem.Challenge.rw_lastheld_k18_errors_made).prog 44).name = ("law" : PySem.Str) := by kernel_rfl
      rw [← e]
      exact hmg0
    obtain ⟨fd, hb, hF⟩ := K18.facts (w := w) KX G hmg c
    exact ⟨K, fd, K18.sp_law K, KX, hb, fun H a ns hl _ hS => ⟨a, ns, rfl, hS, hl, fun _ => rfl⟩, hF⟩


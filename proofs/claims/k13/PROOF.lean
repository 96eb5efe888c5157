import PyProof.Rows.All
import Wide.All
import OpenK.AllK
import Wide.FinOn
import PyProof.ReprRoads
import PyProof.StrBlock2
import HandS.ForMost
import HandS.Walk
import HandS.IsInst
import HandS.Defaults
import HandS.Flow
import HandS.Wide
import HandS.HeadEnd
import HandS.ForExc
import HandS.ExcInit
import HandS.ExcIs
import HandS.ExcField
import HandS.NestedK
import KE.KExcSuper
import HandS.Head0
import HandS.Head1
import HandS.Head2
import HandS.HeadHook1
import HandS.HeadHook2
import HandS.Star
import HandS.CallSlots
import HandS.MakeKw
import KE.DataFind
import PyProof.NeKinds
import HandS.DictComp
import HandS.WideBits
import HandS.Style
import PySem.Challenge.RW_lastheld_k13_whole_sums_products_quotien
set_option Elab.async false
set_option linter.all false
set_option maxRecDepth 100000
set_option maxHeartbeats 2000000
namespace Lw
open PySem PySem.Spec PyProof.Rows L2

/-! ## data with empty dicts, and repr -/
mutual
inductive Dq (K : PySem.W.Frag) (H : Hp) : V → PyData → Prop
  | non : Dq K H .non .none
  | bl (b : Bool) : Dq K H (.bl b) (.bool b)
  | int (i : Int) : Dq K H (.int i) (.int i)
  | str (x : Str) : Dq K H (.str x) (.str x)
  | lst {a : Addr} {xs : List V} {ds : List PyData} (h : SqL K H a xs) (g : DqAll K H xs ds) : Dq K H (.ref a) (.list ds)
  | tup {a : Addr} {xs : List V} {ds : List PyData} (h : SqT K H a xs) (g : DqAll K H xs ds) : Dq K H (.ref a) (.tuple ds)
  | dic {a : Addr} (h : H a = some (.dK [])) : Dq K H (.ref a) (.dict [])
inductive DqAll (K : PySem.W.Frag) (H : Hp) : List V → List PyData → Prop
  | nil : DqAll K H [] []
  | cons {v : V} {vs : List V} {d : PyData} {ds : List PyData} (h : Dq K H v d) (g : DqAll K H vs ds) : DqAll K H (v :: vs) (d :: ds)
end

theorem same_t {K : PySem.W.Frag} {H H' : Hp} {a : Addr} {xs : List V} (e : Same H H') (h : SqT K H a xs) : SqT K H' a xs := by
  rcases h with (h | ⟨o, h⟩) | h
  · exact .inl (.inl (e _ _ h))
  · exact .inl (.inr ⟨o, e _ _ h⟩)
  · exact .inr h
theorem same_upd {H : Hp} {p : Addr} {o : HO} (h : H p = none) : Same H (upd H p o) := fun b x e => by
  rw [upd_ne (ne_of_none e h)]
  exact e
mutual
theorem Dq.same {K : PySem.W.Frag} {H H' : Hp} (e : Same H H') : ∀ {v : V} {d : PyData}, Dq K H v d → Dq K H' v d
  | _, _, .non => .non
  | _, _, .bl b => .bl b
  | _, _, .int i => .int i
  | _, _, .str x => .str x
  | _, _, .lst h g => .lst (e.seq h) (DqAll.same e g)
  | _, _, .tup h g => .tup (same_t e h) (DqAll.same e g)
  | _, _, .dic h => .dic (e _ _ h)
theorem DqAll.same {K : PySem.W.Frag} {H H' : Hp} (e : Same H H') : ∀ {v : List V} {d : List PyData}, DqAll K H v d → DqAll K H' v d
  | _, _, .nil => .nil
  | _, _, .cons h g => .cons (Dq.same e h) (DqAll.same e g)
end

/-- the table of modules stands, and is a dict -/
def SysOk (h : Heap) : Prop := ∃ o es ep, h.get? sysModules = some o ∧ o.data = Data.dict es ep

section
variable {X : Cx} {pins : List (Addr × Obj)} {σ : L2.St} {H : Hp} {s : Shared}
theorem no_sys (B : SysOk X.base) (I : Inv X pins σ H s) {a : Addr} {o : Obj} {vs : Array Value} {n : Nat} (h : s.heap.get? a = some o) (hd : o.data = .seq vs n) : sysModules ≠ a := by
  obtain ⟨o', es, ep, e1, e2⟩ := B
  intro z
  have e3 := I.bk _ _ e1
  rw [z, h] at e3
  cases e3
  rw [hd] at e2
  cases e2
theorem dict0 (I : Inv X pins σ H s) {a : Addr} (h : H a = some (.dK [])) : ∃ o es ep, s.heap.get? a = some o ∧ o.cls = .type "dict" ∧ o.data = Data.dict es ep ∧ es.toList = [] ∧ sysModules ≠ a := by
  obtain ⟨_, h1, vs, kv, o, es, ep, e1, e2, e3, _, e5, _⟩ := (show ObjOk X.prog X.w H s.heap a (.dK []) from I.hok a _ h)
  have e6 : vs = [] := by
    have := Paired.length kv
    cases vs with
    | nil => rfl
    | cons _ _ => simp at this
  subst e6
  refine ⟨o, es, ep, e1, e2.1, e3, ?_, fun z => ?_⟩
  · generalize es.toList = l at e5
    cases e5
    rfl
  · rw [← z] at h1
    exact absurd h1 (by decide)
mutual
theorem Dq.reads (B : SysOk X.base) (I : Inv X pins σ H s) : ∀ (d : PyData) (v : V) (u : Value), Dq X.K H v d → RelV v u → ∃ as, Reads s.heap u d as ∧ sysModules ∉ as
  | .none, _, _, h, r => by
    cases h
    cases r
    exact ⟨_, Reads.none, by simp⟩
  | .bool b, _, _, h, r => by
    cases h
    cases r
    exact ⟨_, Reads.bool b, by simp⟩
  | .int i, _, _, h, r => by
    cases h
    obtain ⟨t, rfl⟩ := r
    exact ⟨_, Reads.int i t, by simp⟩
  | .str x, _, _, h, r => by
    cases h
    obtain ⟨t, rfl⟩ := r
    exact ⟨_, Reads.str x t, by simp⟩
  | .list ds, _, _, h, r => by
    cases h with
    | lst hs ha =>
      cases r
      obtain ⟨its, rv, ⟨o, n, ho, hc, _, hd⟩, _⟩ := I.list hs
      obtain ⟨as, hr, hn⟩ := DqAll.reads B I ds _ its ha rv
      refine ⟨_, Reads.list ho hc hd hr, fun z => ?_⟩
      rcases List.mem_cons.mp z with z | z
      · exact no_sys B I ho hd z
      · exact hn z
  | .tuple ds, _, _, h, r => by
    cases h with
    | tup hs ha =>
      cases r
      obtain ⟨its, rv, ⟨o, ho, hc, n, hd⟩, _⟩ := I.tuple hs
      obtain ⟨as, hr, hn⟩ := DqAll.reads B I ds _ its ha rv
      exact ⟨_, Reads.tuple ho hc hd hr, hn⟩
  | .dict kvs, _, _, h, r => by
    cases h with
    | dic h =>
      cases r
      obtain ⟨o, es, ep, e1, e2, e3, e4, e5⟩ := dict0 I h
      refine ⟨_, Reads.dict (as := []) (bs := []) e1 e2 e3 ?_ ?_, fun z => ?_⟩
      · rw [e4]
        exact .nil
      · rw [e4]
        exact .nil
      · rcases List.mem_cons.mp z with z | z
        · exact e5 z
        · simp at z
theorem DqAll.reads (B : SysOk X.base) (I : Inv X pins σ H s) : ∀ (ds : List PyData) (vs : List V) (us : List Value), DqAll X.K H vs ds → Vals vs us → ∃ as, ReadsAll s.heap us ds as ∧ sysModules ∉ as
  | [], _, _, h, r => by
    cases h
    cases r
    exact ⟨_, ReadsAll.nil, by simp⟩
  | d :: ds, _, _, h, r => by
    cases h with
    | cons h1 h2 =>
      cases r with
      | cons r1 r2 =>
        obtain ⟨as, q1, n1⟩ := Dq.reads B I d _ _ h1 r1
        obtain ⟨bs, q2, n2⟩ := DqAll.reads B I ds _ _ h2 r2
        refine ⟨_, ReadsAll.cons q1 q2, fun z => ?_⟩
        rcases List.mem_append.mp z with z | z
        · exact n1 z
        · exact n2 z
end
end

/-- repr(x) of data: its text -/
def rRepr (K : PySem.W.Frag) : List V → Hp → VK → Prop := fun xs H Q =>
  ∃ (v : V) (d : PyData), xs = [v] ∧ Dq K H v d ∧ d.showable = true ∧ d.shown.length ≤ sizeLine ∧ d.depth ≤ 60 ∧ Q (.str d.shown) H
section
variable {X : Cx}
theorem call_repr (B : SysOk X.base) (hg : X.A.guards = some []) (hu : X.A.units + 64 < cLine) : CallR X (.builtin "repr") (rRepr X.K) := by
  intro pins s σ H xs us Q I r h
  obtain ⟨v, d, rfl, hd, hs, hz, hp, q⟩ := h
  obtain ⟨u, rfl, ru⟩ := vals1 r
  obtain ⟨as, r1, ns⟩ := Dq.reads B I d v u hd ru
  cases r1 with
  | none => exact PySem.P.repr_of_none ⟨.str _, H, I.tok _, ⟨_, rfl⟩, q⟩
  | bool b => exact PySem.P.repr_of_bool ⟨.str _, H, I.tok _, ⟨_, rfl⟩, q⟩
  | int i t => exact PySem.P.repr_of_int (by simpa [PyData.showable] using hs) ⟨.str _, H, I.tok _, ⟨_, rfl⟩, q⟩
  | str x t => exact PySem.P.repr_of_str ⟨.str _, H, I.tok _, ⟨_, rfl⟩, q⟩ hz
  | list h1 h2 h3 h4 => exact repr_of_reads' (Reads.list h1 h2 h3 h4) hs (fun _ => ns) hg (by omega) (fun _ _ e => e) (fun h' u tk hk => ⟨.str _, H, I.kept hk, ⟨_, rfl⟩, q⟩) hz
  | tuple h1 h2 h3 h4 => exact repr_of_reads' (Reads.tuple h1 h2 h3 h4) hs (fun _ => ns) hg (by omega) (fun _ _ e => e) (fun h' u tk hk => ⟨.str _, H, I.kept hk, ⟨_, rfl⟩, q⟩) hz
  | dict h1 h2 h3 h4 h5 => exact repr_of_reads' (Reads.dict h1 h2 h3 h4 h5) hs (fun _ => ns) hg (by omega) (fun _ _ e => e) (fun h' u tk hk => ⟨.str _, H, I.kept hk, ⟨_, rfl⟩, q⟩) hz
/-- text * int -/
def rMulS : R2 := fun x y H Q => ∃ (z : Str) (n : Int), x = .str z ∧ y = .int n ∧ MulOk z n ∧ Q (.str (Txt.mul z n)) H
theorem op_mulS : OpR X (binaryOp .Mult) rMulS := by
  intro pins s σ H x y v u Q I rx ry h
  obtain ⟨z, n, rfl, rfl, ok, q⟩ := h
  obtain ⟨t, rfl⟩ := rx
  obtain ⟨t', rfl⟩ := ry
  exact PySem.SB.mul ok fun t k => ⟨.str _, H, I.tok _, ⟨_, rfl⟩, q⟩
end

/-! ## calls by keywords alone -/
section
variable {X : Cx} {CX : CXT} {k n : Nat} {f : Addr} {fd : FuncData} {ps ks : List Str} {sp : Sp} {E : XK} {x : Str} {p pos : Pos} {kws : List Keyword} {tk : TA} {g : List Value → List Value → List Value} {gV : List V → List V → List V}
theorem pe_callW (F : FnOk X.prog X.w X.K X.mg X.base CX k f fd ps sp) (hr : Room k X.A) (hg : Gl X x) (hm : X.mg x = some (.ref f)) (hk : PySem.W.keepIn X.K (.ref f) = true) (hb : KBn X.K fd ps 0 ks g gV)
    (hx : Passes CX X E) (hkw : PK X kws tk)
    (hall : (backToKw pos (keywordEach kws X.env)).all (fun q => q.1.isSome) = true := by rfl)
    (hks : (backToKw pos (keywordEach kws X.env)).filterMap (fun q => q.1) = ks := by rfl)
    (hdb : (x == ("__debug__" : Str)) = false := by decide)
    (hpl : ((backTo pos (starEach [] X.env)).any (fun q => q.1) || (backToKw pos (keywordEach kws X.env)).any (fun q => q.1.isNone)) = false := by rfl) :
    PE X (.Call (.Name x p) [] kws pos) (tCallN 0 ks.length sp gV E tNil tk) := by
  constructor
  intro pins s σ H Q I h
  refine wpAny_Call_Name_kw (ld_glob I hg hm ?_ hdb)
  refine PySem.W.callWith_KW0 (h₀ := X.base) I.ok.mod.kin hk hall ?_ hpl
  refine thn (hkw.run pos pins s σ H _ I h) fun ws s2 hq => ?_
  obtain ⟨zs, H2, I2, rz, l1, l2, q2⟩ := hq
  refine ⟨I2.kIn, ?_⟩
  rw [hks]
  exact run_fnN (us := []) (vs := []) F hr hb hx I2 .nil rz rfl l2 q2
/-- one keyword for the one parameter -/
theorem kb1 {K : PySem.W.Frag} {y qual : Str} {params : Arguments} {body : List Stmt} {scope : Scope} {kw : List (Str × V)} {f : Addr} {fd : FuncData} {a : Str} (F : FunD K y qual params body scope [] kw f fd)
    (h : ∀ (kV doc pm : Value) (an : Option Addr) (cdv ct v : Value), bindArgs (PySem.W.fnOf y qual params body scope .none kV doc pm an cdv ct) ⟨[], [(a, v)]⟩ = pure [(a, v)]) :
    KBn K fd [a] 0 [a] (fun _ ws => ws) (fun _ zs => zs) := by
  obtain ⟨oc, od, dV, kV, doc, pm, an, cdv, ct, osl, rfl, lk, hcd, hD, hK⟩ := F.ex
  rcases hD with ⟨_, rfl⟩ | ⟨e, _⟩
  · refine ⟨fun s us ws X l1 l2 => ?_, fun _ r => r⟩
    match us, ws, l1, l2 with
    | [], [v], _, _ => exact .of_eq (h kV doc pm an cdv ct v)
  · exact absurd rfl e
end

/-! ## defs that are called where no repr is under way -/
structure FnG (P : Program) (w : World) (K : PySem.W.Frag) (mg : Str → Option Value) (base : Heap) (CX : CXT) (k : Nat) (f : Addr) (fd : FuncData) (ps : List Str) (sp : Sp) : Prop where
  len : ∀ vs H Q E, sp vs H Q E → vs.length = ps.length
  run : ∀ (A : Around) (outer : List Env) (s : Shared) (H : Hp) (args : Args) (us : List Value) (vs : List V) (Q : VK) (E : XK),
    A.guards = some [] → Room k A → Env0 P w K mg base A outer s H → BindsTo s fd args (ps.zip us) → Vals vs us → sp vs H Q E →
      codeAny (model P w) A (.call (.ref f) args) (CR CX outer P w H s Q E) s
section
variable {P : Program} {w : World} {K : PySem.W.Frag} {mg : Str → Option Value} {base : Heap} {x qual : Str} {params : Arguments} {body : List Stmt} {scope : Scope} {dvs : List V} {kws : List (Str × V)} {f : Addr} {fd : FuncData}
theorem fn_g {CX : CXT} {N ps : List Str} {k : Nat} {sp : Sp} (F : FunD K x qual params body scope dvs kws f fd) (S : FnScope N ps scope) (len : ∀ vs H Q E, sp vs H Q E → vs.length = ps.length)
    (hbody : ∀ (cdv : Value) (A : Around) (outer : List Env) (s : Shared) (H : Hp) (vs : List V) (Q : VK) (E : XK),
      A.guards = some [] → Room k (A.deeper (envOfC qual scope s.heap.objs.size f cdv)) → sp vs H Q E →
      ∃ t, PSs (cxOf CX P w K mg base N qual scope f cdv A outer s H E) body t ∧ t { nx := fun _ H' => Q .non H', rt := Q } (start N vs) H) :
    FnG P w K mg base CX (k + 1) f fd ps sp := by
  obtain ⟨oc, od, dV, kV, doc, pm, an, cdv, ct, osl, rfl, lk, hcd, _, _⟩ := F.ex
  refine ⟨len, fun A outer s H args us vs Q E hg hr e0 hb r hsp => ?_⟩
  have hk := fun b o e => (e0.bs b o e).1
  have KX : K.In s.heap := e0.mod.kin.keeps hk
  have lim : s.heap.NoLimit := e0.mod.nolimit.keeps hk
  have hkind : ∀ y ∈ ps.zip us, scope.names.lookup y.1 = some .local ∨ (scope.names.lookup y.1 = some .cell ∧ ((cellsFrom (s.heap.objs.size + 1) scope.names []).lookup y.1).isSome = true) := by
    rintro ⟨n, v⟩ hy
    exact (S.par n (List.of_mem_zip hy).1).imp (fun q => q) fun q => ⟨q, PySem.W.cellsFrom_some _ _ _ (.inl q)⟩
  refine codeAny_call_function hr.depth (KX _ _ lk) rfl S.co S.gen rfl (PySem.W.codeRec_of KX hcd) (hb _ _ _ _ ?_)
  refine wpAny_newFunctionEnv_cells S.kind hkind fun env he s1 y => ?_
  subst he
  obtain ⟨t, ht, hq⟩ := hbody cdv A outer s H vs Q E hg (hr.deeper _) hsp
  have I := inv_start (CX := CX) (E := E) S hr.hd e0 (len _ _ _ _ hsp) r y
  refine ⟨lim.keeps y.toInCall.keep, codeAny_func (wpAny_mono (ht.run [] s1 (start N vs) H _ I hq) (fun fl s' hs => ?_) fun e s' hs => hs)⟩
  cases fl with
  | ret u =>
    obtain ⟨v, σ', H', J, rv, q⟩ := hs
    exact ⟨v, H', J.os, J.bare, J.base, J.hok, rv, q⟩
  | next =>
    obtain ⟨σ', H', J, q⟩ := hs
    exact ⟨V.non, H', J.os, J.bare, J.base, J.hok, rfl, q⟩
  | brk => exact hs.elim fun _ z => z.elim fun _ z => z.2.elim
  | cont => exact hs.elim fun _ z => z.elim fun _ z => z.2.elim
end
section
variable {X : Cx} {CX : CXT} {k : Nat} {f : Addr} {fd : FuncData} {ps : List Str} {sp : Sp} {dvs : List V} {ds : List Value} {E : XK} {x : Str} {p pos : Pos} {e : Expr} {es : List Expr} {t : TA}
theorem run_g {pins : List (Addr × Obj)} {σ : L2.St} {H : Hp} {s : Shared} {Q : VK} {us : List Value} {vs : List V} (F : FnG X.prog X.w X.K X.mg X.base CX k f fd ps sp) (hgd : X.A.guards = some []) (hr : Room k X.A) (hb : Binds X.K fd ps ds) (hd : Vals dvs ds) (hx : Passes CX X E)
    (I : Inv X pins σ H s) (r : Vals vs us) (h : sp (vs ++ dvs) H Q E) : wpAny (model X.prog X.w) X.A (call (.ref f) us) (EP X pins σ Q) X.xe s := by
  have r2 : Vals (vs ++ dvs) (us ++ ds) := r.append hd
  have hl : (us ++ ds).length = ps.length := r2.length.symm.trans (F.len _ _ _ _ h)
  refine wpAny_call (codeAny_mono (F.run X.A X.stack s H ⟨us, []⟩ _ _ Q E hgd hr I.env0 (hb s us I.kIn hl) r2 h) fun r s' hq => ?_)
  match r, hq with
  | .error e, hq => exact hx pins σ H s e s' I hq
  | .ok (.ret u), hq => exact I.after hq
  | .ok .next, hq => exact False.elim hq
  | .ok .brk, hq => exact False.elim hq
  | .ok .cont, hq => exact False.elim hq
theorem pe_callg (F : FnG X.prog X.w X.K X.mg X.base CX k f fd ps sp) (hgd : X.A.guards = some []) (hr : Room k X.A) (hg : Gl X x) (hm : X.mg x = some (.ref f)) (hk : PySem.W.keepIn X.K (.ref f) = true) (hb : Binds X.K fd ps ds) (hd : Vals dvs ds) (hx : Passes CX X E)
    (ha : PA X (e :: es) t) (hdb : (x == ("__debug__" : Str)) = false := by decide) (he : starEach (e :: es) X.env = (false, eval e X.env) :: starEach es X.env := by rfl)
    (hpl : (backTo pos (starEach es X.env)).any (fun q => q.1) = false := by rfl) : PE X (.Call (.Name x p) (e :: es) [] pos) (tCall sp dvs E t) := by
  constructor
  intro pins s σ H Q I h
  refine wpAny_Call_Name_kw (ld_glob I hg hm (PySem.W.callWith_K (h₀ := X.base) I.ok.mod.kin hk ?_ he hpl) hdb)
  exact thn (ha.run pos pins s σ H _ I h) fun us s1 ⟨vs, H1, I1, r, q⟩ => ⟨I1.kIn, run_g F hgd hr hb hd hx I1 r q⟩
theorem pe_callg0 (F : FnG X.prog X.w X.K X.mg X.base CX k f fd ps sp) (hgd : X.A.guards = some []) (hr : Room k X.A) (hg : Gl X x) (hm : X.mg x = some (.ref f)) (hk : PySem.W.keepIn X.K (.ref f) = true) (hb : Binds X.K fd ps ds) (hd : Vals dvs ds) (hx : Passes CX X E)
    (hdb : (x == ("__debug__" : Str)) = false := by decide) : PE X (.Call (.Name x p) [] [] pos) (tCall sp dvs E tNil) := by
  constructor
  intro pins s σ H Q I h
  exact wpAny_Call_Name_kw (ld_glob I hg hm (PySem.W.callWith_K0 I.kIn hk (run_g (us := []) F hgd hr hb hd hx I .nil h)) hdb)
end

/-! ## the law's own call -/
theorem law_g {P : Program} {w : World} {K : PySem.W.Frag} {mg mb : Str → Option Value} {CX : CXT} {k : Nat} {fa a : Addr} {fd : FuncData} {x : Str} {sp : Sp} {s₁ : Shared} {vs : List Value} {ns : List Int}
    (KX : K.In s₁.heap) (hns : s₁.heap.Ns mainGlobals mg) (hb : s₁.heap.Ns builtinsNs mb) (hbb : ∀ x : Str, x ≠ "__name__" → mb x = bootBuiltins x) (hlim : s₁.heap.NoLimit) (hsy : SysOk s₁.heap) (hg : s₁.gens = #[])
    (ha : s₁.heap.get? a = some { cls := .type "list", data := .seq vs.toArray }) (hi : IntsAre vs ns) (hl : ns.length ≤ sizeLine) (hr : Room k callerA)
    (F : ∀ base : Heap, K.In base → base.Ns mainGlobals mg → SysOk base → FnG P w K mg base CX k fa fd [x] sp) (hbind : ∀ (s : Shared) (u : Value), BindsTo s fd ⟨[u], []⟩ [(x, u)])
    (hsp : ∀ H : Hp, Only H → SqL K H a (ns.map V.int) → sp [.ref a] H (fun v _ => v = .bl true) fun _ _ _ => False)
    (hCX : ∀ H e s', CX [] H s₁ (fun _ _ _ => False) e s' → False) :
    codeAny (model P w) callerA (.call (.ref fa) ⟨[.ref a], []⟩) (fun r s' => r = .ok (.ret (.bool true)) ∧ OldK s₁.heap s'.heap ∧ s'.os = s₁.os ∧ AllBare s'.gens) s₁ := by
  have rv := vals_ints hi
  have core : ∀ H : Hp, Only H → SqL K H a (ns.map V.int) → HOk P w H s₁.heap → (∀ b, H b ≠ none → b = a) → (H a ≠ none → K.lookup a = none) →
      codeAny (model P w) callerA (.call (.ref fa) ⟨[.ref a], []⟩) (fun r s' => r = .ok (.ret (.bool true)) ∧ OldK s₁.heap s'.heap ∧ s'.os = s₁.os ∧ AllBare s'.gens) s₁ := by
    intro H hO hS hok hA hK
    -- a dict is not the script: it is not tracked
    have noA : ∀ {b : Addr} {o : Obj} {es : Array DictEntry} {ep : Nat}, s₁.heap.get? b = some o → o.data = Data.dict es ep → H b = none := by
      intro b o es ep e d
      refine Classical.byContradiction fun z => ?_
      have e' := hA b z
      subst e'
      rw [ha] at e
      cases e
      cases d
    have nsK : ∀ {b : Addr} {m : Str → Option Value}, s₁.heap.Ns b m → (hidT s₁.heap H).Ns b m := by
      rintro b m ⟨o, es, ep, e, d, r⟩
      exact ⟨o, es, ep, hidT_get e (noA e d), d, r⟩
    have hKb : K.In (hidT s₁.heap H) := by
      intro b o e
      refine hidT_get (KX b o e) (Classical.byContradiction fun z => ?_)
      have e' := hA b z
      subst e'
      rw [hK z] at e
      cases e
    have hM : Mod K mg (hidT s₁.heap H) := by
      obtain ⟨mc, h1, h2⟩ := hlim
      exact ⟨hKb, nsK hns, ⟨mb, nsK hb, hbb⟩, ⟨mc, nsK h1, h2⟩⟩
    have hB : SysOk (hidT s₁.heap H) := by
      obtain ⟨o, es, ep, e1, e2⟩ := hsy
      exact ⟨o, es, ep, hidT_get e1 (noA e1 e2), e2⟩
    have e0 : Env0 P w K mg (hidT s₁.heap H) callerA [] s₁ H := ⟨rfl, hM, fun b o e => of_hidT e, Nat.le_of_eq (hidT_size _ _), trivial, fun b hb => absurd (show b ∈ ([] : List Addr) from hb) (by simp), hok, .of_eq hg⟩
    have run := (F _ hKb (nsK hns) hB).run callerA [] s₁ H ⟨[.ref a], []⟩ [.ref a] [.ref a] _ _ rfl hr e0 (hbind s₁ (.ref a)) (.cons rfl .nil) (hsp H hO hS)
    refine codeAny_mono run fun r s' h => ?_
    match r, h with
    | .error e, h => exact (hCX H e s' h).elim
    | .ok .next, h => exact False.elim h
    | .ok .brk, h => exact False.elim h
    | .ok .cont, h => exact False.elim h
    | .ok (.ret u), h =>
      obtain ⟨v, H', os, bare, un, hok', r', q⟩ := h
      cases (show v = .bl true from q)
      cases (show u = Value.bool true from r')
      refine ⟨rfl, OldK.of_keep fun b o e => ?_, os, bare⟩
      rcases hO b with z | ⟨ob, xs, z⟩
      · exact un.keep b o e z (by intro y; exact absurd (show b ∈ ([] : List Addr) from y) (by simp)) (by simp)
      · have e1 := (hok b _ z).1
        rw [e] at e1
        cases e1
        exact (hok' b _ (un.frzs b _ _ z)).1
  cases hk : K.lookup a with
  | some o =>
    have e := KX a o hk
    rw [ha] at e
    cases e
    refine core (fun _ => none) (fun _ => .inl rfl) (.inr ⟨_, vs.toArray, _, hk, rfl, rfl, rfl, ?_, ?_⟩) (fun b u z => nomatch z) (fun b z => absurd rfl z) fun z => absurd rfl z
    · rw [List.size_toArray, hi.length]
      exact hl
    · simpa using rv
  | none =>
    refine core (upd (fun _ => none) a (.frz { cls := .type "list", data := .seq vs.toArray } (.lst (ns.map V.int)))) (fun b => ?_) (.inl (.inr ⟨_, upd_same⟩)) (fun b u z => ?_) (fun b z => ?_) fun _ => hk
    · by_cases hb : b = a
      · exact .inr ⟨_, _, by rw [hb]; exact upd_same⟩
      · exact .inl (by rw [upd_ne hb])
    · by_cases hb : b = a
      · subst hb
        rw [upd_same] at z
        cases z
        exact ⟨ha, by rw [List.length_map]; exact hl, vs, _, rv, ha⟩
      · rw [upd_ne hb] at z
        cases z
    · exact Classical.byContradiction fun hb => z (by rw [upd_ne hb])

theorem walk_g {l : PySem.W.OpenLaw} {n k : Nat} {q : Program} {loose : List Str} {XP : (Str → Option Value) → Heap → Prop} {YP : World → Heap → Prop} {d : DefRec} {CX : CXT} {x : Str}
    (hn : l.most = some n) (hn2 : n ≤ sizeLine) (hdf : d.params.defaults = []) (hi : importsNone q = true) (hr : Room k callerA)
    (F : ∀ (w : World) (mg : Str → Option Value) (fa : Addr) (h : Heap), YP w h → h.Ns mainGlobals mg → mg d.name = some (.ref fa) →
      ∃ (K : PySem.W.Frag) (fd : FuncData) (sp : Sp), K.In h ∧ (∀ (s : Shared) (u : Value), BindsTo s fd ⟨[u], []⟩ [(x, u)]) ∧
        (∀ (H : Hp) (a : Addr) (ns : List Int), ns.length ≤ n → Only H → SqL K H a (ns.map V.int) → sp [.ref a] H (fun v _ => v = .bl true) fun _ _ _ => False) ∧
        ∀ base : Heap, K.In base → base.Ns mainGlobals mg → SysOk base → FnG l.prog w K mg base CX k fa fd [x] sp)
    (hCX : ∀ (H : Hp) (s : Shared) (e : Value) (s' : Shared), CX [] H s (fun _ _ _ => False) e s' → False) :
    PySem.W.WalkO q loose XP YP l.row.toRowW d [] (fun f vs => PySem.call f vs) := by
  refine Att.attach_call hn hdf fun w s₀ s₁ mg mb fa o pm cd doc a vs ns G Y ho hd hcd hmg hobj hints hlen hg => ?_
  obtain ⟨K, fd, sp, KX, hb, hsp, hF⟩ := F w mg fa _ Y G.T.g hmg
  have hsy : SysOk s₁.heap := by
    obtain ⟨mm, ⟨o, es, ep, e1, e2, _⟩, _⟩ := (G.T.seer hi).mods
    exact ⟨o, es, ep, e1, e2⟩
  exact law_g KX G.T.g G.T.b G.T.builtins G.T.nolimit hsy hg hobj hints (Nat.le_trans hlen hn2) hr hF hb (fun H hO hS => hsp H a ns hlen hO hS) fun H e s' => hCX H s₁ e s'
end Lw

set_option Elab.async false
set_option linter.all false
set_option maxRecDepth 100000
set_option maxHeartbeats 2000000
namespace Lw
open PySem PySem.Spec PyProof.Rows L2

/-! ## the heap without one object -/
def off (H : Hp) (a : Addr) : Hp := fun b => if b = a then none else H b
theorem off_ne {H : Hp} {a b : Addr} (h : b ≠ a) : off H a b = H b := by
  unfold off
  rw [if_neg h]
theorem off_self {H : Hp} {a : Addr} : off H a a = none := by
  unfold off
  rw [if_pos rfl]
theorem off_get {H : Hp} {a b : Addr} {o : HO} (h : off H a b = some o) : b ≠ a ∧ H b = some o := by
  by_cases e : b = a
  · rw [e, off_self] at h
    cases h
  · exact ⟨e, (off_ne e).symm.trans h⟩
theorem off_same {H : Hp} {a : Addr} : Same (off H a) H := fun _ _ h => (off_get h).2
/-- all but a is as it was -/
def Off (a : Addr) (H H' : Hp) : Prop := Same (off H a) (off H' a)
theorem Off.refl {a : Addr} {H : Hp} : Off a H H := fun _ _ h => h
theorem Off.trans {a : Addr} {H H1 H2 : Hp} (x : Off a H H1) (y : Off a H1 H2) : Off a H H2 := fun b o h => y b o (x b o h)
theorem Off.get {a b : Addr} {H H' : Hp} {o : HO} (x : Off a H H') (h : H b = some o) (n : b ≠ a) : H' b = some o := by
  have e := x b o ((off_ne n).trans h)
  exact (off_get e).2
theorem Off.at {a : Addr} {H : Hp} {o : HO} : Off a H (upd H a o) := by
  intro b u h
  obtain ⟨n, e⟩ := off_get h
  rw [off_ne n, upd_ne n]
  exact e
theorem Off.new {a p : Addr} {H : Hp} {o : HO} (h : H p = none) : Off a H (upd H p o) := by
  intro b u g
  obtain ⟨n, e⟩ := off_get g
  rw [off_ne n, upd_ne (ne_of_none e h)]
  exact e
theorem Off.same {a : Addr} {H H' : Hp} (x : Same H H') : Off a H H' := by
  intro b u g
  obtain ⟨n, e⟩ := off_get g
  rw [off_ne n]
  exact x _ _ e
theorem Off.free {a p : Addr} {H H' : Hp} (x : Off a H H') (h : H' p = none) (ha : ∃ o, H a = some o) (n : p ≠ a) : H p = none := by
  cases e : H p with
  | none => rfl
  | some o =>
    rw [x.get e n] at h
    cases h

/-! ## the pot -/
def PotAt (H : Hp) (a : Addr) : Prop := ∃ p q : Int, H a = some (.lst [.int p, .int q]) ∧ 0 ≤ q ∧ q < 2147483648
theorem PotAt.new {H : Hp} {a p : Addr} {o : HO} (h : PotAt H a) (n : H p = none) : PotAt (upd H p o) a := by
  obtain ⟨x, y, e, r⟩ := h
  exact ⟨x, y, by rw [upd_ne (ne_of_none e n)]; exact e, r⟩
theorem PotAt.same {H H' : Hp} {a : Addr} (h : PotAt H a) (s : Same H H') : PotAt H' a := by
  obtain ⟨x, y, e, r⟩ := h
  exact ⟨x, y, s _ _ e, r⟩
theorem PotAt.ne {H : Hp} {a p : Addr} (h : PotAt H a) (n : H p = none) : p ≠ a := by
  obtain ⟨x, y, e, r⟩ := h
  exact (ne_of_none e n).symm

/-! ## data: kinds -/
def tyD : PyData → String
  | .none => "NoneType"
  | .bool _ => "bool"
  | .int _ => "int"
  | .str _ => "str"
  | .list _ => "list"
  | .tuple _ => "tuple"
  | .dict _ => "dict"
theorem Dq.ty {K : PySem.W.Frag} {H : Hp} {v : V} {d : PyData} (h : Dq K H v d) : TyX K H v (.type (tyD d)) := by
  cases h with
  | non => exact .base .non
  | bl b => exact .base (.bl b)
  | int i => exact .base (.int i)
  | str x => exact .base (.str x)
  | lst h _ =>
    rcases h with (h | ⟨o, h⟩) | ⟨o, xs, n, h1, h2, _⟩
    · exact .base (.lst h)
    · exact .base (.frz h)
    · exact .kList h1 h2
  | tup h _ =>
    rcases h with (h | ⟨o, h⟩) | ⟨o, xs, n, h1, h2, _⟩
    · exact .base (.tup h)
    · exact .fTuple h
    · exact .kTuple h1 h2
  | dic h => exact .base (.dK h)
/-- isinstance of data and a built-in class -/
theorem isi_ty {K : PySem.W.Frag} {H : Hp} {v : V} {d : PyData} {T : String} {b : Bool} {Q : VK} (h : Dq K H v d) (e : kitB (tyD d) T = some b) (q : Q (.bl b) H) : rIsi K [v, .ty T] H Q :=
  ⟨v, .ty T, .type (tyD d), .type T, b, rfl, .ty T, h.ty, kit_ty e, q⟩

/-! ## data: sizes -/
theorem len_list2 (a b : Str) : (listText [a, b]).length = a.length + b.length + 4 := by
  show (((("[" : Str) ++ ("" : String) ++ a) ++ (", " : String) ++ b) ++ ("]" : Str)).length = _
  simp only [strLen_append]
  show 1 + 0 + a.length + 2 + b.length + 1 = _
  omega
theorem len_list3 (a b c : Str) : (listText [a, b, c]).length = a.length + b.length + c.length + 6 := by
  show ((((("[" : Str) ++ ("" : String) ++ a) ++ (", " : String) ++ b) ++ (", " : String) ++ c) ++ ("]" : Str)).length = _
  simp only [strLen_append]
  show 1 + 0 + a.length + 2 + b.length + 2 + c.length + 1 = _
  omega
theorem len_bool (b : Bool) : (PyData.bool b).shown.length ≤ 5 := by cases b <;> decide
/-- data that can be shown in a row -/
structure Small (n : Nat) (d : PyData) : Prop where
  sh : d.showable = true
  ln : d.shown.length ≤ n
  dp : d.depth ≤ 10
theorem Small.mono {n m : Nat} {d : PyData} (h : Small n d) (e : n ≤ m) : Small m d := ⟨h.sh, Nat.le_trans h.ln e, h.dp⟩

/-! ## texts of single signs -/
def Bytes (z : Str) : Prop := ∀ c ∈ z.cps.toList, c < 256
theorem small_text {z : Str} {n : Nat} (h : Bytes z) (l : z.length ≤ n) : Small (10 * n + 2) (.str z) := by
  refine ⟨rfl, ?_, ?_⟩
  · have e := StrLaws.reprText_len z fun c hc => Nat.lt_trans (h c hc) (by decide)
    show (reprText z).length ≤ _
    omega
  · simp [PyData.depth]
theorem bytes_join : ∀ (ys : List Str), (∀ y ∈ ys, y.length = 1 ∧ Bytes y) → (Str.join "" ys).length = ys.length ∧ Bytes (Str.join "" ys)
  | [], _ => ⟨rfl, fun c hc => by cases hc⟩
  | [x], h => ⟨(h x (by simp)).1, (h x (by simp)).2⟩
  | x :: y :: r, h => by
    obtain ⟨h1, h2⟩ := bytes_join (y :: r) fun z hz => h z (List.mem_cons_of_mem _ hz)
    obtain ⟨h3, h4⟩ := h x (by simp)
    have e : Str.join "" (x :: y :: r) = x ++ ("" : Str) ++ Str.join "" (y :: r) := rfl
    constructor
    · rw [e, strLen_append, strLen_append, h1, h3]
      show 1 + 0 + (y :: r).length = (y :: r).length + 1
      omega
    · intro c hc
      rw [e] at hc
      have hc' : c ∈ x.cps.toList ++ ([] : List Nat) ++ (Str.join "" (y :: r)).cps.toList := by
        have : (x ++ ("" : Str) ++ Str.join "" (y :: r)).cps.toList = x.cps.toList ++ ([] : List Nat) ++ (Str.join "" (y :: r)).cps.toList := by
          show ((x.cps ++ #[]) ++ (Str.join "" (y :: r)).cps).toList = _
          simp
        rw [← this]
        exact hc
      simp only [List.append_nil, List.mem_append] at hc'
      rcases hc' with q | q
      · exact h4 c q
      · exact h2 c q
theorem sum_ones {ys : List Str} (h : ∀ y ∈ ys, y.length = 1 ∧ Bytes y) : (ys.map fun y => y.length).sum = ys.length := by
  induction ys with
  | nil => rfl
  | cons y r ih =>
    rw [List.map_cons, List.sum_cons, ih fun z hz => h z (List.mem_cons_of_mem _ hz), (h y (by simp)).1, List.length_cons]
    omega
/-- an item of a list, at a place that is told -/
theorem at_in {α : Type} {xs : List α} {i : Int} (h0 : 0 ≤ i) (h1 : i < xs.length) : ∃ v, v ∈ xs ∧ xs[i.toNat]? = some v ∧ atI xs i = some v := by
  have h2 : i.toNat < xs.length := by omega
  refine ⟨xs[i.toNat], List.getElem_mem h2, List.getElem?_eq_getElem h2, ?_⟩
  have q := atI_nat (xs := xs) (j := i.toNat) (List.getElem?_eq_getElem h2)
  rw [Int.toNat_of_nonneg h0] at q
  exact q

/-! ## an own def, with all that a call wants -/
structure Own (P : Program) (w : World) (K : PySem.W.Frag) (mg : Str → Option Value) (base : Heap) (CX : CXT) (k : Nat) (x : Str) (ps : List Str) (sp : Sp) (f : Addr) (fd : FuncData) : Prop where
  ok : FnOk P w K mg base CX k f fd ps sp
  m : mg x = some (.ref f)
  kp : PySem.W.keepIn K (.ref f) = true
  b : Binds K fd ps []
structure OwnG (P : Program) (w : World) (K : PySem.W.Frag) (mg : Str → Option Value) (base : Heap) (CX : CXT) (k : Nat) (x : Str) (ps : List Str) (sp : Sp) (f : Addr) (fd : FuncData) : Prop where
  ok : FnG P w K mg base CX k f fd ps sp
  m : mg x = some (.ref f)
  kp : PySem.W.keepIn K (.ref f) = true
  b : Binds K fd ps []
section
variable {X : Cx} {CX : CXT} {k : Nat} {f : Addr} {fd : FuncData} {ps ks : List Str} {sp : Sp} {x : Str} {p pos : Pos} {e : Expr} {es : List Expr} {t tk : TA} {kws : List Keyword} {g : List Value → List Value → List Value} {gV : List V → List V → List V}
theorem pe_own (O : Own X.prog X.w X.K X.mg X.base CX0 k x ps sp f fd) (hr : Room k X.A) (ha : PA X (e :: es) t) (hg : Gl X x := by rfl) (hdb : (x == ("__debug__" : Str)) = false := by decide)
    (he : starEach (e :: es) X.env = (false, eval e X.env) :: starEach es X.env := by rfl) (hpl : (backTo pos (starEach es X.env)).any (fun q => q.1) = false := by rfl) :
    PE X (.Call (.Name x p) (e :: es) [] pos) (tCall sp [] E0 t) := pe_call O.ok hr hg O.m O.kp O.b .nil pass0 ha hdb he hpl
theorem pe_own0 (O : Own X.prog X.w X.K X.mg X.base CX0 k x ps sp f fd) (hr : Room k X.A) (hg : Gl X x := by rfl) (hdb : (x == ("__debug__" : Str)) = false := by decide) :
    PE X (.Call (.Name x p) [] [] pos) (tCall sp [] E0 tNil) := pe_call0 O.ok hr hg O.m O.kp O.b .nil pass0 hdb
theorem pe_owng (O : OwnG X.prog X.w X.K X.mg X.base CX0 k x ps sp f fd) (hgd : X.A.guards = some []) (hr : Room k X.A) (ha : PA X (e :: es) t) (hg : Gl X x := by rfl) (hdb : (x == ("__debug__" : Str)) = false := by decide)
    (he : starEach (e :: es) X.env = (false, eval e X.env) :: starEach es X.env := by rfl) (hpl : (backTo pos (starEach es X.env)).any (fun q => q.1) = false := by rfl) :
    PE X (.Call (.Name x p) (e :: es) [] pos) (tCall sp [] E0 t) := pe_callg O.ok hgd hr hg O.m O.kp O.b .nil pass0 ha hdb he hpl
theorem pe_owng0 (O : OwnG X.prog X.w X.K X.mg X.base CX0 k x ps sp f fd) (hgd : X.A.guards = some []) (hr : Room k X.A) (hg : Gl X x := by rfl) (hdb : (x == ("__debug__" : Str)) = false := by decide) :
    PE X (.Call (.Name x p) [] [] pos) (tCall sp [] E0 tNil) := pe_callg0 O.ok hgd hr hg O.m O.kp O.b .nil pass0 hdb
theorem pe_ownW (O : Own X.prog X.w X.K X.mg X.base CX0 k x ps sp f fd) (hb : KBn X.K fd ps 0 ks g gV) (hr : Room k X.A) (hkw : PK X kws tk) (hg : Gl X x := by rfl)
    (hall : (backToKw pos (keywordEach kws X.env)).all (fun q => q.1.isSome) = true := by rfl)
    (hks : (backToKw pos (keywordEach kws X.env)).filterMap (fun q => q.1) = ks := by rfl)
    (hdb : (x == ("__debug__" : Str)) = false := by decide)
    (hpl : ((backTo pos (starEach [] X.env)).any (fun q => q.1) || (backToKw pos (keywordEach kws X.env)).any (fun q => q.1.isNone)) = false := by rfl) :
    PE X (.Call (.Name x p) [] kws pos) (tCallN 0 ks.length sp gV E0 tNil tk) := pe_callW O.ok hr hg O.m O.kp hb pass0 hkw hall hks hdb hpl
/-- a constant of the module -/
theorem pe_gi {i : Int} (h : ∃ t, X.mg x = some (.int i t)) (hg : Gl X x := by rfl) (hd : (x == ("__debug__" : Str)) = false := by decide) : PE X (.Name x pos) (tC (.int i)) :=
  h.elim fun t e => pe_glob hg e ⟨t, rfl⟩ hd
theorem pe_gs {z : Str} (h : ∃ t, X.mg x = some (.str z t)) (hg : Gl X x := by rfl) (hd : (x == ("__debug__" : Str)) = false := by decide) : PE X (.Name x pos) (tC (.str z)) :=
  h.elim fun t e => pe_glob hg e ⟨t, rfl⟩ hd
end
end Lw
namespace Lw
open PySem PySem.Spec PyProof.Rows L2
theorem Off.put {a D : Addr} {H H' : Hp} {o : HO} (x : Off a H H') (h : H D = none) : Off a H (upd H' D o) := by
  intro b u g
  obtain ⟨n, e⟩ := off_get g
  rw [off_ne n, upd_ne (ne_of_none e h)]
  exact x.get e n
theorem PotAt.put {H : Hp} {a D : Addr} {o : HO} (h : PotAt H a) (n : D ≠ a) : PotAt (upd H D o) a := by
  obtain ⟨x, y, e, r⟩ := h
  exact ⟨x, y, by rw [upd_ne n.symm]; exact e, r⟩
theorem small_int {i : Int} (h : i.natAbs < 2 ^ 1000) : Small 2000 (.int i) := by
  have h1 : i.natAbs.log2 < 1920 := Nat.lt_of_lt_of_le (PySem.Flt.log2_lt_of (by decide) h) (by decide)
  refine ⟨?_, ?_, ?_⟩
  · show decide (i.natAbs.log2 < 1920) = true
    exact decide_eq_true h1
  · have e := int_text_len_1921 h1
    show (Str.ofString (toString i)).length ≤ 2000
    omega
  · simp [PyData.depth]

/-! ## displays of data -/
def Mk (K : PySem.W.Frag) (te : TE) (d : PyData) : Prop := ∀ σ H (Q : VK), (∀ v H', Same H H' → (∀ a, H a ≠ none → Dq K (off H' a) v d) → Q v H') → te σ H Q
def MkA (K : PySem.W.Frag) (ta : TA) (ds : List PyData) : Prop := ∀ σ H (Q : List V → Hp → Prop), (∀ vs H', Same H H' → vs.length = ds.length → (∀ a, H a ≠ none → DqAll K (off H' a) vs ds) → Q vs H') → ta σ H Q
theorem off_mono {H H' : Hp} {a : Addr} (s : Same H H') : Same (off H a) (off H' a) := Off.same s
theorem same_some {H H' : Hp} {a : Addr} (s : Same H H') (h : H a ≠ none) : H' a ≠ none := by
  cases e : H a with
  | none => exact absurd e h
  | some o =>
    rw [s _ _ e]
    exact fun z => nomatch z
section
variable {K : PySem.W.Frag}
theorem Mk.non : Mk K (tC .non) .none := fun _ H Q h => h _ H (Same.refl H) fun _ _ => .non
theorem Mk.bl {b : Bool} : Mk K (tC (.bl b)) (.bool b) := fun _ H Q h => h _ H (Same.refl H) fun _ _ => .bl b
theorem Mk.int {i : Int} : Mk K (tC (.int i)) (.int i) := fun _ H Q h => h _ H (Same.refl H) fun _ _ => .int i
theorem Mk.str {x : Str} : Mk K (tC (.str x)) (.str x) := fun _ H Q h => h _ H (Same.refl H) fun _ _ => .str x
theorem Mk.neg {i : Int} : Mk K (tUn (rU fun i => .int (-i)) (tC (.int i))) (.int (-i)) := fun _ H Q h => ⟨i, rfl, h _ H (Same.refl H) fun _ _ => .int _⟩
theorem MkA.nil : MkA K tNil [] := fun _ H Q h => h _ H (Same.refl H) rfl fun _ _ => .nil
theorem MkA.cons {te : TE} {ta : TA} {d : PyData} {ds : List PyData} (h1 : Mk K te d) (h2 : MkA K ta ds) : MkA K (tCons te ta) (d :: ds) := by
  intro σ H Q h
  refine h1 σ H _ fun v H1 s1 q1 => h2 σ H1 _ fun vs H2 s2 l2 q2 => h _ H2 (s1.trans s2) (congrArg Nat.succ l2) fun a ha => ?_
  exact .cons (Dq.same (off_mono s2) (q1 a ha)) (q2 a (same_some s1 ha))
theorem mk_new {H : Hp} {p a : Addr} {o : HO} (hp : H p = none) (ha : H a ≠ none) : off (upd H p o) a p = some o := by
  have n : p ≠ a := fun e => ha (e ▸ hp)
  rw [off_ne n, upd_same]
theorem Mk.tup {ta : TA} {ds : List PyData} (h1 : MkA K ta ds) (hl : ds.length ≤ 1000 := by decide) : Mk K (tTup ta) (.tuple ds) := by
  intro σ H Q h
  refine h1 σ H _ fun vs H1 s1 l1 q1 => ⟨?_, fun p hp => h _ _ (s1.trans (same_upd hp)) fun a ha => ?_⟩
  · rw [l1]
    exact Nat.le_of_lt (small1000 hl)
  · exact .tup (.inl (.inl (mk_new hp (same_some s1 ha)))) (DqAll.same (off_mono (same_upd hp)) (q1 a ha))
theorem Mk.lst {ta : TA} {ds : List PyData} (h1 : MkA K ta ds) (hl : ds.length ≤ 1000 := by decide) : Mk K (tLst ta) (.list ds) := by
  intro σ H Q h
  refine h1 σ H _ fun vs H1 s1 l1 q1 => ⟨?_, fun p hp => h _ _ (s1.trans (same_upd hp)) fun a ha => ?_⟩
  · rw [l1]
    exact Nat.le_of_lt (small1000 hl)
  · exact .lst (.inl (.inl (mk_new hp (same_some s1 ha)))) (DqAll.same (off_mono (same_upd hp)) (q1 a ha))
theorem Mk.dict : Mk K tDNewK (.dict []) := by
  intro σ H Q h
  intro p hp
  exact h _ _ (same_upd hp) fun a ha => .dic (mk_new hp ha)
theorem dq_at {H : Hp} : ∀ {vs : List V} {ds : List PyData}, DqAll K H vs ds → ∀ v ∈ vs, ∃ d ∈ ds, Dq K H v d
  | _, _, .nil, v, h => nomatch h
  | _, _, .cons h g, v, hv => by
    rcases List.mem_cons.mp hv with rfl | hv
    · exact ⟨_, List.mem_cons_self .., h⟩
    · obtain ⟨d, hd, e⟩ := dq_at g v hv
      exact ⟨d, List.mem_cons_of_mem _ hd, e⟩
theorem dq_app {H : Hp} : ∀ {vs ws : List V} {ds es : List PyData}, DqAll K H vs ds → DqAll K H ws es → DqAll K H (vs ++ ws) (ds ++ es)
  | _, _, _, _, .nil, q => q
  | _, _, _, _, .cons h g, q => .cons h (dq_app g q)
end
end Lw
namespace Lw
open PySem PySem.Spec PyProof.Rows L2
section
variable {K : PySem.W.Frag}
theorem s_lst {ta : TA} {ds : List PyData} {i : Nat} {u : TS} {D : Ends} {σ : L2.St} {H : Hp} (h : MkA K ta ds) (hl : ds.length ≤ 1000)
    (k : ∀ vs H1 p, Same H H1 → vs.length = ds.length → (∀ a, H a ≠ none → DqAll K (off H1 a) vs ds) → H1 p = none → u D (σ.set i (some (.ref p))) (upd H1 p (.lst vs))) :
    tSeq (tAsg (tLst ta) (gName i)) u D σ H := by
  refine h σ H _ fun vs H1 s l d => ⟨?_, fun p np => k vs H1 p s l d np⟩
  rw [l]
  exact Nat.le_of_lt (small1000 hl)
/-- x + [..] -/
theorem e_cat {ta : TA} {ds : List PyData} {i : Nat} {σ : L2.St} {H : Hp} {Q : VK} {t : Addr} {xs : List V} (h : MkA K ta ds) (hl : xs.length + ds.length ≤ 1000) (hi : σ[i]? = some (some (.ref t))) (ht : H t = some (.lst xs))
    (k : ∀ vs H1 p, Same H H1 → vs.length = ds.length → (∀ a, H a ≠ none → DqAll K (off H1 a) vs ds) → H1 p = none → Q (.ref p) (upd H1 p (.lst (xs ++ vs)))) :
    tOp rCat (tVar i) (tLst ta) σ H Q := by
  refine ⟨.ref t, hi, h σ H _ fun vs H1 s l d => ⟨?_, fun p np => ⟨t, p, xs, vs, rfl, rfl, ?_, upd_same, ?_, fun p2 np2 => ?_⟩⟩⟩
  · rw [l]
    exact Nat.le_of_lt (small1000 (by omega))
  · rw [upd_ne (ne_of_none (s _ _ ht) np)]
    exact s _ _ ht
  · rw [l]
    exact Nat.le_of_lt (small1000 hl)
  · refine k vs (upd H1 p (.lst vs)) p2 (s.trans (same_upd np)) l (fun a ha => DqAll.same (off_mono (same_upd np)) (d a ha)) np2
def rLenQ (K : PySem.W.Frag) : List V → Hp → VK → Prop := fun xs H Q => ∃ (p : Addr) (ys : List V), xs = [.ref p] ∧ (SqL K H p ys ∨ SqT K H p ys) ∧ Q (.int ys.length) H
theorem call_lenQ {X : Cx} : CallR X (.builtin "len") (rLenQ X.K) := call_len_seq
end
end Lw

set_option Elab.async false
set_option linter.all false
set_option maxRecDepth 100000
set_option maxHeartbeats 4000000
namespace Lw
open PySem PySem.Spec PyProof.Rows L2

/-! ## own exceptions over one of the built-in ones -/
/-- own classes, then the mro of a built-in one -/
def refsT (tl : List Value) : List Value → Bool
  | .ref _ :: r => refsT tl r
  | l => l == tl
theorem refsT_or (tl : List Value) (l : List Value) (h : refsT tl l = true) : (∃ c r, l = .ref c :: r ∧ refsT tl r = true) ∨ l = tl := by
  cases l with
  | nil => exact .inr (beq_iff_eq.mp h)
  | cons a r =>
    cases a with
    | ref c => exact .inl ⟨c, r, rfl, h⟩
    | _ => exact .inr (beq_iff_eq.mp h)
/-- what the built-in class says -/
structure ExB (B newId initId : String) (tl : List Value) : Prop where
  fb : ExcBaseFacts B newId initId tl
  kf : PySem.W.KxsFacts B initId
  pass : ∀ self, PySem.refuseLoop self "__setattr__" tl = pure ()
  obj : tl.contains (.type "object") = true
  nn : tl ≠ []
abbrev tlOf (B : String) : List Value := [.type B, .type "Exception", .type "BaseException", .type "object"]
theorem exb_V : ExB "ValueError" "ValueError.__new__" "ValueError.__init__" (tlOf "ValueError") := ⟨F.excBase_ValueError, PySem.W.kxs_ValueError, F.store_ValueError.passes, by decide +kernel, by simp⟩
theorem exb_L : ExB "LookupError" "LookupError.__new__" "LookupError.__init__" (tlOf "LookupError") := ⟨F.excBase_LookupError, PySem.W.kxs_LookupError, F.store_LookupError.passes, by decide +kernel, by simp⟩
theorem exb_R : ExB "RuntimeError" "RuntimeError.__new__" "RuntimeError.__init__" (tlOf "RuntimeError") := ⟨F.excBase_RuntimeError, PySem.W.kxs_RuntimeError, F.store_RuntimeError.passes, by decide +kernel, by simp⟩
theorem exb_A : ExB "ArithmeticError" "ArithmeticError.__new__" "ArithmeticError.__init__" (tlOf "ArithmeticError") := ⟨F.excBase_ArithmeticError, PySem.W.kxs_ArithmeticError, F.store_ArithmeticError.passes, by decide +kernel, by simp⟩
theorem refsT_pass {B newId initId : String} {tl : List Value} (E : ExB B newId initId tl) (self : Value) : ∀ l : List Value, refsT tl l = true → PySem.refuseLoop self "__setattr__" l = pure () := by
  intro l
  induction l with
  | nil =>
    intro h
    exact absurd (beq_iff_eq.mp h).symm E.nn
  | cons a r ih =>
    intro h
    rcases refsT_or tl _ h with ⟨c, r', q, g⟩ | q
    · cases q
      rw [PySem.refuseLoop_ref]
      exact ih g
    · rw [q]
      exact E.pass self
theorem refsT_obj {B newId initId : String} {tl : List Value} (E : ExB B newId initId tl) : ∀ l : List Value, refsT tl l = true → l.contains (.type "object") = true ∧ l.isEmpty = false := by
  intro l
  induction l with
  | nil =>
    intro h
    exact absurd (beq_iff_eq.mp h).symm E.nn
  | cons a r ih =>
    intro h
    refine ⟨?_, rfl⟩
    rcases refsT_or tl _ h with ⟨c, r', q, g⟩ | q
    · cases q
      rw [List.contains_cons, (ih g).1, Bool.or_true]
    · rw [q]
      exact E.obj
/-- what the written part says of a class of exceptions -/
def clsB (K : PySem.W.Frag) (C : Addr) (tl : List Value) (newId : String) : Bool :=
  PySem.W.excInitIn K C tl newId && (((PySem.W.clsIn K C).any fun cd => cd.hasDict && refsT tl cd.mro) && (decide (PySem.W.findIn K (.ref C) "__setattr__" = some (some (.builtin "object.__setattr__"))) &&
    (decide (PySem.W.subIn K (.ref C) (.type "BaseException") = some true) && (decide (PySem.W.typeIn K (.ref C) = some (.type "type")) && PySem.W.keepIn K (.ref C)))))
structure ExcK (K : PySem.W.Frag) (C : Addr) (tl : List Value) (newId : String) : Prop where
  ini : PySem.W.excInitIn K C tl newId = true
  cls : ∃ cd, PySem.W.clsIn K C = some cd ∧ cd.hasDict = true ∧ refsT tl cd.mro = true
  sa : PySem.W.findIn K (.ref C) "__setattr__" = some (some (.builtin "object.__setattr__"))
  exC : PySem.W.subIn K (.ref C) (.type "BaseException") = some true
  tyC : PySem.W.typeIn K (.ref C) = some (.type "type")
  kC : PySem.W.keepIn K (.ref C) = true
theorem clsB_ok {K : PySem.W.Frag} {C : Addr} {tl : List Value} {newId : String} (h : clsB K C tl newId = true) : ExcK K C tl newId := by
  unfold clsB at h
  simp only [Bool.and_eq_true, decide_eq_true_eq] at h
  obtain ⟨h1, h2, h3, h4, h5, h6⟩ := h
  obtain ⟨cd, e, h7⟩ := (Option.any_eq_true _ _).mp h2
  rw [Bool.and_eq_true] at h7
  exact ⟨h1, ⟨cd, e, h7.1, h7.2⟩, h3, h4, h5, h6⟩

section
open PySem.Builtin PySem.Builtin.ObjectAttr
variable {prog : Program} {w : World} {A : Around} {R : Result → Shared → Prop} {hp : Heap} {g : Array GenState} {d : Drawn} {t : Nat} {os : OsState}
/-- the first field of an exception -/
theorem osa_b {B newId initId : String} {tl : List Value} (EB : ExB B newId initId tl) {K : PySem.W.Frag} {name : Str} {tk : Tok} {v : Value} {x C : Addr} {fv : Array Value} {cd : ClassData}
    (X : K.In hp) (hx : hp.get? x = some { cls := .ref C, data := .fields fv }) (hcd : PySem.W.clsIn K C = some cd) (hm : refsT tl cd.mro = true) (hh : cd.hasDict = true) (ha : PySem.W.findIn K (.ref C) name = some none)
    (hq : ∀ h' tk' dx, (∀ b o, b ≠ x → hp.get? b = some o → h'.get? b = some o) → hp.objs.size ≤ dx → dx ≠ x → h'.get? x = some { cls := .ref C, dict := some dx, data := .fields fv } →
      h'.Ns1 dx (fun y => if y = name then some v else none) → R (.ok (.ret .none)) ⟨h', g, d, tk', os⟩) :
    codeAny (model prog w) A (.call (.builtin "object.__setattr__") ⟨[.ref x, .str name tk, v], []⟩) R ⟨hp, g, d, t, os⟩ := by
  obtain ⟨hob, hne⟩ := refsT_obj EB _ hm
  have I : PySem.W.InstAt hp x { cls := .ref C, data := .fields fv } C none := ⟨hx, rfl, rfl, trivial⟩
  have SF := F.store_object
  have hxs : x ≠ hp.objs.size := Nat.ne_of_lt (Heap.lt_size hx)
  have hmro : PySem.W.mroIn K C (.type "object") = some true := by
    unfold PySem.W.mroIn
    rw [hcd, Option.bind_some, if_neg (by rw [hne]; decide), hob]
  have sub : PySem.W.Looks (model prog w) hp (isInstance (.ref x) (.type "object")) true := I.type.andThen (PySem.W.looks_mroIn X hmro)
  refine codeAny_call_builtin SF.slot.plain SF.entry (@PySem.W.check_slot (model prog w) _ _ ⟨hp, g, d, t, os⟩ "object.__setattr__" "object" "__setattr__" (.ref x) [.str name tk, v] [] _ SF.kind SF.split sub (SF.args (.ref x) (.str name tk) v) ?_)
  have hcls : PySem.W.Looks (model prog w) hp (classData C) cd := PySem.W.looks_clsIn X hcd
  have hmr : PySem.W.Looks (model prog w) hp (mroOf (.ref C)) cd.mro := hcls.andThen .now
  have L3 : PySem.W.Looks (model prog w) hp (storeTaker? none) none := .now
  rw [PySem.W.osa_eq, refuse_eq]
  refine wpAny_bind (wpAny_bind (I.type.at (wpAny_bind (hmr.at ?_))))
  rw [refsT_pass EB _ _ hm]
  refine wpAny_pure (wpAny_bind (I.type.at (wpAny_bind ((PySem.W.looks_findIn X ha).at (wpAny_bind (L3.at ?_))))))
  show wpAny _ _ (storeInOwnDict (.ref x) (.ref C) (.str name tk) name v false) _ _ _
  obtain ⟨nm, bs, mro, ns, qn, hd, sn, sb, ab, col, del⟩ := cd
  dsimp only at hh
  subst hh
  unfold storeInOwnDict ownDictForStores
  repeat (first | with_reducible refine HandSPX.store_in_new ?_ ?_ | with_reducible refine wpAny_loadPart_at hx ?_ | with_reducible refine hcls.at ?_ | wp_step)
  · exact ⟨_, #[], _, (Heap.get?_update_ne _ _ _ _ hxs.symm).trans (Heap.get?_push_at rfl rfl), rfl, fun e he => absurd he (by simp), fun _ => rfl⟩
  · intro h' tk' hn' hs
    have hx₁ : (hp.push { cls := .type "dict", data := .dict #[] }).get? x = some { cls := .ref C, data := .fields fv } := Heap.get?_push_of_some _ hx
    refine hq h' tk' hp.objs.size (fun b o hb ho => ?_) (Nat.le_refl _) hxs.symm ?_ hn'
    · exact (hs.2 b (Nat.ne_of_lt (Heap.lt_size ho))).trans ((Heap.get?_update_ne _ _ _ _ hb).trans (Heap.get?_push_of_some _ ho))
    · exact (hs.2 x hxs).trans (Heap.get?_update_self _ hx₁ rfl)
end
end Lw

set_option Elab.async false
set_option linter.all false
set_option maxRecDepth 100000
set_option maxHeartbeats 4000000
namespace Lw
open PySem PySem.Spec PyProof.Rows L2

/-- the words of a def `__init__` that closes over its class -/
structure IniW where
  name : Str
  qual : Str
  params : Arguments
  body : List Stmt
  scope : Scope
/-- such a def as it stands behind the top: its cell cc, its code object cda, its class C -/
structure IniK (P : Program) (K : PySem.W.Frag) (mg : Str → Option Value) (W : IniW) (f cc cda C : Addr) (B initId : String) : Prop where
  lk : ∃ (oc doc pm ct : Value) (od : Option Addr) (osl : Array (Option Value)), K.lookup f = some ⟨oc, od, .func (PySem.W.fnX W.name W.qual W.params W.body W.scope [("__class__", cc)] .none .none doc pm none (.ref cda) ct), osl⟩
  hcd : PySem.W.codeIn K (.ref cda) W.qual = true
  code : ∃ (ccl : Value) (cdd : Option Addr) (vs : Array Value) (ccs : Array (Option Value)) (file : Str) (tf : Tok), K.lookup cda = some ⟨ccl, cdd, .fields vs, ccs⟩ ∧ vs[2]? = some (.str file tf) ∧ ((P.main.file : Str) == file) = true
  cell : ∃ (cl : Value) (cld : Option Addr) (csl : Array (Option Value)), K.lookup cc = some ⟨cl, cld, .cell (some (.ref C)), csl⟩
  top : (P.main.scope.names.lookup ("super" : Str)).isSome = false
  sup : mg "super" = none
  self : (W.params.posonlyargs ++ W.params.args).head?.map (fun a => a.arg) = some "self"
  kind : W.scope.kind = .function
  ksup : W.scope.names.lookup ("super" : Str) = some .globalImplicit
  kcls : W.scope.names.lookup ("__class__" : Str) = some .free
  kself : W.scope.names.lookup ("self" : Str) = some .local
  opq : PySem.W.nsIn K cStatics "thirdparty.any" = some none
  meth : PySem.W.ks_superIn K C C "__init__" = some (some (.builtin initId))
  subB : PySem.W.subIn K (.ref C) (.type B) = some true
  subC : PySem.W.mroIn K C (.ref C) = some true

section
variable {X : Cx} {pins : List (Addr × Obj)} {σ : L2.St} {H : Hp} {s : Shared} {a f cc cda C : Addr} {W : IniW} {B newId initId : String} {tl : List Value} {body : List Stmt} {E : Value → Shared → Prop}
/-- the built-in __init__, bound to the exception, is called -/
theorem mw_call (EB : ExB B newId initId tl) (T : ExcK X.K C tl newId) (I : Inv X pins σ H s) (ha : H a = some (exo a C none)) {u : Addr} (hu : s.heap.get? u = some (PySem.W.kxs_mw initId a)) {rest : List Value} (hz : rest.length ≤ sizeLine)
    {Q : Value → Shared → Prop} (h : ∀ s', Inv X pins σ H s' → Q .none s') : wpAny (model X.prog X.w) X.A (call (.ref u) rest) Q E s := by
  obtain ⟨nm, N', qn, bs, bm, hdct, sn, sub, ab, col, dd, k0, k1, k2, k3, k5, hC, hT⟩ := PySem.W.excInit_of I.kIn T.ini
  obtain ⟨t1, he⟩ := exo_at I.hok ha
  obtain ⟨hh, g, d, tk, os⟩ := s
  refine wpAny_call (codeAny_of_tree ?_)
  show wpAny _ X.A.in1 (callAny (.ref u) ⟨rest, []⟩) _ _ _
  simp only [callAny]
  refine wpAny_bind (wpAny_load hu ?_)
  have e1 : (Value.type "method-wrapper" == Value.type "method" || Value.type "method-wrapper" == Value.type "builtin_function_or_method" || Value.type "method-wrapper" == Value.type "method-wrapper") = true := by decide
  simp only [PySem.W.kxs_mw, e1, if_true]
  refine PySem.W.KFB.if_so (by decide) ?_
  refine wpAny_bind (PySem.W.check_bound_init EB.fb.toExcCallFacts hC he rfl ?_)
  refine wpAny_bind (wpAny_pure (wpAny_pure ?_))
  refine ⟨plainId_quiet EB.fb.init.plain _, codeAny_builtin EB.fb.initEntry ?_⟩
  refine PySem.W.exc_init_tree (cls := .ref C) (t0 := t1) (dv := none) (c2 := .none) (c3 := .none) (b4 := .bool false) he hz fun h' k e' t' => ?_
  have J := I.write (t' := tk) (x := a) (e := a) (o := exo a C none) (by rw [ha]; exact True.intro) (.inl rfl) k ⟨_, e'⟩ (exo_ok e')
  have eu : upd H a (exo a C none) = H := by
    funext b
    by_cases hb : b = a
    · rw [hb, upd_same, ha]
    · rw [upd_ne hb]
  rw [eu] at J
  exact h _ J

/-- super().__init__('..') -/
theorem sup_stmt {p0 p1 p2 p3 p4 p5 : Pos} {j : Nat} {msg : Str} (EB : ExB B newId initId tl) (T : ExcK X.K C tl newId) (S : IniK X.prog X.K X.mg W f cc cda C B initId) (I : Inv X pins σ H s)
    (hsc : X.env.scope = W.scope) (hfn : X.env.func = some f) (hco : X.env.code = .ref cda) (hce : X.env.cells = [(("__class__" : Str), cc)])
    (hN : X.N[0]? = some ("self" : Str)) (h0 : σ[0]? = some (some (.ref a))) (ha : H a = some (exo a C none)) {pl : Sem Bool}
    (hev : eval (.Call (.Attribute (.Call (.Name "super" p0) [] [] p1) "__init__" p2) [.Constant (.str msg) j p3] [] p4) X.env = (do
      let ov ← attributeBase (.Call (.Name "super" p0) [] [] p1) "__init__" X.env (eval (.Call (.Name "super" p0) [] [] p1) X.env)
      standAt p2.atName
      let fx ← holding [ov] (getMethod ov "__init__" pl)
      callWith p4 fx.1 fx.2 (backTo p4 (starEach [.Constant (.str msg) j p3] X.env)) []))
    {Q : Flow → Shared → Prop} (h : ∀ s', Inv X pins σ H s' → Q .next s') :
    PySem.wpAt (model X.prog X.w) X.A (.func body X.env) (exec (.Expr (.Call (.Attribute (.Call (.Name "super" p0) [] [] p1) "__init__" p2) [.Constant (.str msg) j p3] [] p4) p5) X.env) Q E s := by
  have gk : ∀ x : Str, X.env.kindOf x = W.scope.names.lookup x := fun x => by
    show X.env.scope.names.lookup x = _
    rw [hsc]
  refine ks_wpAt_Expr_any ?_ I.quiet rfl
  refine ks_wpAt_MethodCall ?_ hev
  obtain ⟨oc, doc, pm, ct, od, osl, lk⟩ := S.lk
  obtain ⟨ccl, cdd, vs, ccs, file, tf, lc, hvs, hfile⟩ := S.code
  obtain ⟨cl, cld, csl, lcell⟩ := S.cell
  obtain ⟨ar, hp, har⟩ := Option.map_eq_some_iff.mp S.self
  obtain ⟨cd, hcd, _, _⟩ := T.cls
  have KX := I.kIn
  refine ks_wpAt_super_base (env := X.env) ((gk _).trans S.ksup) ((gk _).trans S.kcls) (by decide) hfn (KX _ _ lk) rfl hp hco (KX _ _ lc) rfl hvs hfile S.top ?_
  -- super
  obtain ⟨mb, b1, b2⟩ := I.mod.blt
  refine PySem.W.ks_loadName_global I.ok.kind ((gk _).trans S.ksup) (Calls.loadGlobal_builtin (by rw [I.ok.glob]; exact I.mod.glob.keeps I.bk) S.sup (by rw [I.ok.blt]; exact b1.keeps I.bk) ((b2 _ (by decide)).trans (by first | boot_by_name | rfl | kernel_rfl)) ⟨rfl, ?_⟩)
  -- __class__
  refine wpAny_loadName_free I.ok.kind ((gk _).trans S.kcls) (c := cc) (by rw [hce]; rfl) ⟨_, KX _ _ lcell, rfl⟩ ?_
  -- self
  rw [har]
  obtain ⟨m, hn, hl⟩ := I.loc
  obtain ⟨us, rs, ls⟩ := hl 0 "self" _ hN h0 (.inl (by rw [hsc]; exact S.kself))
  cases (show us = Value.ref a from rs)
  have hm : m "self" = some (.ref a) := by
    rcases ls with ⟨_, q⟩ | ⟨q, _⟩
    · exact q
    · rw [gk, S.kself] at q
      rcases q with q | q <;> cases q
  refine wpAny_loadName_local I.ok.kind ((gk _).trans S.kself) hn hm ?_
  -- the super object
  obtain ⟨t1, he⟩ := exo_at I.hok ha
  obtain ⟨oD, hD1, hD2⟩ : ∃ oD, s.heap.get? C = some oD ∧ oD.data = .cls cd := by
    unfold PySem.W.clsIn at hcd
    split at hcd
    · rename_i c d cd' sl ho
      cases hcd
      exact ⟨_, KX _ _ ho, rfl⟩
    · cases hcd
  have In : PySem.W.InstAt s.heap a { cls := .ref C, dict := none, data := .fields #[.ref t1, .none, .none, .none, .bool false, .none] } C none := ⟨he, rfl, rfl, trivial⟩
  have nac : a ≠ C := PySem.W.ks_ne KX In hcd
  have subB := S.subB
  have meth := S.meth
  have opq := S.opq
  obtain ⟨hh, g, d, t, os⟩ := s
  refine ks_wpAny_isType_cls hD1 hD2 ⟨rfl, ?_⟩
  refine ks_wpAny_call_super hD1 hD2 he rfl (fun c e => nomatch e) (PySem.W.looks_mroIn KX S.subC) (fun h' e k => ?_)
  have I2 : Inv X pins σ H ⟨h', g, d, t, os⟩ := I.kept (t' := t) k
  obtain ⟨t2, he2⟩ := exo_at I2.hok ha
  have In2 : PySem.W.InstAt h' a { cls := .ref C, dict := none, data := .fields #[.ref t2, .none, .none, .none, .bool false, .none] } C none := ⟨he2, rfl, rfl, trivial⟩
  unfold PySem.W.ks_superIn at meth
  rw [hcd] at meth
  refine PySem.W.kxs_getMethod EB.kf e (PySem.W.looks_opaque I2.kIn opq) (l₀ := cd.mro) (fun A Q E s k q => wpAny_bind ((PySem.W.looks_clsIn I2.kIn hcd) A _ E s k (wpAny_pure q))) rfl I2.kIn meth (In2.type.andThen (PySem.W.looks_subIn I2.kIn subB)) nac (by decide) ?_
  have k3 : ∀ b o, h'.get? b = some o → (h'.push (PySem.W.kxs_mw initId a)).get? b = some o := fun b o e => Heap.get?_push_of_some _ e
  have I3 : Inv X pins σ H ⟨h'.push (PySem.W.kxs_mw initId a), g, d, t + 1, os⟩ := I2.kept (t' := t + 1) k3
  have hu : (h'.push (PySem.W.kxs_mw initId a)).get? h'.objs.size = some (PySem.W.kxs_mw initId a) := Heap.get?_push_at rfl rfl
  -- the call
  show wpAny _ _ (callWith p4 (.ref h'.objs.size) [] (backTo p4 (starEach [.Constant (.str msg) j p3] X.env)) []) _ _ _
  have hse : starEach [.Constant (.str msg) j p3] X.env = (false, eval (.Constant (.str msg) j p3) X.env) :: starEach [] X.env := rfl
  rw [hse]
  refine PySem.W.kxs_callWith (i := initId) (x := a) rfl ?_
  refine Calls.evalArgs_plain ?_
  refine Calls.spliced_cons (@Calls.Constant_str _ _ _ _ _ msg j p3 _ (Calls.spliced_nil ⟨hu, ?_⟩))
  exact mw_call EB T (I3.tok _) ha hu (by show 1 ≤ sizeLine; decide) h
end

/-! ## the promise of such an `__init__` -/
section
open NdefX
variable {P : Program} {w : World} {K : PySem.W.Frag} {mg : Str → Option Value} {base : Heap} {f cc cda C : Addr} {W : IniW} {B newId initId : String} {tl : List Value}
abbrev IniW.nf (W : IniW) (cc cda : Addr) : NF := ⟨W.name, W.qual, W.params, W.body, W.scope, [("__class__", cc)], cda⟩
/-- the first statement is super().__init__('..'), the rest is walked -/
theorem ini_ok {CX : CXT} {N ps : List Str} {k : Nat} {sp : Sp} {p0 p1 p2 p3 p4 p5 : Pos} {j : Nat} {msg : Str} {rest : List Stmt} {fd : FuncData} (EB : ExB B newId initId tl) (T : ExcK K C tl newId) (S : IniK P K mg W f cc cda C B initId)
    (hb : W.body = .Expr (.Call (.Attribute (.Call (.Name "super" p0) [] [] p1) "__init__" p2) [.Constant (.str msg) j p3] [] p4) p5 :: rest)
    (SC : NScope N ps ["__class__"] W.scope) (hp0 : ps[0]? = some ("self" : Str)) (len : ∀ vs H Q E, sp vs H Q E → vs.length = ps.length)
    (hself : ∀ vs H Q E, sp vs H Q E → ∃ a, vs[0]? = some (.ref a) ∧ H a = some (exo a C none))
    (hev : ∀ L, ∃ pl, eval (.Call (.Attribute (.Call (.Name "super" p0) [] [] p1) "__init__" p2) [.Constant (.str msg) j p3] [] p4) (envF (W.nf cc cda) f L) = (do
      let ov ← attributeBase (.Call (.Name "super" p0) [] [] p1) "__init__" (envF (W.nf cc cda) f L) (eval (.Call (.Name "super" p0) [] [] p1) (envF (W.nf cc cda) f L))
      standAt p2.atName
      let fx ← holding [ov] (getMethod ov "__init__" pl)
      callWith p4 fx.1 fx.2 (backTo p4 (starEach [.Constant (.str msg) j p3] (envF (W.nf cc cda) f L))) []))
    (hbody : ∀ (A : Around) (outer : List Env) (s : Shared) (H : Hp) (vs : List V) (Q : VK) (E : XK), Room k (A.deeper (envF (W.nf cc cda) f s.heap.objs.size)) → sp vs H Q E →
      ∃ t, PSs (ncx CX P w K mg base N (W.nf cc cda) f A outer s H E) rest t ∧ t { nx := fun _ H' => Q .non H', rt := Q } (startF N vs [some (.ref C)]) H)
    (hfd : ∃ (oc : Value) (od : Option Addr) (osl : Array (Option Value)), K.lookup f = some ⟨oc, od, .func fd, osl⟩) :
    FnOk P w K mg base CX (k + 1) f fd ps sp := by
  refine ⟨len, fun A outer s H args us vs Q E hr e0 hbnd r hsp => ?_⟩
  have keep := fun b o e => (e0.bs b o e).1
  have KX : K.In s.heap := e0.mod.kin.keeps keep
  obtain ⟨oc, doc, pm, ct, od, osl, lk⟩ := S.lk
  obtain ⟨oc', od', osl', lk'⟩ := hfd
  rw [lk] at lk'
  cases lk'
  obtain ⟨cl, cld, csl, lcell⟩ := S.cell
  have hl := len _ _ _ _ hsp
  refine ks_codeAny_call_defAt (body := W.body) hr.depth (KX _ _ lk) rfl (e0.mod.nolimit.keeps keep) (PySem.W.codeRec_of KX S.hcd) rfl hbnd SC.nocell (fun y hy => SC.par y.1 (List.of_mem_zip hy).1) (fun h₁ hns kp => ?_) SC.co SC.gen SC.kind
  have CA : CellsAt [(("__class__" : Str), cc)] ["__class__"] [some (.ref C)] s.heap H := by
    refine ⟨rfl, fun y c hc => ?_, fun x y c hx hy => ?_, fun i y hy => ?_⟩
    · have e : c = cc := by
        by_cases q : y = "__class__"
        · subst q
          exact (Option.some.inj hc).symm
        · have z : ([(("__class__" : Str), cc)]).lookup y = none := by
            simp [List.lookup, show (y == ("__class__" : Str)) = false by simpa using q]
          rw [z] at hc
          cases hc
      subst e
      exact ⟨(e0.bs _ _ (e0.mod.kin _ _ lcell)).2, _, _, KX _ _ lcell, rfl⟩
    · have key : ∀ z : Str, ([(("__class__" : Str), cc)]).lookup z = some c → z = "__class__" := fun z hz => by
        refine Classical.byContradiction fun q => ?_
        simp [List.lookup, show (z == ("__class__" : Str)) = false by simpa using q] at hz
      rw [key x hx, key y hy]
    · match i, hy with
      | 0, hy =>
        cases hy
        refine ⟨cc, rfl, fun v hv => ?_⟩
        cases hv
        exact ⟨.ref C, rfl, _, KX _ _ lcell, rfl⟩
  have I : Inv (ncx CX P w K mg base N (W.nf cc cda) f A outer s H E) [] (startF N vs [some (.ref C)]) H { s with heap := h₁, toks := s.toks + (ps.zip us).length } := inv_startN SC hr.hd e0 hl r CA hns kp
  obtain ⟨a, hv0, ha⟩ := hself _ _ _ _ hsp
  have hN : N[0]? = some ("self" : Str) := by
    have q := congrArg (fun l : List Str => l[0]?) SC.pre
    have pl : 0 < ps.length := (List.getElem?_eq_some_iff.mp hp0).1
    rw [List.getElem?_take_of_lt (by omega), List.getElem?_append_left pl] at q
    exact q.trans hp0
  have h0 : (startF N vs [some (.ref C)])[0]? = some (some (.ref a)) := by
    unfold startF
    have vl : 0 < vs.length := (List.getElem?_eq_some_iff.mp hv0).1
    rw [List.getElem?_append_left (by simpa using vl), List.getElem?_map, hv0]
    rfl
  obtain ⟨pl, hev⟩ := hev s.heap.objs.size
  obtain ⟨t, ht, hq⟩ := hbody A outer s H vs Q E (hr.deeper _) hsp
  show PySem.wpAt _ _ _ (execs W.body (envF (W.nf cc cda) f s.heap.objs.size)) _ _ _
  rw [hb]
  refine ks_wpAt_execs_cons ?_
  refine sup_stmt (X := ncx CX P w K mg base N (W.nf cc cda) f A outer s H E) (W := W) EB T S I rfl rfl rfl rfl hN h0 ha hev fun s' J => ?_
  refine wpAt_of_wpAny ?_
  refine wpAny_mono (ht.run [] s' (startF N vs [some (.ref C)]) H _ J hq) (fun fl s'' hs => ?_) fun e s'' hs => hs
  cases fl with
  | ret u =>
    obtain ⟨v, σ', H', J', rv, q⟩ := hs
    exact ⟨v, H', J'.os, J'.bare, J'.base, J'.hok, rv, q⟩
  | next =>
    obtain ⟨σ', H', J', q⟩ := hs
    exact ⟨V.non, H', J'.os, J'.bare, J'.base, J'.hok, rfl, q⟩
  | brk => exact hs.elim fun _ z => z.elim fun _ z => z.2.elim
  | cont => exact hs.elim fun _ z => z.elim fun _ z => z.2.elim
end
end Lw

set_option Elab.async false
set_option linter.all false
set_option maxRecDepth 100000
set_option maxHeartbeats 4000000
namespace Lw
open PySem PySem.Spec PyProof.Rows L2
section
variable {X : Cx} {pins : List (Addr × Obj)} {σ : L2.St} {H : Hp} {s : Shared} {a C dx : Addr} {f : Str} {y : V} {u : Value} {E : Value → Shared → Prop} {A : Around} {B newId initId : String} {tl : List Value}
/-- self.f = y, the first field of an exception -/
theorem ost_b (EB : ExB B newId initId tl) (T : ExcK X.K C tl newId) (I : Inv X pins σ H s) (e : H a = some (exo a C none)) (hno : PySem.W.findIn X.K (.ref C) f = some none) (ry : L2.RelV y u) {Q : Unit → Shared → Prop}
    (h : ∀ dx s', H dx = none → dx ≠ a → Inv X pins σ (upd (upd H dx (exd dx [(f, y)])) a (exo a C (some dx))) s' → Q () s') : wpAny (model X.prog X.w) A (setAttr (.ref a) f u) Q E s := by
  obtain ⟨cd, hcd, hdict, hmro⟩ := T.cls
  obtain ⟨t1, ho⟩ := exo_at I.hok e
  obtain ⟨hp, g, d, t, os⟩ := s
  refine PySem.W.set_plain I.kIn (ox := { cls := .ref C, dict := none, data := .fields #[.ref t1, .none, .none, .none, .bool false, .none] }) (od := none) ⟨ho, rfl, rfl, trivial⟩ T.sa ?_
  refine osa_b EB I.kIn ho hcd hmro hdict hno fun h' tk' dx k dn dne hx hn => ?_
  have hnd : H dx = none := I.hok.fresh dn
  have na : ∀ {b : Addr}, H b = none → b ≠ a := fun {b} n z => by
    rw [z, e] at n
    cases n
  have nd : ∀ {b : Addr} {o : Obj}, hp.get? b = some o → b ≠ dx := fun {b o} q => Nat.ne_of_lt (Nat.lt_of_lt_of_le (Heap.lt_size q) dn)
  have keepT : ∀ {b : Addr} {o : HO}, H b = some o → exo a C none ≠ o → upd (upd H dx (exd dx [(f, y)])) a (exo a C (some dx)) b = some o := fun {b o} q ne => by
    rw [upd_ne (at_ne e q ne), upd_ne (ne_of_none q hnd)]
    exact q
  have U : Un X.fs [] H (upd (upd H dx (exd dx [(f, y)])) a (exo a C (some dx))) hp h' := by
    refine ⟨fun b o q n _ _ => k b o (na n) q, fun b o q n _ _ => ⟨o.slots, k b o (na n) q⟩, fun b o q n _ => ?_, fun b o q _ => ?_, fun b xs q => keepT q exo_tup, fun b o v q => keepT q exo_frz, fun b ps q => ⟨#[], ?_⟩⟩
    · rw [upd_ne (na n), upd_ne (nd q)]
      exact n
    · by_cases hb : b = a
      · rw [hb]
        exact ⟨_, hx⟩
      · exact ⟨o, k b o hb q⟩
    · rw [keepT q exo_tbl]
      simp
  refine h dx _ hnd dne (I.un (t' := tk') U fun b o q => ?_)
  by_cases hb : b = a
  · subst hb
    rw [upd_same] at q
    cases q
    exact exo_ok hx
  · rw [upd_ne hb] at q
    by_cases hd : b = dx
    · subst hd
      rw [upd_same] at q
      cases q
      exact exd_ok hn (relO_put (fs := []) ry fun g => True.intro)
    · rw [upd_ne hd] at q
      refine (I.hok b o q).stay (fun c v hc z => k c v ?_ z) (fun c hc => keepT hc exo_own) fun c xs hc => keepT hc exo_tup
      rcases hc with hc | hc
      · rw [hc]
        exact hb
      · exact at_ne e hc exo_own
end
/-- self.f = e as the reading of a statement -/
def tOstB (K : PySem.W.Frag) (tl : List Value) (newId : String) (f : Str) (to te : TE) : TS := fun D σ H => te σ H fun y H1 => to σ H1 fun x H2 => ∃ a C : Addr, x = .ref a ∧ ExcK K C tl newId ∧ PySem.W.findIn K (.ref C) f = some none ∧
  H2 a = some (exo a C none) ∧ ∀ dx, H2 dx = none → dx ≠ a → D.nx σ (upd (upd H2 dx (exd dx [(f, y)])) a (exo a C (some dx)))
section
variable {X : Cx} {o e : Expr} {es : List Expr} {to te : TE} {ta : TA} {f : Str} {p p' pos : Pos} {B newId initId : String} {tl : List Value}
theorem ps_ostB (EB : ExB B newId initId tl) (ho : PE X o to) (he : PE X e te) (hs : swapsWith e (some (.Attribute o f p')) pos.line X.env = pure false := by rfl) : PS X (.Assign [.Attribute o f p'] e pos) (tOstB X.K tl newId f to te) := by
  constructor
  intro pins s σ H D I h
  refine plainObj_wpAny_Assign_Attribute (thn (he.run pins s σ H _ I h) fun v s1 hv => ?_) hs
  obtain ⟨y, H1, I1, r1, q1⟩ := hv
  refine thn (ho.run pins s1 σ H1 _ I1 q1) fun u s2 hu => ?_
  obtain ⟨x, H2, I2, r2, a, C, ex, T, hno, ea, q⟩ := hu
  subst ex
  cases (show u = Value.ref a from r2)
  exact ost_b EB T I2 ea hno r1 fun dx s' n ne J => ⟨σ, _, J, q dx n ne⟩
/-- C(e, ..) as what a raise makes -/
theorem pmk_b {CX : CXT} {x : Str} {C fI : Addr} {k : Nat} {fd : FuncData} {ps : List Str} {sp : Sp} (EB : ExB B newId initId tl) (T : ExcK X.K C tl newId) (iC : PySem.W.findIn X.K (.ref C) "__init__" = some (some (.ref fI))) (tI : PySem.W.typeIn X.K (.ref fI) = some (.type "function"))
    (F1 : FnOk X.prog X.w X.K X.mg X.base CX k fI fd ps sp) (hr : Room (k + 1) X.A) (hb : Binds X.K fd ps []) (hx : Passes CX X (fun _ _ _ => False)) (hm : X.mg x = some (.ref C)) (ha : PA X (e :: es) ta) (hg : Gl X x := by rfl)
    (hdb : (x == ("__debug__" : Str)) = false := by decide) (he : starEach (e :: es) X.env = (false, eval e X.env) :: starEach es X.env := by rfl) (hpl : (backTo pos (starEach es X.env)).any (fun q => q.1) = false := by rfl) :
    PMk X (.Call (.Name x p) (e :: es) [] pos) (tMkO C sp [] ta) := by
  intro pins s σ H Q I h
  refine wpAny_Call_Name_kw (ld_glob I hg hm (PySem.W.callWith_K (h₀ := X.base) I.ok.mod.kin T.kC (thn (ha.run pos pins s σ H _ I h) fun us s1 hu => ?_) he hpl) hdb)
  obtain ⟨vs, H1, I1, r1, hz, q1⟩ := hu
  refine ⟨I1.kIn, ?_⟩
  show wpAny _ _ (call (.ref C) us) _ _ _
  obtain ⟨nm, N', qn, bs, bm, hdct, sn, sub, ab, col, dd, k0, k1, k2, k3, k5, hC, hT⟩ := PySem.W.excInit_of I1.kIn T.ini
  obtain ⟨hp, g, dr, tk, os⟩ := s1
  generalize hA : hp.objs.size + 1 = A1
  have hsz : hp.objs.size ≤ A1 := by omega
  have hq := q1 A1 (I1.hok.fresh hsz)
  have kk : ∀ b o, hp.get? b = some o → ((hp.push (PySem.W.kdv_tup us)).push (HandSPX.excO C hp.objs.size)).get? b = some o := fun b o e => Heap.get?_push_of_some _ (Heap.get?_push_of_some _ e)
  have hget : ((hp.push (PySem.W.kdv_tup us)).push (HandSPX.excO C hp.objs.size)).get? A1 = some (HandSPX.excO C hp.objs.size) := by
    rw [← hA]
    heap_get
  have I2 : Inv X pins σ (upd H1 A1 (exo A1 C none)) ⟨(hp.push (PySem.W.kdv_tup us)).push (HandSPX.excO C hp.objs.size), g, dr, tk, os⟩ :=
    I1.laid (t' := tk) (a := A1) (o := exo A1 C none) (h' := (hp.push (PySem.W.kdv_tup us)).push (HandSPX.excO C hp.objs.size)) kk hsz (exo_ok hget)
  have r2 : Vals (V.ref A1 :: (vs ++ [])) (Value.ref A1 :: (us ++ [])) := .cons rfl (r1.append .nil)
  have hl : (Value.ref A1 :: us ++ []).length = ps.length := (r2.length.symm.trans (F1.len _ _ _ _ hq))
  have hus : us.length ≤ sizeLine := by
    rw [← Paired.length r1]
    exact Nat.le_of_lt (small1000 hz)
  refine wpAny_call (HandSPX.call_own EB.fb hT hC (PySem.W.looks_findIn I1.kIn iC) (fun self => PySem.W.bind_fn I1.kIn self tI) hus ?_)
  rw [hA]
  have hbd := hb ⟨(hp.push (PySem.W.kdv_tup us)).push (HandSPX.excO C hp.objs.size), g, dr, tk, os⟩ (Value.ref A1 :: us) I2.kIn hl
  rw [List.cons_append] at hbd
  refine codeAny_mono (F1.run _ X.stack _ _ ⟨Value.ref A1 :: us, []⟩ (Value.ref A1 :: (us ++ [])) _ _ (fun _ _ _ => False) (hr.make C us []) (I2.env0.make C us []) hbd r2 hq) fun r s' hq' => ?_
  match r, hq' with
  | .error er, hq' => exact hx pins σ _ _ er s' I2 hq'
  | .ok .next, hq' => exact False.elim hq'
  | .ok .brk, hq' => exact False.elim hq'
  | .ok .cont, hq' => exact False.elim hq'
  | .ok (.ret u), hq' =>
    obtain ⟨v, H2, os2, bare2, un2, hok2, rv, ev, d, fs, ea, ed, hd1, q2⟩ := hq'
    subst ev
    obtain ⟨h2, g2, d2, t2, os'⟩ := s'
    exact ⟨rv, mk_end (raises_own T.exC T.tyC) I1 hsz kk un2 hok2 os2 bare2 ea ed hd1 q2⟩
end
end Lw

set_option Elab.async false
set_option linter.all false
set_option maxRecDepth 100000
set_option maxHeartbeats 2000000
namespace Lw
open PySem PySem.Spec PyProof.Rows L2
/-! ## common divisors -/
theorem gcd_step (a b : Int) : Int.gcd b (a.fmod b) = Int.gcd a b := by
  rw [Int.fmod_def, Int.gcd_sub_mul_left_right, Int.gcd_comm]
theorem fmod_fall (a b : Int) (h : b ≠ 0) : (a.fmod b).natAbs < b.natAbs := by
  by_cases hb : 0 < b
  · have h1 := Int.fmod_lt_of_pos a hb
    have h2 := Int.fmod_nonneg_of_pos a hb
    omega
  · have hb' : 0 < -b := by omega
    have h1 := Int.fmod_lt_of_pos (-a) hb'
    have h2 := Int.fmod_nonneg_of_pos (-a) hb'
    rw [Int.neg_fmod_neg] at h1 h2
    omega
theorem fmod_le (a b : Int) (h : b ≠ 0) {n : Nat} (hb : b.natAbs < n) : (a.fmod b).natAbs < n := Nat.lt_trans (fmod_fall a b h) hb
theorem abs_if (a : Int) : (if a < 0 then -a else a) = (a.natAbs : Int) := by
  split <;> omega
theorem gcd_pos {n d : Int} (h : d ≠ 0) : 0 < Int.gcd n d := by
  refine Nat.pos_of_ne_zero fun e => ?_
  exact h (Int.gcd_eq_zero_iff.mp e).2
theorem gcd_le {n d : Int} (h : d ≠ 0) : Int.gcd n d ≤ d.natAbs := by
  have e : (Int.gcd n d) ∣ d.natAbs := Int.ofNat_dvd_left.mp (Int.gcd_dvd_right n d)
  exact Nat.le_of_dvd (by omega) e
/-- // by a divisor of some thousand digits, of either sign -/
def CDivG (_ j : Int) : Prop := j ≠ 0 ∧ j.natAbs < 2 ^ 1000
theorem op_fdivG {X : Cx} : OpR X (binaryOp .FloorDiv) (rI CDivG fun i j => .int (i.fdiv j)) := opI fun i j _ _ _ _ _ hc q =>
  floordiv_int hc.1 q (.inl (PyProof.noPylong_of_log2 (Nat.lt_of_lt_of_le (PySem.Flt.log2_lt_of (by decide) hc.2) (by decide))))
/-- the number of a numerator and a denominator other than 0, as data -/
def lowC (n d : Int) : Int := if d < 0 then -(Int.gcd n d : Int) else (Int.gcd n d : Int)
def lowD (n d : Int) : PyData := if d.fdiv (lowC n d) = 1 then .int (n.fdiv (lowC n d)) else .tuple [.int (n.fdiv (lowC n d)), .int (d.fdiv (lowC n d))]
theorem lowC_ne {n d : Int} (h : d ≠ 0) : lowC n d ≠ 0 := by
  have := gcd_pos (n := n) h
  unfold lowC
  split <;> omega
theorem lowC_le {n d : Int} (h : d ≠ 0) : (lowC n d).natAbs ≤ d.natAbs := by
  have := gcd_le (n := n) h
  unfold lowC
  split <;> omega
theorem lowC_dvd (n d : Int) : lowC n d ∣ n ∧ lowC n d ∣ d := by
  have h1 := Int.gcd_dvd_left n d
  have h2 := Int.gcd_dvd_right n d
  unfold lowC
  split
  · exact ⟨Int.neg_dvd.mpr h1, Int.neg_dvd.mpr h2⟩
  · exact ⟨h1, h2⟩
theorem fdiv_le {n c : Int} (hc : c ≠ 0) (h : c ∣ n) : (n.fdiv c).natAbs ≤ n.natAbs := by
  obtain ⟨k, rfl⟩ := h
  rw [Int.mul_fdiv_cancel_left _ hc, Int.natAbs_mul]
  exact Nat.le_mul_of_pos_left _ (by omega)
/-- the same by a law's own words: the denominator is made positive first -/
def ratN (n d : Int) : Int := if d < 0 then -n else n
def ratL (d : Int) : Int := if d < 0 then -d else d
def ratD (n d : Int) : PyData := if ratL d = (Int.gcd (ratN n d) (ratL d) : Int) then .int ((ratN n d).fdiv (Int.gcd (ratN n d) (ratL d) : Int)) else .tuple [.int ((ratN n d).fdiv (Int.gcd (ratN n d) (ratL d) : Int)), .int ((ratL d).fdiv (Int.gcd (ratN n d) (ratL d) : Int))]
theorem rat_gcd (n d : Int) : Int.gcd (ratN n d) (ratL d) = Int.gcd n d := by
  unfold ratN ratL
  split
  · rw [Int.gcd_neg, Int.neg_gcd]
  · rfl
theorem rat_div {n d : Int} (h : d ≠ 0) : (ratN n d).fdiv (Int.gcd n d : Int) = n.fdiv (lowC n d) ∧ (ratL d).fdiv (Int.gcd n d : Int) = d.fdiv (lowC n d) := by
  have hp := gcd_pos (n := n) h
  have hg : (Int.gcd n d : Int) ≠ 0 := by omega
  obtain ⟨x, hx⟩ := Int.gcd_dvd_left n d
  obtain ⟨y, hy⟩ := Int.gcd_dvd_right n d
  generalize hG : (Int.gcd n d : Int) = G at *
  have hC : lowC n d = if d < 0 then -G else G := by
    unfold lowC
    rw [hG]
  unfold ratN ratL
  rw [hC]
  by_cases hd : d < 0
  · rw [if_pos hd, if_pos hd, if_pos hd]
    have n1 : -n = G * -x := by rw [hx, Int.mul_neg]
    have d1 : -d = G * -y := by rw [hy, Int.mul_neg]
    have n2 : n = -G * -x := by rw [hx, Int.neg_mul_neg]
    have d2 : d = -G * -y := by rw [hy, Int.neg_mul_neg]
    have e1 : (-n).fdiv G = -x := by rw [n1, Int.mul_fdiv_cancel_left _ hg]
    have e2 : (-d).fdiv G = -y := by rw [d1, Int.mul_fdiv_cancel_left _ hg]
    have e3 : n.fdiv (-G) = -x := by
      rw [n2]
      exact Int.mul_fdiv_cancel_left _ (by omega)
    have e4 : d.fdiv (-G) = -y := by
      rw [d2]
      exact Int.mul_fdiv_cancel_left _ (by omega)
    rw [e1, e2, e3, e4]
    exact ⟨rfl, rfl⟩
  · rw [if_neg hd, if_neg hd, if_neg hd]
    exact ⟨rfl, rfl⟩
theorem ratD_eq {n d : Int} (h : d ≠ 0) : ratD n d = lowD n d := by
  have hp := gcd_pos (n := n) h
  obtain ⟨e1, e2⟩ := rat_div (n := n) h
  unfold ratD lowD
  rw [rat_gcd, e1, e2]
  have key : (ratL d = (Int.gcd n d : Int)) ↔ (d.fdiv (lowC n d) = 1) := by
    rw [← e2]
    have hv : (Int.gcd n d : Int) ∣ ratL d := by
      unfold ratL
      split
      · exact Int.dvd_neg.mpr (Int.gcd_dvd_right n d)
      · exact Int.gcd_dvd_right n d
    obtain ⟨k, hk⟩ := hv
    rw [hk, Int.mul_fdiv_cancel_left _ (by omega)]
    constructor
    · intro q
      have q2 : (Int.gcd n d : Int) * k = (Int.gcd n d : Int) * 1 := by rw [q, Int.mul_one]
      exact Int.eq_of_mul_eq_mul_left (by omega) q2
    · rintro rfl
      rw [Int.mul_one]
  by_cases c : d.fdiv (lowC n d) = 1
  · rw [if_pos (key.mpr c), if_pos c]
  · rw [if_neg (fun q => c (key.mp q)), if_neg c]
/-! ## new data -/
/-- what H' has and H has not -/
def nw (H H' : Hp) : Hp := fun b => match H b with
  | some _ => none
  | none => H' b
theorem nw_at {H H' : Hp} {b : Addr} (h : H b = none) : nw H H' b = H' b := by
  unfold nw
  rw [h]
theorem nw_get {H H' : Hp} {b : Addr} {o : HO} (h : nw H H' b = some o) : H b = none ∧ H' b = some o := by
  cases e : H b with
  | none =>
    rw [nw_at e] at h
    exact ⟨rfl, h⟩
  | some u =>
    unfold nw at h
    rw [e] at h
    cases h
/-- data that lie in what is new -/
def Fresh (K : PySem.W.Frag) (H H' : Hp) (v : V) (d : PyData) : Prop := Dq K (nw H H') v d
theorem nw_same {H H' : Hp} : Same (nw H H') H' := fun _ _ h => (nw_get h).2
theorem nw_off {H H' : Hp} {a : Addr} (h : H a ≠ none) : Same (nw H H') (off H' a) := fun b o g => by
  obtain ⟨h1, h2⟩ := nw_get g
  have n : b ≠ a := fun e => by
    rw [e] at h1
    exact h h1
  rw [off_ne n]
  exact h2
theorem nw_mono {H H1 H' H2 : Hp} (s : ∀ b, H1 b = none → H b = none) (t : ∀ b o, H1 b = none → H' b = some o → H2 b = some o) : Same (nw H1 H') (nw H H2) := fun b o g => by
  obtain ⟨h1, h2⟩ := nw_get g
  rw [nw_at (s b h1)]
  exact t b o h1 h2
theorem same_none {H H' : Hp} (s : Same H H') : ∀ b, H' b = none → H b = none := fun b h => s.free h
theorem Fresh.dq {K : PySem.W.Frag} {H H' : Hp} {v : V} {d : PyData} (h : Fresh K H H' v d) : Dq K H' v d := Dq.same nw_same h
theorem Fresh.away {K : PySem.W.Frag} {H H' : Hp} {v : V} {d : PyData} {a : Addr} (h : Fresh K H H' v d) (ha : H a ≠ none) : Dq K (off H' a) v d := Dq.same (nw_off ha) h
theorem Fresh.later {K : PySem.W.Frag} {H H' H2 : Hp} {v : V} {d : PyData} (h : Fresh K H H' v d) (s : Same H' H2) : Fresh K H H2 v d := Dq.same (nw_mono (fun _ e => e) fun b o _ e => s b o e) h
theorem Fresh.sooner {K : PySem.W.Frag} {H H0 H' : Hp} {v : V} {d : PyData} (h : Fresh K H H' v d) (s : Same H0 H) : Fresh K H0 H' v d := Dq.same (nw_mono (same_none s) fun b o _ e => e) h
mutual
def slim : PyData → Bool
  | .list xs => decide (xs.length ≤ 900) && slimAll xs
  | .tuple xs => decide (xs.length ≤ 900) && slimAll xs
  | _ => true
def slimAll : List PyData → Bool
  | [] => true
  | x :: xs => slim x && slimAll xs
end
theorem slim_at : ∀ {ds : List PyData} {d : PyData}, slimAll ds = true → d ∈ ds → slim d = true
  | [], _, _, h => nomatch h
  | x :: xs, d, h, hd => by
    have h' : (slim x && slimAll xs) = true := by simpa only [slimAll] using h
    rw [Bool.and_eq_true] at h'
    rcases List.mem_cons.mp hd with rfl | hd
    · exact h'.1
    · exact slim_at h'.2 hd
theorem depth_at : ∀ {ds : List PyData} {d : PyData}, d ∈ ds → d.depth ≤ PyData.depthAll ds
  | [], _, h => nomatch h
  | x :: xs, d, hd => by
    simp only [PyData.depthAll]
    rcases List.mem_cons.mp hd with rfl | hd
    · omega
    · have := depth_at (ds := xs) hd
      omega
theorem dqall_snoc {K : PySem.W.Frag} {H : Hp} : ∀ {vs : List V} {ds : List PyData} {v : V} {d : PyData}, DqAll K H vs ds → Dq K H v d → DqAll K H (vs ++ [v]) (ds ++ [d])
  | _, _, _, _, .nil, h => .cons h .nil
  | _, _, _, _, .cons h g, q => .cons h (dqall_snoc g q)
theorem dq_get {K : PySem.W.Frag} {H : Hp} : ∀ {vs : List V} {ds : List PyData} {i : Nat} {v : V}, DqAll K H vs ds → vs[i]? = some v → ∃ d, ds[i]? = some d ∧ Dq K H v d
  | _, _, _, _, .nil, e => by simp at e
  | _, _, 0, _, .cons h _, e => by
    simp at e
    subst e
    exact ⟨_, rfl, h⟩
  | _, _, i + 1, v, .cons _ g, e => by
    obtain ⟨d, h1, h2⟩ := dq_get g (i := i) (v := v) (by simpa using e)
    exact ⟨d, by simpa using h1, h2⟩
theorem dq_len {K : PySem.W.Frag} {H : Hp} : ∀ {vs : List V} {ds : List PyData}, DqAll K H vs ds → vs.length = ds.length
  | _, _, .nil => rfl
  | _, _, .cons _ g => congrArg Nat.succ (dq_len g)
end Lw

set_option Elab.async false
set_option linter.all false
set_option maxRecDepth 100000
set_option maxHeartbeats 4000000
namespace Lw
open PySem PySem.Spec PyProof.Rows L2
section
open PySem.W
variable {K : Frag} {x D : Addr} {ox : Obj} {od : Option Obj}
theorem find_data {C : Addr} {name : Str} {a g : Value} (hc : (clsIn K C).isSome = true) (ha : findIn K (.ref C) name = some (some a)) (hg : specialIn K a "__get__" = some (some g)) (ht : takesIn K a = some true) : findObj K C od name = some (.bind g a) := by
  cases od with
  | none => exact findObj_dataN hc ha hg ht
  | some o => exact findObj_data hc ha hg ht
/-- the class of an exception, whatever its dict -/
theorem class_exc (T : ExcC K D) {prog : Program} {w : World} {A : Around} {E : Value → Shared → Prop} {Q : Option Value → Shared → Prop} {s : Shared} (X : K.In s.heap) (I : InstAt s.heap x ox D od)
    (h : Q (some (.ref D)) { s with toks := s.toks + 1 }) : wpAny (model prog w) A (getAttr? (.ref x) "__class__") Q E s := by
  have hsome : (clsIn K D).isSome = true := by
    obtain ⟨cd, hc, _⟩ := any_some T.hd
    rw [hc]
    rfl
  have hf : findObj K D od "__class__" = some (.bind (.builtin "getset_descriptor.__get__") (.builtin "object.__class__")) := find_data hsome T.ha T.hn T.ht
  obtain ⟨hp, g, d, t, os⟩ := s
  have L0 := I.type (M := model prog w)
  have LG := looks_findIn (M := model prog w) X T.hg
  have LK := looks_findIn (M := model prog w) X T.hk
  have LF := looks_find (M := model prog w) X I hf
  have sub : Looks (model prog w) hp (isInstance (.ref x) (.type "BaseException")) true := L0.andThen (looks_subIn X T.hs)
  have n1 : (Value.builtin "BaseException.__getattribute__" == Value.builtin "object.__getattribute__") = false := by decide +kernel
  have n2 : (onTheHeap (Value.ref D) && Value.builtin "BaseException.__getattribute__" == Value.builtin "object.__getattribute__") = false := by
    rw [n1]
    rfl
  have n3 : (false && onTheHeap (Value.builtin "BaseException.__getattribute__")) = false := rfl
  unfold getAttr? getAttrBy? getAttrBy
  refine wpAny_bind (wpAny_mkText (wpAny_bind (wpAny_attempt (wpAny_holding (wpAny_bind (L0.at (wpAny_bind (LG.at ?_))))))))
  show wpAny _ _ (if (onTheHeap (Value.ref D) && Value.builtin "BaseException.__getattribute__" == Value.builtin "object.__getattribute__") = true then _ else _) _ _ _
  rw [n2, if_neg Bool.false_ne_true]
  unfold getAttrByItsOwn hookBefore
  refine wpAny_bind ?_
  rw [if_pos (show onTheHeap (Value.ref D) = true from rfl)]
  refine LK.at (wpAny_bind (wpAny_attempt (wpAny_holding ?_)))
  unfold callGetattribute
  rw [n3, if_neg Bool.false_ne_true]
  unfold boundAndCalled
  rw [PySem.F.excAttr_ValueError.ga.bind (.ref x)]
  refine wpAny_bind (wpAny_pure ?_)
  show wpAny _ _ (call (.builtin "BaseException.__getattribute__") [.ref x, .str "__class__" t]) _ _ _
  refine wpAny_call (codeAny_call_builtin PySem.F.excAttr_ValueError.ga.plain PySem.F.entry_bexc_ga ?_)
  refine @check_slot (model prog w) _ _ ⟨hp, g, d, t + 1, os⟩ "BaseException.__getattribute__" "BaseException" "__getattribute__" (.ref x) [.str "__class__" t] [] _ (by decide +kernel) (by decide +kernel) sub (PySem.F.args_bexc_ga (.ref x) (.str "__class__" t)) ?_
  unfold Builtin.«object.__getattribute__»
  refine wpAny_bind (wpAny_of_eq (a := ((Value.ref x : Value), [Value.str "__class__" t])) (by first | rfl | (simp only [slotArgs]; rfl)) ?_)
  refine wpAny_bind (wpAny_pure (wpAny_bind (L0.at (wpAny_bind (LF.at ?_)))))
  show wpAny _ _ (holding [Value.builtin "object.__class__"] (call (.builtin "getset_descriptor.__get__") [.builtin "object.__class__", .ref x, .ref D]) >>= ret) _ _ _
  refine wpAny_bind (wpAny_holding (wpAny_call (class_get (s := ⟨hp, g, d, t + 1, os⟩) (ox := ox) (od := od) X I T.hm ?_)))
  refine wpAny_pure ?_
  show wpAny _ _ (handedOut (.ref D)) _ _ _
  rw [handedOut_of (v := .ref D) rfl]
  first
    | exact wpAny_pure (wpAny_pure h)
    | exact wpAny_pure h
    | exact wpAny_pure (wpAny_bind (wpAny_pure (wpAny_pure h)))
theorem kit_exc (T : ExcC K D) : KitX K (.ref x) (.ref D) (fun h => InstAt h x ox D od) where
  ty := fun _ _ _ I => I.type
  it := fun _ _ X _ => by
    obtain ⟨cd, hc, _⟩ := any_some T.hd
    unfold clsIn at hc
    split at hc
    · rename_i c' d' cd' sl' ho
      intro A' Q' E' s' k q
      unfold isType loadHead
      exact wpAny_bind (wpAny_loadPart (k _ _ (X _ _ ho)) (wpAny_pure q))
    · cases hc
  ne := fun h tp dd its n sl X htp => by
    obtain ⟨cd, hc, _⟩ := any_some T.hd
    refine Bool.eq_false_iff.mpr fun q => ?_
    cases Value.ref.inj (beq_iff_eq.mp q)
    unfold clsIn at hc
    split at hc
    · rename_i c' d' cd' sl' ho
      have z := (X _ _ ho).symm.trans htp
      cases z
    · cases hc
  ca := fun X I k => class_exc T X I k
end
def excB (K : PySem.W.Frag) (D : Addr) : Bool :=
  decide (PySem.W.findIn K (.ref D) "__getattribute__" = some (some (.builtin "BaseException.__getattribute__"))) && (decide (PySem.W.findIn K (.ref D) "__getattr__" = some none) && (decide (PySem.W.subIn K (.ref D) (.type "BaseException") = some true) &&
    (PySem.W.hasDictIn K D && (decide (PySem.W.findIn K (.ref D) "__class__" = some (some (.builtin "object.__class__"))) && (decide (PySem.W.specialIn K (.builtin "object.__class__") "__get__" = some (some (.builtin "getset_descriptor.__get__"))) &&
      (decide (PySem.W.takesIn K (.builtin "object.__class__") = some true) && decide (PySem.W.mroIn K D (.type "object") = some true)))))))
theorem excB_ok {K : PySem.W.Frag} {D : Addr} (h : excB K D = true) : ExcC K D := by
  unfold excB at h
  simp only [Bool.and_eq_true, decide_eq_true_eq] at h
  obtain ⟨h1, h2, h3, h4, h5, h6, h7, h8⟩ := h
  exact ⟨h1, h2, h3, h4, h5, h6, h7, h8⟩
/-- isinstance(e, c), e the exception with a dict that the suite holds -/
def rIsX (K : PySem.W.Frag) (a : Addr) (cls : Value) (d : Option Addr) : List V → Hp → VK → Prop := fun xs H Q =>
  ∃ (D dx : Addr) (c : V) (cv : Value) (b : Bool) (fs : List (Str × V)), cls = .ref D ∧ d = some dx ∧ ExcC K D ∧ xs = [.ref a, c] ∧ ClsV c cv ∧ PySem.W.kitOne K (.ref D) cv = some b ∧ H dx = some (.xd fs) ∧ Q (.bl b) H
/-- isinstance(e, (c, ..)) -/
def rIsXT (K : PySem.W.Frag) (a : Addr) (cls : Value) (d : Option Addr) : List V → Hp → VK → Prop := fun xs H Q =>
  ∃ (D dx tp : Addr) (cs : List V) (us : List Value) (b : Bool) (fs : List (Str × V)), cls = .ref D ∧ d = some dx ∧ ExcC K D ∧ xs = [.ref a, .ref tp] ∧ H tp = some (.tup cs) ∧ Paired ClsV cs us ∧ PySem.W.kitAny K (.ref D) us = some b ∧ H dx = some (.xd fs) ∧ Q (.bl b) H
section
variable {X : Cx} {a : Addr} {oe : Obj} {cls : Value} {d : Option Addr} {pn : List (Addr × Obj)}
theorem inst_of {pins : List (Addr × Obj)} {σ : L2.St} {H : Hp} {s : Shared} {D dx : Addr} {fs : List (Str × V)} (I : Inv (X.suite a ((a, oe) :: pn)) pins σ H s) (hz : Zc (.ref D) (some dx) oe) (hf : ∃ vs, oe.data = .fields vs) (hx : H dx = some (.xd fs)) :
    ∃ od, PySem.W.InstAt s.heap a oe D (some od) := by
  obtain ⟨hget, _⟩ := I.pin (a, oe) (List.mem_append_left _ List.mem_cons_self)
  obtain ⟨mA, ⟨o, es, ep, ho, _⟩, _⟩ := (show ObjOk X.prog X.w H s.heap dx (.xd fs) from I.hok dx _ hx)
  obtain ⟨vs, hv⟩ := hf
  refine ⟨o, hget, hz.1, ?_, ?_⟩
  · unfold PySem.W.notCls
    rw [hv] <;> rfl
  · rw [hz.2]
    exact ho
theorem call_isX (hz : Zc cls d oe) (hf : ∃ vs, oe.data = .fields vs) : CallR (X.suite a ((a, oe) :: pn)) (.builtin "isinstance") (rIsX X.K a cls d) := by
  intro pins s σ H xs us Q I r h
  obtain ⟨D, dx, c, cv, b, fs, rfl, rfl, T, rfl, hc, e, hx, q⟩ := h
  obtain ⟨u1, u2, rfl, r1, r2⟩ := vals2 r
  cases (show u1 = Value.ref a from r1)
  cases hc.eq r2
  obtain ⟨od, J⟩ := inst_of I hz hf hx
  exact PySem.W.kia_one (kit_exc T) I.kIn J e (fun z => nomatch z) fun tk => ⟨.bl b, H, I.tok tk, rfl, q⟩
theorem call_isXT (hz : Zc cls d oe) (hf : ∃ vs, oe.data = .fields vs) : CallR (X.suite a ((a, oe) :: pn)) (.builtin "isinstance") (rIsXT X.K a cls d) := by
  intro pins s σ H xs us Q I r h
  obtain ⟨D, dx, tp, cs, ws, b, fs, rfl, rfl, T, rfl, hT, k, e, hx, q⟩ := h
  obtain ⟨u1, u2, rfl, r1, r2⟩ := vals2 r
  cases (show u1 = Value.ref a from r1)
  cases (show u2 = Value.ref tp from r2)
  obtain ⟨od, J⟩ := inst_of I hz hf hx
  obtain ⟨_, its, rv, o, h1, h2, n, h3⟩ := (show ObjOk X.prog X.w H s.heap tp (.tup cs) from I.hok tp _ hT)
  cases ClsV.all k rv
  obtain ⟨oc, odd, dt, sl⟩ := o
  simp only at h2 h3
  subst h2 h3
  exact PySem.W.kia_tup (kit_exc T) I.kIn J h1 e (fun z => nomatch z) fun tk => ⟨.bl b, H, I.tok tk, rfl, q⟩
end
/-- an own def that may raise, called in a try -/
structure OwnX (P : Program) (w : World) (K : PySem.W.Frag) (mg : Str → Option Value) (base : Heap) (k : Nat) (x : Str) (ps : List Str) (sp : Sp) (f : Addr) (fd : FuncData) : Prop where
  ok : FnOk P w K mg base (L2.CX P w) k f fd ps sp
  m : mg x = some (.ref f)
  kp : PySem.W.keepIn K (.ref f) = true
/-- a class of exceptions with its own __init__ -/
structure OwnE (P : Program) (w : World) (K : PySem.W.Frag) (mg : Str → Option Value) (base : Heap) (k : Nat) (x : Str) (ps : List Str) (sp : Sp) (C fI : Addr) (fd : FuncData) (tl : List Value) (newId : String) : Prop where
  t : ExcK K C tl newId
  i : PySem.W.findIn K (.ref C) "__init__" = some (some (.ref fI))
  ti : PySem.W.typeIn K (.ref fI) = some (.type "function")
  ok : FnOk P w K mg base CX0 k fI fd ps sp
  b : Binds K fd ps []
  m : mg x = some (.ref C)
theorem pmk_e {X : Cx} {k : Nat} {x : Str} {ps : List Str} {sp : Sp} {C fI : Addr} {fd : FuncData} {B newId initId : String} {tl : List Value} {e : Expr} {es : List Expr} {ta : TA} {p pos : Pos} (EB : ExB B newId initId tl) (O : OwnE X.prog X.w X.K X.mg X.base k x ps sp C fI fd tl newId) (hr : Room (k + 1) X.A) (ha : PA X (e :: es) ta)
    (hg : Gl X x := by rfl) (hdb : (x == ("__debug__" : Str)) = false := by decide) (he : starEach (e :: es) X.env = (false, eval e X.env) :: starEach es X.env := by rfl) (hpl : (backTo pos (starEach es X.env)).any (fun q => q.1) = false := by rfl) :
    PMk X (.Call (.Name x p) (e :: es) [] pos) (tMkO C sp [] ta) := pmk_b EB O.t O.i O.ti O.ok hr O.b pass0 O.m ha hg hdb he hpl
end Lw

set_option Elab.async false
set_option linter.all false
set_option maxRecDepth 100000
set_option maxHeartbeats 4000000
namespace Lw
open PySem PySem.Spec PyProof.Rows L2
/-! ## the head's facts: defs, classes of exceptions with an own __init__, one more Bool -/
/-- the `__init__` of the class that a name of the module stands for -/
structure IniD where
  cls : Str
  w : IniW
  B : String
  newId : String
  initId : String
abbrev IniV : Type := Option (Str × Str × Arguments × FuncBody × Scope × Addr × List Str × Value × Value × Option Addr × Addr)
def iniAt (K : PySem.W.Frag) (d : IniD) : Addr := He.ma K (He.ga K d.cls) "__init__"
def iniObs (K : PySem.W.Frag) (d : IniD) : IniV := match K.lookup (iniAt K d) with
  | some ⟨_, _, .func fd, _⟩ => some (fd.name, fd.qualname, fd.params, fd.body, fd.scope, fd.globals, fd.closure.map (fun q => q.1), fd.defaults, fd.kwdefaults, fd.annotations, fd.builtins)
  | _ => none
def IniD.val (d : IniD) : IniV := some (d.w.name, d.w.qual, d.w.params, .stmts d.w.body, d.w.scope, mainGlobals, [("__class__" : Str)], .none, .none, none, builtinsNs)
def fileB (K : PySem.W.Frag) (file : Str) (v : Value) : Bool := match v with
  | .ref c => (match K.lookup c with
    | some ⟨_, _, .fields vs, _⟩ => (match (vs[2]? : Option Value) with
      | some (.str x _) => file == x
      | _ => false)
    | _ => false)
  | _ => false
def cellB (K : PySem.W.Frag) (C : Addr) (cl : List (Str × Addr)) : Bool := match cl with
  | [(_, cc)] => (match K.lookup cc with
    | some ⟨_, _, .cell (some (.ref D)), _⟩ => decide (D = C)
    | _ => false)
  | _ => false
/-- what is asked of the class and its __init__, as one Bool -/
def iniB (K : PySem.W.Frag) (file : Str) (d : IniD) : Bool :=
  (match K.lookup (iniAt K d) with
  | some ⟨_, _, .func fd, _⟩ => PySem.W.codeIn K fd.code d.w.qual && (fileB K file fd.code && cellB K (He.ga K d.cls) fd.closure)
  | _ => false) && (clsB K (He.ga K d.cls) (tlOf d.B) d.newId && (He.eqO (PySem.W.nsIn K cStatics "thirdparty.any") (some none) && (He.eqO (PySem.W.ks_superIn K (He.ga K d.cls) (He.ga K d.cls) "__init__") (some (some (.builtin d.initId))) &&
    (decide (PySem.W.subIn K (.ref (He.ga K d.cls)) (.type d.B) = some true) && (decide (PySem.W.mroIn K (He.ga K d.cls) (.ref (He.ga K d.cls)) = some true) &&
      (He.eqO (PySem.W.findIn K (.ref (He.ga K d.cls)) "__init__") (some (some (.ref (iniAt K d)))) && (decide (PySem.W.typeIn K (.ref (iniAt K d)) = some (.type "function")) && He.eqO (PySem.W.nsIn K mainGlobals d.cls) (some (some (.ref (He.ga K d.cls)))))))))))
/-- what of it the words alone say -/
structure IniF (P : Program) (d : IniD) : Prop where
  top : (P.main.scope.names.lookup ("super" : Str)).isSome = false
  self : (d.w.params.posonlyargs ++ d.w.params.args).head?.map (fun a => a.arg) = some "self"
  kind : d.w.scope.kind = .function
  ksup : d.w.scope.names.lookup ("super" : Str) = some .globalImplicit
  kcls : d.w.scope.names.lookup ("__class__" : Str) = some .free
  kself : d.w.scope.names.lookup ("self" : Str) = some .local
theorem fileB_ok {K : PySem.W.Frag} {file : Str} {v : Value} (h : fileB K file v = true) : ∃ c, v = .ref c ∧ ∃ (ccl : Value) (cdd : Option Addr) (vs : Array Value) (ccs : Array (Option Value)) (x : Str) (tf : Tok), K.lookup c = some ⟨ccl, cdd, .fields vs, ccs⟩ ∧ vs[2]? = some (.str x tf) ∧ (file == x) = true := by
  unfold fileB at h
  split at h
  · rename_i c
    split at h
    · rename_i ccl cdd vs ccs e
      split at h
      · rename_i x tf e2
        exact ⟨c, rfl, ccl, cdd, vs, ccs, x, tf, e, e2, h⟩
      · cases h
    · cases h
  · cases h
theorem cellB_ok {K : PySem.W.Frag} {C : Addr} {cl : List (Str × Addr)} (h : cellB K C cl = true) : ∃ x cc, cl = [(x, cc)] ∧ ∃ (a : Value) (b : Option Addr) (c : Array (Option Value)), K.lookup cc = some ⟨a, b, .cell (some (.ref C)), c⟩ := by
  unfold cellB at h
  split at h
  · rename_i x cc
    split at h
    · rename_i a b D c e
      cases of_decide_eq_true h
      exact ⟨x, cc, rfl, a, b, c, e⟩
    · cases h
  · cases h
/-- the class and its __init__, as they stand -/
structure IniR (P : Program) (K : PySem.W.Frag) (mg : Str → Option Value) (d : IniD) (C f : Addr) (fd : FuncData) : Prop where
  t : ExcK K C (tlOf d.B) d.newId
  s : ∃ cc cda, IniK P K mg d.w f cc cda C d.B d.initId
  i : PySem.W.findIn K (.ref C) "__init__" = some (some (.ref f))
  ti : PySem.W.typeIn K (.ref f) = some (.type "function")
  lk : ∃ (oc : Value) (od : Option Addr) (osl : Array (Option Value)), K.lookup f = some ⟨oc, od, .func fd, osl⟩
  m : mg d.cls = some (.ref C)
  b : ∃ (cl : List (Str × Addr)) (doc pm cdv ct : Value), fd = PySem.W.fnX d.w.name d.w.qual d.w.params d.w.body d.w.scope cl .none .none doc pm none cdv ct
theorem ini_of {P : Program} {K : PySem.W.Frag} {mg : Str → Option Value} {h : Heap} {d : IniD} (X : K.In h) (G : h.Ns mainGlobals mg) (sup : mg "super" = none) (F : IniF P d) (e : iniObs K d = d.val) (c : iniB K (P.main.file : Str) d = true) : ∃ fd, IniR P K mg d (He.ga K d.cls) (iniAt K d) fd := by
  unfold iniB at c
  simp only [Bool.and_eq_true] at c
  obtain ⟨c1, c2, c3, c4, c5, c6, c7, c8, c9⟩ := c
  unfold iniObs at e
  cases q : K.lookup (iniAt K d) with
  | none =>
    rw [q] at c1
    cases c1
  | some o =>
    obtain ⟨oc, od, dt, osl⟩ := o
    rw [q] at c1 e
    cases dt with
    | func fd =>
      obtain ⟨n1, n2, n3, n4, n5, n6, n7, n8, n9, n10, n11, n12, n13, n14, n15⟩ := fd
      have e2 : (some (n1, n2, n3, n4, n5, n6, n7.map (fun q => q.1), n8, n9, n12, n15) : IniV) = some (d.w.name, d.w.qual, d.w.params, .stmts d.w.body, d.w.scope, mainGlobals, [("__class__" : Str)], .none, .none, none, builtinsNs) := e
      simp only [Option.some.injEq, Prod.mk.injEq] at e2
      obtain ⟨h1, h2, h3, h4, h5, h6, h7, h8, h9, h10, h11⟩ := e2
      subst h1 h2 h3 h4 h5 h6 h8 h9 h10 h11
      have c1' : (PySem.W.codeIn K n13 d.w.qual && (fileB K (P.main.file : Str) n13 && cellB K (He.ga K d.cls) n7)) = true := c1
      simp only [Bool.and_eq_true] at c1'
      obtain ⟨k1, k2, k3⟩ := c1'
      obtain ⟨cda, rfl, code⟩ := fileB_ok k2
      obtain ⟨x, cc, rfl, cell⟩ := cellB_ok k3
      have hx : x = ("__class__" : Str) := by
        have := h7
        simp only [List.map_cons, List.map_nil, List.cons.injEq, and_true] at this
        exact this
      subst hx
      refine ⟨_, clsB_ok c2, ⟨cc, cda, ⟨oc, n10, n11, n14, od, osl, q⟩, k1, code, cell, F.top, sup, F.self, F.kind, F.ksup, F.kcls, F.kself, He.eqO_ok c3, He.eqO_ok c4, of_decide_eq_true c5, of_decide_eq_true c6⟩, He.eqO_ok c7, of_decide_eq_true c8, ⟨oc, od, osl, q⟩, PySem.W.mg_of X G (He.eqO_ok c9), ⟨_, _, _, _, _, rfl⟩⟩
    | _ => cases c1
/-! ## the Hook -/
abbrev AlW : Type := He.AlD × Bool × List IniV
def asW (g : Addr → Option Obj) (n : Nat) : List Addr := cStatics :: He.asD g n
def obsW (file : Str) (fa : List He.Fa) (fn : List He.DefD) (is : List IniD) (ex : PySem.W.Frag → Bool) (K : PySem.W.Frag) : AlW := (He.obsD fa fn K, (is.all (fun d => iniB K file d)) && ex K, is.map fun d => iniObs K d)
def valW (fn : List He.DefD) (is : List IniD) : AlW := (He.valD fn, true, is.map IniD.val)
structure SaysW (file : Str) (fa : List He.Fa) (fn : List He.DefD) (is : List IniD) (ex : PySem.W.Frag → Bool) (K : PySem.W.Frag) : Prop where
  d : He.SaysD fa fn K
  i : ∀ x ∈ is, iniB K file x = true ∧ iniObs K x = x.val
  ex : ex K = true
theorem map_at {α β : Type} {f g : α → β} : ∀ {l : List α}, l.map f = l.map g → ∀ x ∈ l, f x = g x
  | [], _, _, h => nomatch h
  | a :: l, e, x, h => by
    simp only [List.map_cons, List.cons.injEq] at e
    rcases List.mem_cons.mp h with rfl | h
    · exact e.1
    · exact map_at e.2 x h
theorem saysW_of {file : Str} {fa : List He.Fa} {fn : List He.DefD} {is : List IniD} {ex : PySem.W.Frag → Bool} {K : PySem.W.Frag} (e : obsW file fa fn is ex K = valW fn is) : SaysW file fa fn is ex K := by
  have e1 : He.obsD fa fn K = He.valD fn := congrArg (fun z : AlW => z.1) e
  have e2 : ((is.all (fun d => iniB K file d)) && ex K) = true := congrArg (fun z : AlW => z.2.1) e
  have e3 : is.map (fun d => iniObs K d) = is.map IniD.val := congrArg (fun z : AlW => z.2.2) e
  obtain ⟨h1, h2⟩ := He.ba e2
  exact ⟨e1, fun x hx => ⟨List.all_eq_true.mp h1 x hx, map_at e3 x hx⟩, h2⟩
def obsWG (n : Nat) (file : Str) (fa : List He.Fa) (fn : List He.DefD) (is : List IniD) (ex : PySem.W.Frag → Bool) (g : Addr → Option Obj) : AlW := obsW file fa fn is ex (He.frG g (asW g n))
def hookW (n : Nat) (file : Str) (fa : List He.Fa) (fn : List He.DefD) (is : List IniD) (ex : PySem.W.Frag → Bool) : PySem.W.Hook where
  α := AlW
  obs := fun s => obsWG n file fa fn is ex s.heap.get?
  val := fun _ => valW fn is
  says := fun _ h => ∃ K : PySem.W.Frag, K.In h ∧ SaysW file fa fn is ex K
  of := fun _ _ e => ⟨_, He.frG_in, saysW_of e⟩
  keeps := fun _ _ _ ⟨K, hK, c⟩ k => ⟨K, PySem.W.Frag.In.keeps hK k, c⟩
theorem obsWG_eq {n : Nat} {file : Str} {fa : List He.Fa} {fn : List He.DefD} {is : List IniD} {ex : PySem.W.Frag → Bool} {g : Addr → Option Obj} {s : Shared} (h : ∀ a, g a = s.heap.get? a) : obsWG n file fa fn is ex g = (hookW n file fa fn is ex).obs s := by
  have e : g = s.heap.get? := funext h
  rw [e] <;> rfl
/-- what its words bind -/
theorem IniR.binds {P : Program} {K : PySem.W.Frag} {mg : Str → Option Value} {d : IniD} {C f : Addr} {fd : FuncData} {ps : List Str} (R : IniR P K mg d C f fd)
    (h : ∀ (cl : List (Str × Addr)) (doc pm cdv ct : Value) (us : List Value), us.length = ps.length → bindArgs (PySem.W.fnX d.w.name d.w.qual d.w.params d.w.body d.w.scope cl .none .none doc pm none cdv ct) ⟨us, []⟩ = pure (ps.zip us)) : Binds K fd ps [] := by
  obtain ⟨cl, doc, pm, cdv, ct, rfl⟩ := R.b
  exact .all fun us hl => h cl doc pm cdv ct us hl
end Lw

set_option Elab.async false
set_option linter.all false
set_option maxRecDepth 100000
set_option maxHeartbeats 4000000
namespace Lw
open PySem PySem.Spec PyProof.Rows L2
/-! ## own defs that may raise, called with values by place -/
structure OwnR (P : Program) (w : World) (K : PySem.W.Frag) (mg : Str → Option Value) (base : Heap) (k : Nat) (x : Str) (sp : Sp) (f : Addr) : Prop where
  ok : FnR P w K mg base (L2.CX P w) k f sp
  m : mg x = some (.ref f)
  kp : PySem.W.keepIn K (.ref f) = true
def tR (sp : Sp) (E : L2.St → XK) (t : TA) : TE := fun σ H Q => t σ H fun vs H1 => sp vs H1 Q (E σ)
theorem passF {X : Cx} : Passes (L2.CX X.prog X.w) X E0 := fun _ _ _ _ _ _ _ h => by
  obtain ⟨_, _, _, _, _, _, _, _, _, _, _, _, h⟩ := h
  exact h.elim
section
variable {X : Cx} {k : Nat} {f : Addr} {sp : Sp} {W : WX} {E : L2.St → XK} {x : Str} {p pos : Pos} {e : Expr} {es : List Expr} {t : TA}
theorem run_at {pins : List (Addr × Obj)} {σ : L2.St} {H : Hp} {s : Shared} {Q : VK} {us : List Value} {vs : List V} (F : FnR X.prog X.w X.K X.mg X.base (L2.CX X.prog X.w) k f sp) (hr : Room k X.A) (hx : PassesAt (L2.CX X.prog X.w) X σ (E σ))
    (I : Inv X pins σ H s) (r : Vals vs us) (h : sp vs H Q (E σ)) : wpAny (model X.prog X.w) X.A (call (.ref f) us) (EP X pins σ Q) X.xe s := by
  refine wpAny_call (codeAny_mono (F X.A X.stack s H us vs Q (E σ) hr I.env0 r h) fun res st hq => ?_)
  match res, hq with
  | .error ev, hq => exact hx pins H s ev st I hq
  | .ok (.ret _), hq => exact I.after hq
  | .ok .next, hq => exact False.elim hq
  | .ok .brk, hq => exact False.elim hq
  | .ok .cont, hq => exact False.elim hq
theorem pe_at (O : OwnR X.prog X.w X.K X.mg X.base k x sp f) (hx : ∀ σ, PassesAt (L2.CX X.prog X.w) X σ (E σ)) (hr : Room k X.A) (ha : PA X (e :: es) t) (hg : Gl X x := by rfl) (hdb : (x == ("__debug__" : Str)) = false := by decide)
    (he : starEach (e :: es) X.env = (false, eval e X.env) :: starEach es X.env := by rfl) (hpl : (backTo pos (starEach es X.env)).any (fun q => q.1) = false := by rfl) :
    PE X (.Call (.Name x p) (e :: es) [] pos) (tR sp E t) := by
  constructor
  intro pins s σ H Q I h
  refine wpAny_Call_Name_kw (ld_glob I hg O.m ?_ hdb)
  exact PySem.W.callWith_K (h₀ := X.base) I.ok.mod.kin O.kp (thn (ha.run pos pins s σ H _ I h) fun us s1 ⟨vs, H1, I1, r, q⟩ => ⟨I1.kIn, run_at O.ok hr (hx σ) I1 r q⟩) he hpl
theorem pe_at0 (O : OwnR X.prog X.w X.K X.mg X.base k x sp f) (hx : ∀ σ, PassesAt (L2.CX X.prog X.w) X σ (E σ)) (hr : Room k X.A) (hg : Gl X x := by rfl) (hdb : (x == ("__debug__" : Str)) = false := by decide) :
    PE X (.Call (.Name x p) [] [] pos) (tR sp E tNil) := by
  constructor
  intro pins s σ H Q I h
  refine wpAny_Call_Name_kw (ld_glob I hg O.m ?_ hdb)
  exact PySem.W.callWith_K0 I.kIn O.kp (run_at (us := []) O.ok hr (hx σ) I .nil h)
/-- what it raises is taken at the caller -/
theorem pe_ownR (O : OwnR X.prog X.w X.K X.mg X.base k x sp f) (tk : Takes X W) (hr : Room k X.A) (ha : PA X (e :: es) t) (hg : Gl X x := by rfl) (hdb : (x == ("__debug__" : Str)) = false := by decide)
    (he : starEach (e :: es) X.env = (false, eval e X.env) :: starEach es X.env := by rfl) (hpl : (backTo pos (starEach es X.env)).any (fun q => q.1) = false := by rfl) :
    PE X (.Call (.Name x p) (e :: es) [] pos) (tR sp (WE W) t) := pe_at O (fun σ => passAt tk σ) hr ha hg hdb he hpl
theorem pe_ownR0 (O : OwnR X.prog X.w X.K X.mg X.base k x sp f) (tk : Takes X W) (hr : Room k X.A) (hg : Gl X x := by rfl) (hdb : (x == ("__debug__" : Str)) = false := by decide) :
    PE X (.Call (.Name x p) [] [] pos) (tR sp (WE W) tNil) := pe_at0 O (fun σ => passAt tk σ) hr hg hdb
/-- it raises nothing here -/
theorem pe_ownF (O : OwnR X.prog X.w X.K X.mg X.base k x sp f) (hr : Room k X.A) (ha : PA X (e :: es) t) (hg : Gl X x := by rfl) (hdb : (x == ("__debug__" : Str)) = false := by decide)
    (he : starEach (e :: es) X.env = (false, eval e X.env) :: starEach es X.env := by rfl) (hpl : (backTo pos (starEach es X.env)).any (fun q => q.1) = false := by rfl) :
    PE X (.Call (.Name x p) (e :: es) [] pos) (tR sp (fun _ => E0) t) := pe_at O (fun σ pins H s ev st I c => passF pins σ H s ev st I c) hr ha hg hdb he hpl
theorem pe_ownF0 (O : OwnR X.prog X.w X.K X.mg X.base k x sp f) (hr : Room k X.A) (hg : Gl X x := by rfl) (hdb : (x == ("__debug__" : Str)) = false := by decide) :
    PE X (.Call (.Name x p) [] [] pos) (tR sp (fun _ => E0) tNil) := pe_at0 O (fun σ pins H s ev st I c => passF pins σ H s ev st I c) hr hg hdb
theorem pe_ownXW {fd : FuncData} {ps ks : List Str} {tk : TA} {kws : List Keyword} {g : List Value → List Value → List Value} {gV : List V → List V → List V} (O : OwnX X.prog X.w X.K X.mg X.base k x ps sp f fd) (hb : KBn X.K fd ps 0 ks g gV) (hr : Room k X.A) (hkw : PK X kws tk) (hg : Gl X x := by rfl)
    (hall : (backToKw pos (keywordEach kws X.env)).all (fun q => q.1.isSome) = true := by rfl)
    (hks : (backToKw pos (keywordEach kws X.env)).filterMap (fun q => q.1) = ks := by rfl)
    (hdb : (x == ("__debug__" : Str)) = false := by decide)
    (hpl : ((backTo pos (starEach [] X.env)).any (fun q => q.1) || (backToKw pos (keywordEach kws X.env)).any (fun q => q.1.isNone)) = false := by rfl) :
    PE X (.Call (.Name x p) [] kws pos) (tCallN 0 ks.length sp gV E0 tNil tk) := pe_callW O.ok hr hg O.m O.kp hb passF hkw hall hks hdb hpl
end
theorem ownR_of {P : Program} {w : World} {K : PySem.W.Frag} {mg : Str → Option Value} {base : Heap} {k : Nat} {x : Str} {ps : List Str} {sp : Sp} {f : Addr} {fd : FuncData} (F : FnOk P w K mg base (L2.CX P w) k f fd ps sp) (hb : Binds K fd ps []) (m : mg x = some (.ref f)) (kp : PySem.W.keepIn K (.ref f) = true) :
    OwnR P w K mg base k x sp f := ⟨fun A outer s H us vs Q E hr e0 r hs => (FnOk.raw F hb .nil) A outer s H us vs Q E hr e0 r (by show sp (vs ++ []) H Q E; rw [List.append_nil]; exact hs), m, kp⟩
def flip2 {α : Type} : List α → List α
  | [a, b] => [b, a]
  | _ => []
theorem flip_rel {vs : List V} {us : List Value} (h : Vals vs us) : Vals (flip2 vs) (flip2 us) := by
  match vs, us, h with
  | [], _, .nil => exact .nil
  | [_], _, .cons _ .nil => exact .nil
  | [_, _], _, .cons a (.cons b .nil) => exact .cons b (.cons a .nil)
  | _ :: _ :: _ :: _, _, .cons a (.cons b (.cons c d)) => exact .nil
/-- two keywords, in the other order -/
theorem kb2 {K : PySem.W.Frag} {y qual : Str} {params : Arguments} {body : List Stmt} {scope : Scope} {kw : List (Str × V)} {f : Addr} {fd : FuncData} {a b : Str} (F : FunD K y qual params body scope [] kw f fd)
    (h : ∀ (kV doc pm : Value) (an : Option Addr) (cdv ct u v : Value), bindArgs (PySem.W.fnOf y qual params body scope .none kV doc pm an cdv ct) ⟨[], [(b, u), (a, v)]⟩ = pure [(a, v), (b, u)]) :
    KBn K fd [a, b] 0 [b, a] (fun _ ws => flip2 ws) (fun _ zs => flip2 zs) := by
  obtain ⟨oc, od, dV, kV, doc, pm, an, cdv, ct, osl, rfl, lk, hcd, hD, hK⟩ := F.ex
  rcases hD with ⟨_, rfl⟩ | ⟨e, _⟩
  · refine ⟨fun s us ws X l1 l2 => ?_, fun _ r => flip_rel r⟩
    match us, ws, l1, l2 with
    | [], [u, v], _, _ => exact .of_eq (h kV doc pm an cdv ct u v)
  · exact absurd rfl e
end Lw

set_option Elab.async false
set_option linter.all false
set_option maxRecDepth 100000
set_option maxHeartbeats 4000000
namespace Lw
open PySem PySem.Spec PyProof.Rows L2
section
variable {X : Cx}
/-- a list and the empty one -/
def rNeE (K : PySem.W.Frag) : R2 := fun x y H Q => ∃ (a b : Addr) (xs : List V), x = .ref a ∧ y = .ref b ∧ SqL K H a xs ∧ SqL K H b [] ∧ Q (.bl (!xs.isEmpty)) H
theorem op_neE (hu : X.A.units + 64 < cLine) : OpR X (compareOp .NotEq) (rNeE X.K) := by
  intro pins s σ H x y v u Q I rx ry h
  obtain ⟨a, b, xs, rfl, rfl, ha, hb, q⟩ := h
  cases (show v = Value.ref a from rx)
  cases (show u = Value.ref b from ry)
  obtain ⟨its, rv, ⟨o, n, ho, hc, _, hd⟩, _⟩ := I.list ha
  obtain ⟨its2, rv2, ⟨o2, n2, ho2, hc2, _, hd2⟩, _⟩ := I.list hb
  cases rv2
  have l1 : s.heap.IsList a its.toArray := ⟨o, ho, hc, n, hd⟩
  have l2 : s.heap.IsList b (([] : List Value).toArray) := ⟨o2, ho2, hc2, n2, hd2⟩
  cases rv with
  | nil => exact PySem.SeqAt.RcNeAt.lists (e := fun _ => true) l1 l2 rfl (by omega) (fun j h1 _ => absurd h1 (Nat.not_lt_zero _)) X.prog X.w X.xe _ ⟨.bl _, H, I, rfl, q⟩
  | cons r1 r2 => exact PySem.SeqAt.RcNeAt.lists_lengths l1 l2 rfl (by omega) X.prog X.w X.xe _ ⟨.bl _, H, I, rfl, q⟩
/-- x is True -/
def rIsB : R2 := fun x y H Q => ∃ b c : Bool, x = .bl b ∧ y = .bl c ∧ Q (.bl (b == c)) H
theorem op_isB : OpR X (compareOp .Is) rIsB := by
  intro pins s σ H x y v u Q I rx ry h
  obtain ⟨b, c, rfl, rfl, q⟩ := h
  cases rx
  cases ry
  exact is_bool ⟨.bl _, H, I, rfl, q⟩
/-- a list of bools counted -/
def rCountB (K : PySem.W.Frag) : V → List V → Hp → VK → Prop := fun x vs H Q => ∃ (a : Addr) (bs : List Bool) (c : Bool), x = .ref a ∧ vs = [.bl c] ∧ SqL K H a (bs.map V.bl) ∧ Q (.int ((bs.countP fun b => b == c : Nat) : Int)) H
theorem reads_bools {h : Heap} : ∀ {bs : List Bool} {us : List Value}, Vals (bs.map V.bl) us → ∃ as, ReadsAll h us (bs.map PyData.bool) as
  | [], _, .nil => ⟨_, .nil⟩
  | b :: bs, _, .cons r rs => by
    cases r
    obtain ⟨as, q⟩ := reads_bools (h := h) rs
    exact ⟨_, .cons (.bool b) q⟩
theorem count_bools {bs : List Bool} {c : Bool} : (bs.map PyData.bool).countP (fun y => PyData.eqv y (.bool c)) = bs.countP fun b => b == c := by
  rw [List.countP_map]
  rfl
theorem plain_bools : ∀ bs : List Bool, PyData.plainAll (bs.map PyData.bool) = true
  | [] => rfl
  | b :: bs => by
    show (PyData.plain (.bool b) && PyData.plainAll (bs.map PyData.bool)) = true
    rw [plain_bools bs]
    rfl
theorem mt_countB (hu : X.A.units + 64 < cLine) : MtR X "list.count" (rCountB X.K) := by
  intro pins s σ H x vs v us Q I rx rv h
  obtain ⟨a, bs, c, rfl, rfl, ha, q⟩ := h
  cases (show v = Value.ref a from rx)
  obtain ⟨u, rfl, ru⟩ := vals1 rv
  cases (show u = Value.bool c from ru)
  obtain ⟨its, rs, ⟨o, n, ho, hc, _, hd⟩, _⟩ := I.list ha
  obtain ⟨as, r1⟩ := reads_bools (h := s.heap) rs
  refine PySem.SeqAt.count_list_data (l := a) (vs := its.toArray) (bs := []) ⟨o, ho, hc, n, hd⟩ (by simpa using r1) (.bool c) (plain_bools bs) rfl ?_ ?_
  · have : min (PyData.depthAll (bs.map PyData.bool)) (PyData.bool c).depth ≤ 0 := by
      simp [PyData.depth]
    omega
  · rw [count_bools]
    exact ⟨.int _, H, I.tok _, ⟨_, rfl⟩, q⟩
end
end Lw

set_option Elab.async false
set_option linter.all false
set_option maxRecDepth 100000
set_option maxHeartbeats 4000000
namespace Lw
open PySem PySem.Spec PyProof.Rows L2
/-! ## try with several named clauses, one of which takes what is raised -/
/-- an exception that has come down in the frame of the try -/
structure Land (X : Cx) (pins : List (Addr × Obj)) (x : Addr) (G : Heap) (cls : Value) (dc : Option Addr) (σ : L2.St) (H : Hp) (s0 s : Shared) : Prop where
  inv : Inv X pins σ H s0
  keep : ∀ b o, s0.heap.get? b = some o → b ∉ frs X.stack → G.get? b = some o
  up : s0.heap.UpToSlots s.heap
  fly : HandSPX.FlyingZ G (X.env :: X.outer) x (Zc cls dc) s.heap
  new : H x = none
  os : s.os = s0.os
  bare : AllBare s.gens
section
variable {X : Cx} {pins : List (Addr × Obj)} {x : Addr} {G : Heap} {cls : Value} {dc : Option Addr} {σ : L2.St} {H : Hp} {s0 s : Shared} {D : Ends} {cn n : Str} {c : Value} {i : Nat} {st0 : Stmt} {sts : List Stmt} {pn ph : Pos} {more : List ExceptHandler} {ts : Addr → Value → Option Addr → TS}
theorem Land.now (L : Land X pins x G cls dc σ H s0 s) : Inv X pins σ H s := L.inv.landed L.keep L.fly.1 L.up L.os L.bare
theorem Land.frame (L : Land X pins x G cls dc σ H s0 s) : x ∉ frs (X.env :: X.outer) := fun m => by
  obtain ⟨oe, vs, he, _, hd⟩ := L.fly.there
  obtain ⟨_, o2, e2, nf⟩ := L.fly.2.2.1.mem m
  cases he.symm.trans e2
  exact nf _ hd
theorem Land.calm (L : Land X pins x G cls dc σ H s0 s) (hf : X.env.frame = some X.env.locals) : x ≠ X.env.locals ∧ x ∉ X.fs := by
  have nf := L.frame
  constructor
  · rintro rfl
    exact nf (List.mem_filterMap.mpr ⟨X.env, List.mem_cons_self, hf⟩)
  · intro m
    obtain ⟨e, he, q⟩ := List.mem_filterMap.mp m
    exact nf (List.mem_filterMap.mpr ⟨e, List.mem_cons_of_mem _ he, q⟩)
theorem Land.test (L : Land X pins x G cls dc σ H s0 s) (hf : X.env.frame = some X.env.locals) (hc : Names X cn c) {Q E : Value → Shared → Prop} (h : Q c s) :
    wpAny (model X.prog X.w) (X.A.mark (some (.ref x))) (eval (.Name cn pn) X.env) Q E s := by
  obtain ⟨oe, vs, he, _, hd⟩ := L.fly.there
  obtain ⟨n1, n2⟩ := L.calm hf
  have S := L.now.suite he hd L.new n1 n2
  obtain ⟨g, db, m | ⟨m, bv, nn⟩⟩ := hc
  · exact ld_glob S g m h db
  · exact ld_blt S g m bv h nn db
theorem Land.looks (L : Land X pins x G cls dc σ H s0 s) {b : Bool} (he : PySem.W.exmOne X.K cls c = some b) {A : Around} {Q : Bool → Shared → Prop} {E : Value → Shared → Prop} (h : Q b s) :
    wpAny (model X.prog X.w) A (excMatches (.ref x) c) Q E s := by
  obtain ⟨oe, vs, ho, hz, _⟩ := L.fly.there
  have LT : PySem.W.Looks (model X.prog X.w) s.heap (typeOf (.ref x)) cls := fun A Q E s' k q => wpAny_typeOf_ref (k _ _ ho) (by rw [hz.1]; exact q)
  exact (PySem.W.exm_one (M := model X.prog X.w) L.now.kIn LT he).here h
/-- this clause is not for it -/
theorem Land.passes_by (L : Land X pins x G cls dc σ H s0 s) (hf : X.env.frame = some X.env.locals) {m : Option Str} (hc : Names X cn c) (he : PySem.W.exmOne X.K cls c = some false)
    (h : wpAny (model X.prog X.w) X.A (handleBy (.ref x) X.env more) (SP X pins D) X.xe s) :
    wpAny (model X.prog X.w) X.A (handleBy (.ref x) X.env (.ExceptHandler (some (.Name cn pn)) m sts ph :: more)) (SP X pins D) X.xe s := by
  refine wpAny_handleBy_cons (codeAny_handlers_test (L.test hf hc (L.looks he ?_))) (fun z => nomatch z)
  exact h
/-- this clause takes it -/
theorem Land.taken (L : Land X pins x G cls dc σ H s0 s) (hf : X.env.frame = some X.env.locals) (hN : X.N.Nodup) (hi : X.N[i]? = some n) (hl : X.env.kindOf n = some .local) (hc : Names X cn c) (he : PySem.W.exmOne X.K cls c = some true)
    (hsu : ∀ (a : Addr) (oe : Obj) (cls : Value) (d : Option Addr) (pn : List (Addr × Obj)), Zc cls d oe → (∃ vs, oe.data = .fields vs) → PSs (X.suite a ((a, oe) :: pn)) (st0 :: sts) (ts a cls d))
    (h : ts x cls dc { nx := fun σ' H' => D.nx (σ'.set i none) H', rt := D.rt, bk := fun σ' H' => D.bk (σ'.set i none) H', ct := fun σ' H' => D.ct (σ'.set i none) H' } (σ.set i (some (.ref x))) H) :
    wpAny (model X.prog X.w) X.A (handleBy (.ref x) X.env (.ExceptHandler (some (.Name cn pn)) (some n) (st0 :: sts) ph :: more)) (SP X pins D) X.xe s := by
  refine wpAny_handleBy_cons (codeAny_handlers_test (L.test hf hc (L.looks he ?_))) (fun z => nomatch z)
  refine codeAny_handlers_suite_as (HandSPX.lands_againZ L.fly fun h' fl up => ?_)
  have LL : Land X pins x G cls dc σ H s0 { s with heap := h' } := ⟨L.inv, L.keep, L.up.trans up, fl, L.new, L.os, L.bare⟩
  obtain ⟨n1, n2⟩ := LL.calm hf
  obtain ⟨oe, vs, ho, hz, hd⟩ := fl.there
  have S := LL.now.suite ho hd L.new n1 n2
  refine store_ok (X := X.suite x ((x, oe) :: (X.pn ++ pins))) (v := .ref x) S hN hi (.inl hl) rfl (fun s5 S5 => ?_) (.inr hl)
  refine wpAny_mono ((hsu x oe cls dc _ hz ⟨_, hd⟩).run [] s5 _ H _ S5 h) (fun fl6 s6 z => ?_) (fun _ _ z => False.elim z)
  have ends : ∀ {σ6 : L2.St} {H6 : Hp} {Q : Shared → Prop}, Inv (X.suite x ((x, oe) :: (X.pn ++ pins))) [] σ6 H6 s6 → (∀ s7, Inv X pins (σ6.set i none) H6 s7 → Q s7) →
      wpAny (model X.prog X.w) X.A (do bindName X.env n .none; unbindBehindTheSuite X.env n ph) (fun _ s7 => Q s7) X.xe s6 := fun I6 k => gone_ok (I6.unsuite L.inv.ok) hN hi hl k
  match fl6, z with
  | .next, ⟨σ6, H6, I6, q⟩ => exact ends I6 fun s7 I7 => ⟨_, _, I7, q⟩
  | .brk, ⟨σ6, H6, I6, q⟩ => exact ends I6 fun s7 I7 => ⟨_, _, I7, q⟩
  | .cont, ⟨σ6, H6, I6, q⟩ => exact ends I6 fun s7 I7 => ⟨_, _, I7, q⟩
  | .ret u, ⟨v, σ6, H6, I6, r, q⟩ => exact ends I6 fun s7 I7 => ⟨_, _, _, I7, r, q⟩
end
/-- what two clauses wish of what the body raises: one of them takes it -/
def wTwo (K : PySem.W.Frag) (c1 c2 : Value) (i : Nat) (t1 t2 : Addr → Value → Option Addr → TS) (D : Ends) : WX := fun cls d σ H =>
  (PySem.W.exmOne K cls c1 = some true ∧ ∀ a, H a = none → t1 a cls d { nx := fun σ' H' => D.nx (σ'.set i none) H', rt := D.rt, bk := fun σ' H' => D.bk (σ'.set i none) H', ct := fun σ' H' => D.ct (σ'.set i none) H' } (σ.set i (some (.ref a))) H) ∨
  (PySem.W.exmOne K cls c1 = some false ∧ PySem.W.exmOne K cls c2 = some true ∧ ∀ a, H a = none → t2 a cls d { nx := fun σ' H' => D.nx (σ'.set i none) H', rt := D.rt, bk := fun σ' H' => D.bk (σ'.set i none) H', ct := fun σ' H' => D.ct (σ'.set i none) H' } (σ.set i (some (.ref a))) H)
theorem ps_try_two {X : Cx} {n x1 x2 : Str} {c1 c2 : Value} {i : Nat} {body u1 u2 : List Stmt} {v1 v2 : Stmt} {q1 q2 p1 p2 pos : Pos} {tb : WX → TS} {t1 t2 : Addr → Value → Option Addr → TS}
    (hs : X.stack = X.env :: X.outer) (hf : X.env.frame = some X.env.locals) (hN : X.N.Nodup) (hi : X.N[i]? = some n) (hl : X.env.kindOf n = some .local) (m1 : Names X x1 c1) (m2 : Names X x2 c2)
    (hb : ∀ (W : WX) (pn : List (Addr × Obj)) (xe : Value → Shared → Prop), Takes (X.tr pn xe) W → PSs (X.tr pn xe) body (tb W))
    (h1 : ∀ (a : Addr) (oe : Obj) (cls : Value) (d : Option Addr) (pn : List (Addr × Obj)), Zc cls d oe → (∃ vs, oe.data = .fields vs) → PSs (X.suite a ((a, oe) :: pn)) (v1 :: u1) (t1 a cls d))
    (h2 : ∀ (a : Addr) (oe : Obj) (cls : Value) (d : Option Addr) (pn : List (Addr × Obj)), Zc cls d oe → (∃ vs, oe.data = .fields vs) → PSs (X.suite a ((a, oe) :: pn)) (v2 :: u2) (t2 a cls d)) :
    PS X (.Try body [.ExceptHandler (some (.Name x1 q1)) (some n) (v1 :: u1) p1, .ExceptHandler (some (.Name x2 q2)) (some n) (v2 :: u2) p2] [] [] pos) (fun D σ H => tb (wTwo X.K c1 c2 i t1 t2 D) D σ H) := by
  constructor
  intro pins s σ H D I h
  have ok := I.ok
  refine wpAny_Try_except ?_
  have run := (hb (wTwo X.K c1 c2 i t1 t2 D) (X.pn ++ pins) (fun e s1 => wpAny (model X.prog X.w) X.A (noteFrame e X.env) (fun _ s2 => wpAny (model X.prog X.w) X.A (setFlight e none) (fun _ s3 =>
    wpAny (model X.prog X.w) X.A (handleBy e X.env [.ExceptHandler (some (.Name x1 q1)) (some n) (v1 :: u1) p1, .ExceptHandler (some (.Name x2 q2)) (some n) (v2 :: u2) p2]) (SP X pins D) X.xe s3) X.xe s2) X.xe s1) ?_).run [] s σ H D (I.toTry _) h
  · refine wpAny_mono run (fun fl s1 z => ?_) (fun _ _ z => z)
    match fl, z with
    | .next, ⟨σ1, H1, I1, q⟩ => exact wpAny_execs_nil ⟨σ1, H1, I1.ofTry ok, q⟩
    | .brk, ⟨σ1, H1, I1, q⟩ => exact ⟨σ1, H1, I1.ofTry ok, q⟩
    | .cont, ⟨σ1, H1, I1, q⟩ => exact ⟨σ1, H1, I1.ofTry ok, q⟩
    | .ret u, ⟨v, σ1, H1, I1, r, q⟩ => exact ⟨v, σ1, H1, I1.ofTry ok, r, q⟩
  · intro u s' t
    obtain ⟨a, G, s0, pins', σ', H', cls, d, rfl, I', nb, up, sky, na, os, ag, wish⟩ := t
    have J : Inv X pins σ' H' s0 := I'.ofTry ok
    have sky2 : Sky G (X.env :: X.outer) a (Zc cls d) X.env.locals s'.heap := hs ▸ sky
    refine Sky.land (M := model X.prog X.w) Zc.steady (by rw [ok.frames, hs]) hf sky2 fun h3 fl3 up3 => ?_
    have L : Land X pins a G cls d σ' H' s0 { s' with heap := h3 } := ⟨J, nb, up.trans up3, fl3, na, os, ag⟩
    rcases wish with ⟨e1, k⟩ | ⟨e1, e2, k⟩
    · exact L.taken hf hN hi hl m1 e1 h1 (k a na)
    · exact L.passes_by hf m1 e1 (L.taken hf hN hi hl m2 e2 h2 (k a na))
end Lw

set_option Elab.async false
set_option linter.all false
set_option maxRecDepth 100000
set_option maxHeartbeats 4000000
namespace Lw
open PySem PySem.Spec PyProof.Rows L2
/-! ## displays of data that are new -/
def MkF (K : PySem.W.Frag) (te : TE) (d : PyData) : Prop := ∀ σ H (Q : VK), (∀ v H', Same H H' → Dq K (nw H H') v d → Q v H') → te σ H Q
def MkG (K : PySem.W.Frag) (ta : TA) (ds : List PyData) : Prop := ∀ σ H (Q : List V → Hp → Prop), (∀ vs H', Same H H' → vs.length = ds.length → DqAll K (nw H H') vs ds → Q vs H') → ta σ H Q
theorem nw_up {H H' H2 : Hp} (s : Same H' H2) : Same (nw H H') (nw H H2) := nw_mono (fun _ e => e) fun b o _ e => s b o e
theorem nw_down {H H0 H' : Hp} (s : Same H0 H) : Same (nw H H') (nw H0 H') := nw_mono (same_none s) fun b o _ e => e
section
variable {K : PySem.W.Frag}
theorem MkF.non : MkF K (tC .non) .none := fun _ H Q h => h _ H (Same.refl H) .non
theorem MkF.bl {b : Bool} : MkF K (tC (.bl b)) (.bool b) := fun _ H Q h => h _ H (Same.refl H) (.bl b)
theorem MkF.int {i : Int} : MkF K (tC (.int i)) (.int i) := fun _ H Q h => h _ H (Same.refl H) (.int i)
theorem MkF.str {x : Str} : MkF K (tC (.str x)) (.str x) := fun _ H Q h => h _ H (Same.refl H) (.str x)
theorem MkF.neg {i : Int} : MkF K (tUn (rU fun i => .int (-i)) (tC (.int i))) (.int (-i)) := fun _ H Q h => ⟨i, rfl, h _ H (Same.refl H) (.int _)⟩
theorem MkG.nil : MkG K tNil [] := fun _ H Q h => h _ H (Same.refl H) rfl .nil
theorem MkG.cons {te : TE} {ta : TA} {d : PyData} {ds : List PyData} (h1 : MkF K te d) (h2 : MkG K ta ds) : MkG K (tCons te ta) (d :: ds) := by
  intro σ H Q h
  exact h1 σ H _ fun v H1 s1 q1 => h2 σ H1 _ fun vs H2 s2 l2 q2 => h _ H2 (s1.trans s2) (congrArg Nat.succ l2) (.cons (Dq.same (nw_up s2) q1) (DqAll.same (nw_down s1) q2))
theorem nw_new {H H1 : Hp} {p : Addr} {o : HO} (s : Same H H1) (hp : H1 p = none) : nw H (upd H1 p o) p = some o := by
  rw [nw_at (s.free hp), upd_same]
theorem MkF.tup {ta : TA} {ds : List PyData} (h1 : MkG K ta ds) (hl : ds.length ≤ 1000 := by decide) : MkF K (tTup ta) (.tuple ds) := by
  intro σ H Q h
  refine h1 σ H _ fun vs H1 s1 l1 q1 => ⟨?_, fun p hp => h _ _ (s1.trans (same_upd hp)) ?_⟩
  · rw [l1]
    exact Nat.le_of_lt (small1000 hl)
  · exact .tup (.inl (.inl (nw_new s1 hp))) (DqAll.same (nw_up (same_upd hp)) q1)
theorem MkF.lst {ta : TA} {ds : List PyData} (h1 : MkG K ta ds) (hl : ds.length ≤ 1000 := by decide) : MkF K (tLst ta) (.list ds) := by
  intro σ H Q h
  refine h1 σ H _ fun vs H1 s1 l1 q1 => ⟨?_, fun p hp => h _ _ (s1.trans (same_upd hp)) ?_⟩
  · rw [l1]
    exact Nat.le_of_lt (small1000 hl)
  · exact .lst (.inl (.inl (nw_new s1 hp))) (DqAll.same (nw_up (same_upd hp)) q1)
theorem MkF.dict : MkF K tDNewK (.dict []) := by
  intro σ H Q h
  intro p hp
  exact h _ _ (same_upd hp) (.dic (nw_new (Same.refl H) hp))
theorem s_lstF {ta : TA} {ds : List PyData} {i : Nat} {u : TS} {D : Ends} {σ : L2.St} {H : Hp} (h : MkG K ta ds) (hl : ds.length ≤ 1000)
    (k : ∀ vs H1 p, Same H H1 → vs.length = ds.length → DqAll K (nw H H1) vs ds → H1 p = none → u D (σ.set i (some (.ref p))) (upd H1 p (.lst vs))) :
    tSeq (tAsg (tLst ta) (gName i)) u D σ H := by
  refine h σ H _ fun vs H1 s l d => ⟨?_, fun p np => k vs H1 p s l d np⟩
  rw [l]
  exact Nat.le_of_lt (small1000 hl)
theorem e_catF {ta : TA} {ds : List PyData} {i : Nat} {σ : L2.St} {H : Hp} {Q : VK} {t : Addr} {xs : List V} (h : MkG K ta ds) (hl : xs.length + ds.length ≤ 1000) (hi : σ[i]? = some (some (.ref t))) (ht : H t = some (.lst xs))
    (k : ∀ vs H1 p, Same H H1 → vs.length = ds.length → DqAll K (nw H H1) vs ds → H1 p = none → Q (.ref p) (upd H1 p (.lst (xs ++ vs)))) :
    tOp rCat (tVar i) (tLst ta) σ H Q := by
  refine ⟨.ref t, hi, h σ H _ fun vs H1 s l d => ⟨?_, fun p np => ⟨t, p, xs, vs, rfl, rfl, ?_, upd_same, ?_, fun p2 np2 => ?_⟩⟩⟩
  · rw [l]
    exact Nat.le_of_lt (small1000 (by omega))
  · rw [upd_ne (ne_of_none (s _ _ ht) np)]
    exact s _ _ ht
  · rw [l]
    exact Nat.le_of_lt (small1000 hl)
  · exact k vs (upd H1 p (.lst vs)) p2 (s.trans (same_upd np)) l (DqAll.same (nw_up (same_upd np)) d) np2
/-- what is new lies off two places that were -/
theorem nw_off2 {H H' : Hp} {a b : Addr} (ha : H a ≠ none) (hb : H b ≠ none) : Same (nw H H') (off (off H' a) b) := fun c o g => by
  obtain ⟨h1, h2⟩ := nw_get g
  have n1 : c ≠ a := fun e => ha (e ▸ h1)
  have n2 : c ≠ b := fun e => hb (e ▸ h1)
  rw [off_ne n2, off_ne n1]
  exact h2
/-- behind a draw, what is new is still new -/
theorem nw_draw {H H3 H4 : Hp} {a : Addr} (ha : H a ≠ none) (o : Off a H3 H4) : Same (nw H H3) (nw H H4) := fun b u g => by
  obtain ⟨h1, h2⟩ := nw_get g
  have n : b ≠ a := fun e => ha (e ▸ h1)
  rw [nw_at h1]
  exact o.get h2 n
/-- a place put anew -/
theorem off_put {H : Hp} {l : Addr} {o : HO} : off (upd H l o) l = off H l := by
  funext b
  by_cases h : b = l
  · subst h
    unfold off
    simp
  · rw [off_ne h, off_ne h, upd_ne h]
theorem off_swap {H : Hp} {a b : Addr} : off (off H a) b = off (off H b) a := by
  funext c
  unfold off
  by_cases h1 : c = a <;> by_cases h2 : c = b <;> simp [h1, h2]
end
end Lw

set_option Elab.async false
set_option linter.all false
set_option maxRecDepth 100000
set_option maxHeartbeats 4000000
namespace K13
open PySem PySem.Spec PyProof.Rows L2 Lw
def topS (i : Nat) : Stmt := PySem.Challenge.pw_lastheld_k13_whole_sums_products_quotien.main.body.getD i (.Pass ⟨0, 0, 0, 0⟩)
abbrev s_kept : Stmt := topS 1
abbrev N_kept : List Str := ["value", "key", "item"]
theorem sc_kept : FnScope N_kept ["value"] (defScope s_kept) := ⟨rfl, rfl, rfl, by decide +kernel, rfl, by decide +kernel, by decide +kernel⟩
abbrev s_is_integer : Stmt := topS 10
abbrev N_is_integer : List Str := ["value"]
theorem sc_is_integer : FnScope N_is_integer ["value"] (defScope s_is_integer) := ⟨rfl, rfl, rfl, by decide +kernel, rfl, by decide +kernel, by decide +kernel⟩
abbrev s_common_divisor : Stmt := topS 12
abbrev N_common_divisor : List Str := ["first", "second"]
theorem sc_common_divisor : FnScope N_common_divisor ["first", "second"] (defScope s_common_divisor) := ⟨rfl, rfl, rfl, by decide +kernel, rfl, by decide +kernel, by decide +kernel⟩
abbrev s_is_number : Stmt := topS 13
abbrev N_is_number : List Str := ["value", "numerator", "denominator", "part"]
theorem sc_is_number : FnScope N_is_number ["value"] (defScope s_is_number) := ⟨rfl, rfl, rfl, by decide +kernel, rfl, by decide +kernel, by decide +kernel⟩
abbrev s_check_numbers : Stmt := topS 14
abbrev N_check_numbers : List Str := ["values", "value"]
theorem sc_check_numbers : FnScope N_check_numbers ["values"] (defScope s_check_numbers) := ⟨rfl, rfl, rfl, by decide +kernel, rfl, by decide +kernel, by decide +kernel⟩
abbrev s_parts_of : Stmt := topS 15
abbrev N_parts_of : List Str := ["value"]
theorem sc_parts_of : FnScope N_parts_of ["value"] (defScope s_parts_of) := ⟨rfl, rfl, rfl, by decide +kernel, rfl, by decide +kernel, by decide +kernel⟩
abbrev s_lowest : Stmt := topS 16
abbrev N_lowest : List Str := ["numerator", "denominator", "common", "above", "below"]
theorem sc_lowest : FnScope N_lowest ["numerator", "denominator"] (defScope s_lowest) := ⟨rfl, rfl, rfl, by decide +kernel, rfl, by decide +kernel, by decide +kernel⟩
abbrev s_plus : Stmt := topS 17
abbrev N_plus : List Str := ["numbers", "total", "value", "above", "below", "numerator", "denominator"]
theorem sc_plus : FnScope N_plus ["numbers"] (defScope s_plus) := ⟨rfl, rfl, rfl, by decide +kernel, rfl, by decide +kernel, by decide +kernel⟩
abbrev s_times : Stmt := topS 18
abbrev N_times : List Str := ["numbers", "product", "value", "above", "below", "numerator", "denominator"]
theorem sc_times : FnScope N_times ["numbers"] (defScope s_times) := ⟨rfl, rfl, rfl, by decide +kernel, rfl, by decide +kernel, by decide +kernel⟩
abbrev s_minus : Stmt := topS 19
abbrev N_minus : List Str := ["first", "second"]
theorem sc_minus : FnScope N_minus ["first", "second"] (defScope s_minus) := ⟨rfl, rfl, rfl, by decide +kernel, rfl, by decide +kernel, by decide +kernel⟩
abbrev s_divided : Stmt := topS 20
abbrev N_divided : List Str := ["first", "second", "numerator", "denominator"]
theorem sc_divided : FnScope N_divided ["first", "second"] (defScope s_divided) := ⟨rfl, rfl, rfl, by decide +kernel, rfl, by decide +kernel, by decide +kernel⟩
abbrev s_is_less : Stmt := topS 21
abbrev N_is_less : List Str := ["first", "second", "above", "below", "numerator", "denominator"]
theorem sc_is_less : FnScope N_is_less ["first", "second"] (defScope s_is_less) := ⟨rfl, rfl, rfl, by decide +kernel, rfl, by decide +kernel, by decide +kernel⟩
abbrev s_pot : Stmt := topS 23
abbrev N_pot : List Str := ["_law_script", "_law_k", "_law_digits"]
theorem sc_pot : FnScope N_pot ["_law_script", "_law_k"] (defScope s_pot) := ⟨rfl, rfl, rfl, by decide +kernel, rfl, by decide +kernel, by decide +kernel⟩
abbrev s_draw : Stmt := topS 24
abbrev N_draw : List Str := ["_law_pot_here", "_law_many_here", "_law_digit"]
theorem sc_draw : FnScope N_draw ["_law_pot_here", "_law_many_here"] (defScope s_draw) := ⟨rfl, rfl, rfl, by decide +kernel, rfl, by decide +kernel, by decide +kernel⟩
abbrev s_mixed : Stmt := topS 25
abbrev N_mixed : List Str := ["_law_pot_here", "_law_given", "_law_left", "_law_k"]
theorem sc_mixed : FnScope N_mixed ["_law_pot_here", "_law_given"] (defScope s_mixed) := ⟨rfl, rfl, rfl, by decide +kernel, rfl, by decide +kernel, by decide +kernel⟩
abbrev s_split : Stmt := topS 26
abbrev N_split : List Str := ["_law_ratio_here"]
theorem sc_split : FnScope N_split ["_law_ratio_here"] (defScope s_split) := ⟨rfl, rfl, rfl, by decide +kernel, rfl, by decide +kernel, by decide +kernel⟩
abbrev s_common : Stmt := topS 27
abbrev N_common : List Str := ["_law_a", "_law_b"]
theorem sc_common : FnScope N_common ["_law_a", "_law_b"] (defScope s_common) := ⟨rfl, rfl, rfl, by decide +kernel, rfl, by decide +kernel, by decide +kernel⟩
abbrev s_ratio : Stmt := topS 28
abbrev N_ratio : List Str := ["_law_top", "_law_low", "_law_part"]
theorem sc_ratio : FnScope N_ratio ["_law_top", "_law_low"] (defScope s_ratio) := ⟨rfl, rfl, rfl, by decide +kernel, rfl, by decide +kernel, by decide +kernel⟩
abbrev s_sum : Stmt := topS 29
abbrev N_sum : List Str := ["_law_a", "_law_b", "_law_left", "_law_right_here"]
theorem sc_sum : FnScope N_sum ["_law_a", "_law_b"] (defScope s_sum) := ⟨rfl, rfl, rfl, by decide +kernel, rfl, by decide +kernel, by decide +kernel⟩
abbrev s_product : Stmt := topS 30
abbrev N_product : List Str := ["_law_a", "_law_b", "_law_left", "_law_right_here"]
theorem sc_product : FnScope N_product ["_law_a", "_law_b"] (defScope s_product) := ⟨rfl, rfl, rfl, by decide +kernel, rfl, by decide +kernel, by decide +kernel⟩
abbrev s_quotient : Stmt := topS 31
abbrev N_quotient : List Str := ["_law_a", "_law_b", "_law_left", "_law_right_here"]
theorem sc_quotient : FnScope N_quotient ["_law_a", "_law_b"] (defScope s_quotient) := ⟨rfl, rfl, rfl, by decide +kernel, rfl, by decide +kernel, by decide +kernel⟩
abbrev s_total : Stmt := topS 32
abbrev N_total : List Str := ["_law_ratios", "_law_found", "_law_ratio_here"]
theorem sc_total : FnScope N_total ["_law_ratios"] (defScope s_total) := ⟨rfl, rfl, rfl, by decide +kernel, rfl, by decide +kernel, by decide +kernel⟩
abbrev s_worth : Stmt := topS 33
abbrev N_worth : List Str := ["_law_pot_here", "_law_way", "_law_top"]
theorem sc_worth : FnScope N_worth ["_law_pot_here"] (defScope s_worth) := ⟨rfl, rfl, rfl, by decide +kernel, rfl, by decide +kernel, by decide +kernel⟩
abbrev s_odd : Stmt := topS 34
abbrev N_odd : List Str := ["_law_pot_here", "_law_some"]
theorem sc_odd : FnScope N_odd ["_law_pot_here"] (defScope s_odd) := ⟨rfl, rfl, rfl, by decide +kernel, rfl, by decide +kernel, by decide +kernel⟩
abbrev s_is_ratio : Stmt := topS 35
abbrev N_is_ratio : List Str := ["_law_thing", "_law_part"]
theorem sc_is_ratio : FnScope N_is_ratio ["_law_thing"] (defScope s_is_ratio) := ⟨rfl, rfl, rfl, by decide +kernel, rfl, by decide +kernel, by decide +kernel⟩
abbrev s_many : Stmt := topS 36
abbrev N_many : List Str := ["_law_way", "_law_some"]
theorem sc_many : FnScope N_many ["_law_way", "_law_some"] (defScope s_many) := ⟨rfl, rfl, rfl, by decide +kernel, rfl, by decide +kernel, by decide +kernel⟩
abbrev s_called : Stmt := topS 37
abbrev N_called : List Str := ["_law_way", "_law_some"]
theorem sc_called : FnScope N_called ["_law_way", "_law_some"] (defScope s_called) := ⟨rfl, rfl, rfl, by decide +kernel, rfl, by decide +kernel, by decide +kernel⟩
abbrev s_told : Stmt := topS 38
abbrev N_told : List Str := ["_law_way", "_law_some", "_law_told_here", "e", "_law_others"]
theorem sc_told : FnScope N_told ["_law_way", "_law_some"] (defScope s_told) := ⟨rfl, rfl, rfl, by decide +kernel, rfl, by decide +kernel, by decide +kernel⟩
abbrev s_due : Stmt := topS 39
abbrev N_due : List Str := ["_law_way", "_law_some", "_law_bad", "_law_found", "_law_thing", "_law_left", "_law_right_here"]
theorem sc_due : FnScope N_due ["_law_way", "_law_some"] (defScope s_due) := ⟨rfl, rfl, rfl, by decide +kernel, rfl, by decide +kernel, by decide +kernel⟩
abbrev s_drawn : Stmt := topS 40
abbrev N_drawn : List Str := ["_law_pot_here", "_law_many_here", "_law_found", "_law_k", "_law_some"]
theorem sc_drawn : FnScope N_drawn ["_law_pot_here", "_law_many_here"] (defScope s_drawn) := ⟨rfl, rfl, rfl, by decide +kernel, rfl, by decide +kernel, by decide +kernel⟩
abbrev s_right : Stmt := topS 41
abbrev N_right : List Str := ["_law_pot_here", "_law_way", "_law_some", "_law_shown", "_law_due_here", "_law_thing"]
theorem sc_right : FnScope N_right ["_law_pot_here"] (defScope s_right) := ⟨rfl, rfl, rfl, by decide +kernel, rfl, by decide +kernel, by decide +kernel⟩
abbrev s_undone_right : Stmt := topS 42
abbrev N_undone_right : List Str := ["_law_pot_here", "_law_left", "_law_right_here", "_law_told_here", "_law_back"]
theorem sc_undone_right : FnScope N_undone_right ["_law_pot_here"] (defScope s_undone_right) := ⟨rfl, rfl, rfl, by decide +kernel, rfl, by decide +kernel, by decide +kernel⟩
abbrev s_nine_right : Stmt := topS 43
abbrev N_nine_right : List Str := ["_law_pot_here", "_law_a", "_law_b", "_law_c", "_law_told_here"]
theorem sc_nine_right : FnScope N_nine_right ["_law_pot_here"] (defScope s_nine_right) := ⟨rfl, rfl, rfl, by decide +kernel, rfl, by decide +kernel, by decide +kernel⟩
abbrev s_law : Stmt := topS 44
abbrev N_law : List Str := ["_law_script", "_law_k", "_law_pot_here", "_law_turn"]
theorem sc_law : FnScope N_law ["_law_script"] (defScope s_law) := ⟨rfl, rfl, rfl, by decide +kernel, rfl, by decide +kernel, by decide +kernel⟩
abbrev FnP (K : PySem.W.Frag) (x : Str) (st : Stmt) (f : Addr) (fd : FuncData) : Prop := FunD K x x (defArgs st) (defBody st) (defScope st) [] [] f fd
structure Tz (mg : Str → Option Value) : Prop where
  z_isinstance : mg "isinstance" = none
  z_list : mg "list" = none
  z_tuple : mg "tuple" = none
  z_dict : mg "dict" = none
  z_int : mg "int" = none
  z_bool : mg "bool" = none
  z_len : mg "len" = none
  z_all : mg "all" = none
  z_repr : mg "repr" = none
  z_range : mg "range" = none
  z_max : mg "max" = none
  z_min : mg "min" = none
  z_abs : mg "abs" = none
  z_divmod : mg "divmod" = none
  z_ValueError : mg "ValueError" = none
  z_ArithmeticError : mg "ArithmeticError" = none
  z_super : mg "super" = none
theorem pos_c {j : Int} (h : 0 < j) : 0 < j := h
section
variable {P : Program} {w : World} {K : PySem.W.Frag} {mg : Str → Option Value} {base : Heap} {f : Addr} {fd : FuncData} {fD : Addr} {fdD : FuncData}
def sp_pot (K : PySem.W.Frag) : Sp := fun vs H Q _ => ∃ (s : Addr) (ns : List Int) (k : Nat), vs = [.ref s, .int k] ∧ SqL K H s (ns.map V.int) ∧ k < 1000 ∧
  ∀ p u v, H p = none → 0 ≤ v → v < 2147483648 → Q (.ref p) (upd H p (.lst [.int u, .int v]))
theorem ok_pot (F : FnP K "_law_pot" s_pot f fd) (T : Tz mg) : FnOk P w K mg base CX0 1 f fd ["_law_script", "_law_k"] (sp_pot K) := by
  refine F.ok sc_pot (fun vs H Q E h => ?_) (fun cdv A outer s H vs Q E hr h => ?_)
  · obtain ⟨a, ns, k, rfl, _⟩ := h
    rfl
  · obtain ⟨a, ns, k, rfl, hS, hk, q⟩ := h
    refine ⟨_, PSs.nox (pss_cons (ps_set (i := 2) sc_pot.nd rfl (Or.inl rfl) (pe_ifExp (pt_cmpR op_lt (pv 1) (pe_callB call_len_seq (by rfl) T.z_len (by decide +kernel) (pa_cons (pv 0) pa_nil)) (nomark _)) (pe_ix ix_list (pv 0) (pv 1) (fun _ _ => rfl)) pe_int))
      (pss_one (ps_ret (pe_lst (pa_cons (pe_callB (call_max2 rfl) (by rfl) T.z_max (by decide +kernel) (pa_cons pe_int (pa_cons (pe_op op_sub (pe_callB call_abs (by rfl) T.z_abs (by decide +kernel) (pa_cons (pv 2) pa_nil)) (pe_op op_pow pe_int pe_int)) pa_nil))) (pa_cons (pe_op op_mod (pe_op op_add (pe_op op_add (pe_op op_mul (pe_op op_mod (pe_callB call_abs (by rfl) T.z_abs (by decide +kernel) (pa_cons (pv 2) pa_nil)) pe_int) pe_int) (pe_op op_mul pe_int (pv 1))) pe_int) pe_int) pa_nil)))))), ?_⟩
    refine ⟨_, rfl, .ref a, rfl, a, _, rfl, .inl hS, _, _, rfl, rfl, _, rfl, ?_⟩
    refine ite2 (fun e => ?_) (fun e => ?_)
    · have e1 : (k : Int) < ((ns.map V.int).length : Nat) := of_decide_eq_true e
      have e2 : k < ns.length := by
        rw [List.length_map] at e1
        omega
      have e3 : (ns.map V.int)[k]? = some (.int ns[k]) := by
        rw [List.getElem?_map, List.getElem?_eq_getElem e2]
        rfl
      refine ⟨.ref a, rfl, .int k, rfl, a, _, _, .int ns[k], rfl, rfl, hS, atI_nat e3, ?_⟩
      refine ⟨.int ns[k], rfl, _, rfl, 10, 18, rfl, rfl, ⟨by decide, by decide, by decide⟩, _, _, rfl, rfl, _, _, rfl, ?_⟩
      refine ⟨.int ns[k], rfl, _, rfl, _, _, rfl, rfl, pos_c (by decide), _, _, rfl, rfl, .inr ⟨by decide, by decide⟩, .int k, rfl, _, _, rfl, rfl, .inl ⟨by decide, by decide⟩, _, _, rfl, rfl, _, _, rfl, rfl, _, _, rfl, rfl, pos_c (by decide), ?_⟩
      exact ⟨by show 2 ≤ sizeLine; decide, fun p np => q p _ _ np (Int.emod_nonneg _ (by decide)) (Int.lt_trans (Int.emod_lt_of_pos _ (by decide)) (by decide))⟩
    · refine ⟨.int 0, rfl, _, rfl, 10, 18, rfl, rfl, ⟨by decide, by decide, by decide⟩, _, _, rfl, rfl, _, _, rfl, ?_⟩
      refine ⟨.int 0, rfl, _, rfl, _, _, rfl, rfl, pos_c (by decide), _, _, rfl, rfl, .inr ⟨by decide, by decide⟩, .int k, rfl, _, _, rfl, rfl, .inl ⟨by decide, by decide⟩, _, _, rfl, rfl, _, _, rfl, rfl, _, _, rfl, rfl, pos_c (by decide), ?_⟩
      exact ⟨by show 2 ≤ sizeLine; decide, fun p np => q p _ _ np (Int.emod_nonneg _ (by decide)) (Int.lt_trans (Int.emod_lt_of_pos _ (by decide)) (by decide))⟩

def sp_draw : Sp := fun vs H Q _ => ∃ (a : Addr) (n : Int), vs = [.ref a, .int n] ∧ PotAt H a ∧ 0 < n ∧ n < 1267650600228229401496703205376 ∧
  ∀ r H', 0 ≤ r → r < n → PotAt H' a → Off a H H' → Q (.int r) H'
theorem ok_draw (F : FnP K "_law_draw" s_draw f fd) (T : Tz mg) : FnOk P w K mg base CX0 1 f fd ["_law_pot_here", "_law_many_here"] sp_draw := by
  refine F.ok sc_draw (fun vs H Q E h => ?_) (fun cdv A outer s H vs Q E hr h => ?_)
  · obtain ⟨a, n, rfl, _⟩ := h
    rfl
  · obtain ⟨a, n, rfl, ⟨x, y, hp, y0, y1⟩, n0, n1, q⟩ := h
    refine ⟨_, PSs.nox (pss_cons (ps_if (pt_cmpR op_gt (pe_ix ix_list (pv 0) pe_int (fun _ _ => rfl)) pe_int (nomark _)) (pss_cons (ps_asg (pe_callB call_divmodW (by rfl) T.z_divmod (by decide +kernel) (pa_cons (pe_ix ix_list (pv 0) pe_int (fun _ _ => rfl)) (pa_cons (pv 1) pa_nil))) (pg_tup rfl (pgs_cons (pg_sub (pv 0) pe_int set_list) (pgs_cons (pg_name (i := 2) sc_draw.nd rfl (Or.inl rfl)) pgs_nil))))
      (pss_one (ps_ret (pv 2)))) pss_nil)
      (pss_cons (ps_asg (pe_op op_mod (pe_op op_add (pe_op op_mul (pe_ix ix_list (pv 0) pe_int (fun _ _ => rfl)) pe_int) pe_int) pe_int) (pg_sub (pv 0) pe_int set_list))
      (pss_one (ps_ret (pe_op op_mod (pe_op op_fdiv (pe_op op_mod (pe_op op_mul (pe_ix ix_list (pv 0) pe_int (fun _ _ => rfl)) (pe_ix ix_list (pv 0) pe_int (fun _ _ => rfl))) pe_int) pe_int) (pv 1)))))), ?_⟩
    refine ⟨.ref a, rfl, a, _, 0, .int x, rfl, rfl, .inl (.inl hp), rfl, _, _, rfl, rfl, _, rfl, ite2 (fun e => ?_) (fun e => ?_)⟩
    · have x0 : 0 < x := of_decide_eq_true e
      refine ⟨.ref a, rfl, a, _, 0, .int x, rfl, rfl, .inl (.inl hp), rfl, .int n, rfl, x, n, rfl, ⟨n0, PyProof.noPylong_of_log2 (Nat.lt_of_lt_of_le (PySem.Flt.log2_lt_of (k := 100) (by decide) (by omega)) (by decide))⟩, fun t nt => ?_⟩
      have ht : (upd H t (.tup [.int (x / n), .int (x % n)])) a = some (.lst [.int x, .int y]) := by
        rw [upd_ne (ne_of_none hp nt)]
        exact hp
      refine ⟨t, _, rfl, .inl (.inl upd_same), rfl, _, _, rfl, .ref a, rfl, a, _, 0, 0, rfl, rfl, ht, rfl, _, _, rfl, rfl, .int (x % n), rfl, ?_⟩
      exact q _ _ (Int.emod_nonneg _ (by omega)) (Int.emod_lt_of_pos _ n0) ⟨x / n, y, upd_same, y0, y1⟩ ((Off.new nt).trans Off.at)
    · refine ⟨.ref a, rfl, a, _, 1, .int y, rfl, rfl, .inl (.inl hp), rfl, _, _, rfl, rfl, .inr ⟨by decide, by decide⟩, _, _, rfl, rfl, _, _, rfl, rfl, pos_c (by decide), ?_⟩
      refine ⟨.ref a, rfl, a, _, 1, 1, rfl, rfl, hp, rfl, ?_⟩
      have z0 : 0 ≤ (y * 39373 + 12227) % 2147483629 := Int.emod_nonneg _ (by decide)
      have z1 : (y * 39373 + 12227) % 2147483629 < 2147483629 := Int.emod_lt_of_pos _ (by decide)
      refine ⟨.ref a, rfl, a, _, 1, _, rfl, rfl, .inl (.inl upd_same), rfl, .ref a, rfl, a, _, 1, _, rfl, rfl, .inl (.inl upd_same), rfl, _, _, rfl, rfl, .inl ⟨?_, ?_⟩, _, _, rfl, rfl, pos_c (by decide), _, _, rfl, rfl, ⟨by decide, by decide⟩, .int n, rfl, _, _, rfl, rfl, n0, ?_⟩
      · exact Int.lt_of_lt_of_le (by decide) z0
      · exact Int.lt_trans z1 (by decide)
      · exact q _ _ (Int.emod_nonneg _ (by omega)) (Int.emod_lt_of_pos _ n0) ⟨x, _, upd_same, z0, Int.lt_trans z1 (by decide)⟩ Off.at

/-! ### odd -/
def odds1 : List PyData := [.none, .int 0, .int 1, .bool true, .bool false, .str "", .str "A", .str "nineletters", .tuple [], .list [], .dict [], .tuple [.int 1, .int 2], .tuple [.int 2, .int 4], .tuple [.int 3, .int 1], .tuple [.int 1, .int 0], .tuple [.int 1, .int (-2)]]
def odds2 : List PyData := [.tuple [.bool true, .int 2], .list [.int 1, .int 2], .tuple [.int 1, .int 2, .int 3], .tuple [.str "1", .int 2], .tuple [.int 0, .int 2], .tuple [.int (-3), .int 6], .int (-5), .str "a", .str "ab", .str "a b", .str "1", .tuple [.str "a"]]
def odds3 : List PyData := [.tuple [.int 1, .bool true]]
def odds : List PyData := odds1 ++ odds2 ++ odds3
def sp_odd (K : PySem.W.Frag) : Sp := fun vs H Q _ => ∃ a : Addr, vs = [.ref a] ∧ PotAt H a ∧ ∀ v d H', d ∈ odds → Dq K (off H' a) v d → PotAt H' a → Off a H H' → Q v H'
theorem pot_some {H : Hp} {a : Addr} (h : PotAt H a) : H a ≠ none := by
  obtain ⟨x, y, e, _⟩ := h
  rw [e]
  exact fun z => nomatch z
theorem ok_odd (F : FnP K "_law_odd" s_odd f fd) (T : Tz mg) (O_draw : Own P w K mg base CX0 1 "_law_draw" ["_law_pot_here", "_law_many_here"] sp_draw fD fdD) : FnOk P w K mg base CX0 2 f fd ["_law_pot_here"] (sp_odd K) := by
  refine F.ok sc_odd (fun vs H Q E h => ?_) (fun cdv A outer s H vs Q E hr h => ?_)
  · obtain ⟨a, rfl, _⟩ := h
    rfl
  · obtain ⟨a, rfl, hp, q⟩ := h
    refine ⟨_, PSs.nox (pss_cons (ps_set (i := 1) sc_odd.nd rfl (Or.inl rfl) (pe_lst (pa_cons pe_non (pa_cons pe_int (pa_cons pe_int (pa_cons pe_bl (pa_cons pe_bl (pa_cons pe_str (pa_cons pe_str (pa_cons pe_str (pa_cons (pe_tup pa_nil) (pa_cons (pe_lst pa_nil) (pa_cons pe_dnewK (pa_cons (pe_tup (pa_cons pe_int (pa_cons pe_int pa_nil))) (pa_cons (pe_tup (pa_cons pe_int (pa_cons pe_int pa_nil))) (pa_cons (pe_tup (pa_cons pe_int (pa_cons pe_int pa_nil))) (pa_cons (pe_tup (pa_cons pe_int (pa_cons pe_int pa_nil))) (pa_cons (pe_tup (pa_cons pe_int (pa_cons (pe_un un_neg pe_int) pa_nil))) pa_nil))))))))))))))))))
      (pss_cons (ps_set (i := 1) sc_odd.nd rfl (Or.inl rfl) (pe_op op_cat (pv 1) (pe_lst (pa_cons (pe_tup (pa_cons pe_bl (pa_cons pe_int pa_nil))) (pa_cons (pe_lst (pa_cons pe_int (pa_cons pe_int pa_nil))) (pa_cons (pe_tup (pa_cons pe_int (pa_cons pe_int (pa_cons pe_int pa_nil)))) (pa_cons (pe_tup (pa_cons pe_str (pa_cons pe_int pa_nil))) (pa_cons (pe_tup (pa_cons pe_int (pa_cons pe_int pa_nil))) (pa_cons (pe_tup (pa_cons (pe_un un_neg pe_int) (pa_cons pe_int pa_nil))) (pa_cons (pe_un un_neg pe_int) (pa_cons pe_str (pa_cons pe_str (pa_cons pe_str (pa_cons pe_str (pa_cons (pe_tup (pa_cons pe_str pa_nil)) pa_nil)))))))))))))))
      (pss_one (ps_ret (pe_ix ix_list (pe_op op_cat (pv 1) (pe_lst (pa_cons (pe_tup (pa_cons pe_int (pa_cons pe_bl pa_nil))) pa_nil))) (pe_own O_draw (hr.mono (by first | decide | omega)) (pa_cons (pv 0) (pa_cons pe_int pa_nil))) (fun _ _ => rfl)))))), ?_⟩
    refine s_lst (ds := odds1) (K := K) ?m1 (by decide) fun v1 H1 t1 s1 l1 d1 n1 => ?_
    case m1 => exact .cons .non (.cons .int (.cons .int (.cons .bl (.cons .bl (.cons .str (.cons .str (.cons .str (.cons (.tup .nil) (.cons (.lst .nil) (.cons .dict (.cons (.tup (.cons .int (.cons .int .nil))) (.cons (.tup (.cons .int (.cons .int .nil))) (.cons (.tup (.cons .int (.cons .int .nil))) (.cons (.tup (.cons .int (.cons .int .nil))) (.cons (.tup (.cons .int (.cons .neg .nil))) .nil)))))))))))))))
    have p1 := (hp.same s1).new (o := .lst v1) n1
    refine e_cat (ds := odds2) (K := K) (t := t1) (xs := v1) ?m2 (by rw [l1]; decide) rfl upd_same fun v2 H2 t2 s2 l2 d2 n2 => ?_
    case m2 => exact .cons (.tup (.cons .bl (.cons .int .nil))) (.cons (.lst (.cons .int (.cons .int .nil))) (.cons (.tup (.cons .int (.cons .int (.cons .int .nil)))) (.cons (.tup (.cons .str (.cons .int .nil))) (.cons (.tup (.cons .int (.cons .int .nil))) (.cons (.tup (.cons .neg (.cons .int .nil))) (.cons .neg (.cons .str (.cons .str (.cons .str (.cons .str (.cons (.tup (.cons .str .nil)) .nil)))))))))))
    have p2 := (p1.same s2).new (o := .lst (v1 ++ v2)) n2
    refine e_cat (ds := odds3) (K := K) (t := t2) (xs := v1 ++ v2) ?m3 (by rw [List.length_append, l1, l2]; decide) rfl upd_same fun v3 H3 t3 s3 l3 d3 n3 => ?_
    case m3 => exact .cons (.tup (.cons .int (.cons .bl .nil))) .nil
    have p3 := (p2.same s3).new (o := .lst (v1 ++ v2 ++ v3)) n3
    have sA : Same H1 H3 := (((same_upd n1).trans s2).trans (same_upd n2)).trans s3
    have sB : Same H2 H3 := (same_upd n2).trans s3
    have sC : Same H H3 := s1.trans sA
    have sD : Same H3 (upd H3 t3 (.lst (v1 ++ v2 ++ v3))) := same_upd n3
    have dd : DqAll K (off H3 a) (v1 ++ v2 ++ v3) odds :=
      dq_app (dq_app (DqAll.same (off_mono sA) (d1 a (pot_some hp))) (DqAll.same (off_mono sB) (d2 a (pot_some p1)))) (d3 a (pot_some p2))
    have ll : (v1 ++ v2 ++ v3).length = 29 := by rw [List.length_append, List.length_append, l1, l2, l3]; rfl
    refine ⟨.ref a, rfl, a, 29, rfl, p3, by decide, by decide, fun r H4 r0 r1 p6 o6 => ?_⟩
    obtain ⟨v, hv, _, ev⟩ := at_in (xs := v1 ++ v2 ++ v3) r0 (by rw [ll]; exact r1)
    obtain ⟨d, hd, dv⟩ := dq_at dd v hv
    refine ⟨t3, _, r, v, rfl, rfl, .inl (.inl (o6.get upd_same ((p2.same s3).ne n3))), ev, ?_⟩
    exact q v d H4 hd (Dq.same ((off_mono sD).trans o6) dv) p6 ((Off.same (sC.trans sD)).trans o6)

end
end K13

set_option Elab.async false
set_option linter.all false
set_option maxRecDepth 100000
set_option maxHeartbeats 4000000
namespace K13
open PySem PySem.Spec PyProof.Rows L2 Lw
section
variable {P : Program} {w : World} {K : PySem.W.Frag} {mg : Str → Option Value} {base : Heap} {f : Addr} {fd : FuncData} {fG : Addr} {fdG : FuncData}

/-! ### common_divisor -/
def sp_gcd : Sp := fun vs H Q _ => ∃ a b : Int, vs = [.int a, .int b] ∧ Q (.int (Int.gcd a b : Int)) H
theorem ok_common_divisor (F : FnP K "common_divisor" s_common_divisor f fd) (T : Tz mg) : FnOk P w K mg base CX0 1 f fd ["first", "second"] sp_gcd := by
  refine F.ok sc_common_divisor (fun vs H Q E h => ?_) (fun cdv A outer s H vs Q E hr h => ?_)
  · obtain ⟨a, b, rfl, _⟩ := h
    rfl
  · obtain ⟨a, b, rfl, q⟩ := h
    refine ⟨_, PSs.nox (pss_cons (ps_while PassesOwn.never (pt_cmpR op_ne (pv 1) pe_int (nomark _)) (pss_one (ps_par (i := 0) (j := 1) (by rfl) sc_common_divisor.nd rfl rfl (by decide) rfl rfl (pa_cons (pv 1) (pa_cons (pe_op op_modN (pv 0) (pv 1)) pa_nil)) (by rfl))))
      (pss_one (ps_ret (pe_callB call_abs (by rfl) T.z_abs (by decide +kernel) (pa_cons (pv 0) pa_nil))))), ?_⟩
    refine ⟨fun m σ H1 => ∃ x y : Int, σ = [some (.int x), some (.int y)] ∧ H1 = H ∧ Int.gcd x y = Int.gcd a b ∧ m = y.natAbs, ⟨_, a, b, rfl, rfl, rfl, rfl⟩, ?_⟩
    rintro m σ H1 ⟨x, y, rfl, rfl, e, rfl⟩
    refine ⟨.int y, rfl, rfl, _, rfl, ?_⟩
    by_cases hy : y = 0
    · subst hy
      refine iteF ⟨.int x, rfl, x, rfl, ?_⟩
      rw [abs_if]
      rw [Int.gcd_zero_right] at e
      rw [e]
      exact q
    · have hne : (!decide (V.int y = V.int 0)) = true := by
        rw [decide_eq_false (fun z => hy (V.int.inj z))]
        rfl
      rw [hne]
      refine ⟨fun σ' H' => ∃ u v : Int, σ' = [some (.int u), some (.int v)] ∧ H' = H1 ∧ Int.gcd u v = Int.gcd a b ∧ v.natAbs < y.natAbs, fun σ' H' hn => ?_, ?_⟩
      · obtain ⟨u, v, e1, e2, e3, e4⟩ := hn
        exact ⟨_, e4, u, v, e1, e2, e3, rfl⟩
      · refine ⟨.int y, rfl, .int x, rfl, .int y, rfl, _, _, rfl, rfl, hy, _, _, rfl, y, x.fmod y, rfl, rfl, ?_, fmod_fall x y hy⟩
        rw [gcd_step, e]
theorem ok_common (F : FnP K "_law_common" s_common f fd) (T : Tz mg) : FnOk P w K mg base CX0 1 f fd ["_law_a", "_law_b"] sp_gcd := by
  refine F.ok sc_common (fun vs H Q E h => ?_) (fun cdv A outer s H vs Q E hr h => ?_)
  · obtain ⟨a, b, rfl, _⟩ := h
    rfl
  · obtain ⟨a, b, rfl, q⟩ := h
    refine ⟨_, PSs.nox (pss_cons (ps_while PassesOwn.never (pt_cmpR op_ne (pv 1) pe_int (nomark _)) (pss_one (ps_par (i := 0) (j := 1) (by rfl) sc_common.nd rfl rfl (by decide) rfl rfl (pa_cons (pv 1) (pa_cons (pe_op op_modN (pv 0) (pv 1)) pa_nil)) (by rfl))))
      (pss_one (ps_ret (pe_callB call_abs (by rfl) T.z_abs (by decide +kernel) (pa_cons (pv 0) pa_nil))))), ?_⟩
    refine ⟨fun m σ H1 => ∃ x y : Int, σ = [some (.int x), some (.int y)] ∧ H1 = H ∧ Int.gcd x y = Int.gcd a b ∧ m = y.natAbs, ⟨_, a, b, rfl, rfl, rfl, rfl⟩, ?_⟩
    rintro m σ H1 ⟨x, y, rfl, rfl, e, rfl⟩
    refine ⟨.int y, rfl, rfl, _, rfl, ?_⟩
    by_cases hy : y = 0
    · subst hy
      refine iteF ⟨.int x, rfl, x, rfl, ?_⟩
      rw [abs_if]
      rw [Int.gcd_zero_right] at e
      rw [e]
      exact q
    · have hne : (!decide (V.int y = V.int 0)) = true := by
        rw [decide_eq_false (fun z => hy (V.int.inj z))]
        rfl
      rw [hne]
      refine ⟨fun σ' H' => ∃ u v : Int, σ' = [some (.int u), some (.int v)] ∧ H' = H1 ∧ Int.gcd u v = Int.gcd a b ∧ v.natAbs < y.natAbs, fun σ' H' hn => ?_, ?_⟩
      · obtain ⟨u, v, e1, e2, e3, e4⟩ := hn
        exact ⟨_, e4, u, v, e1, e2, e3, rfl⟩
      · refine ⟨.int y, rfl, .int x, rfl, .int y, rfl, _, _, rfl, rfl, hy, _, _, rfl, y, x.fmod y, rfl, rfl, ?_, fmod_fall x y hy⟩
        rw [gcd_step, e]

/-! ### lowest -/
def sp_lowest (K : PySem.W.Frag) : Sp := fun vs H Q _ => ∃ n d : Int, vs = [.int n, .int d] ∧ d ≠ 0 ∧ d.natAbs < 2 ^ 1000 ∧ ∀ v H', Same H H' → Fresh K H H' v (lowD n d) → Q v H'
theorem ok_lowest (F : FnP K "lowest" s_lowest f fd) (T : Tz mg) (O_common_divisor : Own P w K mg base CX0 1 "common_divisor" ["first", "second"] sp_gcd fG fdG) : FnOk P w K mg base CX0 2 f fd ["numerator", "denominator"] (sp_lowest K) := by
  refine F.ok sc_lowest (fun vs H Q E h => ?_) (fun cdv A outer s H vs Q E hr h => ?_)
  · obtain ⟨n, d, rfl, _⟩ := h
    rfl
  · obtain ⟨n, d, rfl, hd, hb, q⟩ := h
    refine ⟨_, PSs.nox (pss_cons (ps_set (i := 2) sc_lowest.nd rfl (Or.inl rfl) (pe_own O_common_divisor (hr.mono (by first | decide | omega)) (pa_cons (pv 0) (pa_cons (pv 1) pa_nil))))
      (pss_cons (ps_if (pt_cmpR op_lt (pv 1) pe_int (nomark _)) (pss_one (ps_set (i := 2) sc_lowest.nd rfl (Or.inl rfl) (pe_un un_neg (pv 2)))) pss_nil)
      (pss_cons (ps_set (i := 3) sc_lowest.nd rfl (Or.inl rfl) (pe_op op_fdivG (pv 0) (pv 2)))
      (pss_cons (ps_set (i := 4) sc_lowest.nd rfl (Or.inl rfl) (pe_op op_fdivG (pv 1) (pv 2)))
      (pss_cons (ps_if (pt_cmpR op_eq (pv 4) pe_int (nomark _)) (pss_one (ps_ret (pv 3))) pss_nil)
      (pss_one (ps_ret (pe_tup (pa_cons (pv 3) (pa_cons (pv 4) pa_nil)))))))))), ?_⟩
    have hc0 := lowC_ne (n := n) hd
    have hcb : (lowC n d).natAbs < 2 ^ 1000 := Nat.lt_of_le_of_lt (lowC_le hd) hb
    -- behind the if: common is lowC n d
    have tail : ∀ u : Int, u = lowC n d → (tSeq (tAsg (tOp (rI CDivG fun i j => .int (i.fdiv j)) (tVar 0) (tVar 2)) (gName 3)) (tSeq (tAsg (tOp (rI CDivG fun i j => .int (i.fdiv j)) (tVar 1) (tVar 2)) (gName 4)) (tSeq (tIfS (tTest (tOp rEq (tVar 4) (tC (.int 1)))) (tRet (tVar 3)) tNext) (tRet (tTup (tCons (tVar 3) (tCons (tVar 4) tNil))))))) { nx := fun _ H' => Q .non H', rt := Q } [some (.int n), some (.int d), some (.int u), none, none] H := by
      rintro u rfl
      refine ⟨.int n, rfl, .int (lowC n d), rfl, _, _, rfl, rfl, ⟨hc0, hcb⟩, .int d, rfl, .int (lowC n d), rfl, _, _, rfl, rfl, ⟨hc0, hcb⟩, _, rfl, rfl, _, rfl, ?_⟩
      by_cases h1 : d.fdiv (lowC n d) = 1
      · rw [decide_eq_true (congrArg V.int h1)]
        refine iteT ⟨_, rfl, q _ H (Same.refl H) ?_⟩
        unfold lowD
        rw [if_pos h1]
        exact Dq.int _
      · rw [decide_eq_false (fun z => h1 (V.int.inj z))]
        refine iteF ⟨_, rfl, _, rfl, by show 2 ≤ sizeLine; decide, fun t nt => q _ _ (same_upd nt) ?_⟩
        unfold lowD
        rw [if_neg h1]
        exact Dq.tup (.inl (.inl ((nw_at nt).trans upd_same))) (.cons (.int _) (.cons (.int _) .nil))
    refine ⟨.int n, rfl, .int d, rfl, n, d, rfl, .int d, rfl, _, _, rfl, rfl, _, rfl, ite2 (fun e => ?_) (fun e => ?_)⟩
    · have e1 : d < 0 := of_decide_eq_true e
      refine ⟨_, rfl, _, rfl, ?_⟩
      refine tail _ ?_
      unfold lowC
      rw [if_pos e1]
    · have e1 : ¬ d < 0 := fun z => e (decide_eq_true z)
      refine tail _ ?_
      unfold lowC
      rw [if_neg e1]

/-! ### ratio -/
theorem ok_ratio (F : FnP K "_law_ratio" s_ratio f fd) (T : Tz mg) (O_common : Own P w K mg base CX0 1 "_law_common" ["_law_a", "_law_b"] sp_gcd fG fdG) : FnOk P w K mg base CX0 2 f fd ["_law_top", "_law_low"] (sp_lowest K) := by
  refine F.ok sc_ratio (fun vs H Q E h => ?_) (fun cdv A outer s H vs Q E hr h => ?_)
  · obtain ⟨n, d, rfl, _⟩ := h
    rfl
  · obtain ⟨n, d, rfl, hd, hb, q⟩ := h
    refine ⟨_, PSs.nox (pss_cons (ps_if (pt_cmpR op_lt (pv 1) pe_int (nomark _)) (pss_one (ps_par (i := 0) (j := 1) (by rfl) sc_ratio.nd rfl rfl (by decide) rfl rfl (pa_cons (pe_un un_neg (pv 0)) (pa_cons (pe_un un_neg (pv 1)) pa_nil)) (by rfl))) pss_nil)
      (pss_cons (ps_set (i := 2) sc_ratio.nd rfl (Or.inl rfl) (pe_own O_common (hr.mono (by first | decide | omega)) (pa_cons (pv 0) (pa_cons (pv 1) pa_nil))))
      (pss_one (ps_ret (pe_ifExp (pt_cmpR op_eq (pv 1) (pv 2) (nomark _)) (pe_op op_fdivG (pv 0) (pv 2)) (pe_tup (pa_cons (pe_op op_fdivG (pv 0) (pv 2)) (pa_cons (pe_op op_fdivG (pv 1) (pv 2)) pa_nil)))))))), ?_⟩
    have hl0 : ratL d ≠ 0 := by
      unfold ratL
      split <;> omega
    have hlb : (ratL d).natAbs < 2 ^ 1000 := by
      unfold ratL
      split <;> omega
    have gp := gcd_pos (n := ratN n d) hl0
    have gl := gcd_le (n := ratN n d) hl0
    have g0 : (Int.gcd (ratN n d) (ratL d) : Int) ≠ 0 := by omega
    have gb : (Int.gcd (ratN n d) (ratL d) : Int).natAbs < 2 ^ 1000 := by omega
    have tail : ∀ x y : Int, x = ratN n d → y = ratL d → (tSeq (tAsg (tCall sp_gcd [] E0 (tCons (tVar 0) (tCons (tVar 1) tNil))) (gName 2)) (tRet (tIf (tTest (tOp rEq (tVar 1) (tVar 2))) (tOp (rI CDivG fun i j => .int (i.fdiv j)) (tVar 0) (tVar 2)) (tTup (tCons (tOp (rI CDivG fun i j => .int (i.fdiv j)) (tVar 0) (tVar 2)) (tCons (tOp (rI CDivG fun i j => .int (i.fdiv j)) (tVar 1) (tVar 2)) tNil)))))) { nx := fun _ H' => Q .non H', rt := Q } [some (.int x), some (.int y), none] H := by
      rintro x y rfl rfl
      refine ⟨_, rfl, _, rfl, ratN n d, ratL d, rfl, _, rfl, _, rfl, rfl, _, rfl, ?_⟩
      rw [← ratD_eq hd] at q
      by_cases h1 : ratL d = (Int.gcd (ratN n d) (ratL d) : Int)
      · rw [decide_eq_true (congrArg V.int h1)]
        refine iteT ⟨_, rfl, _, rfl, _, _, rfl, rfl, ⟨g0, gb⟩, q _ H (Same.refl H) ?_⟩
        unfold ratD
        rw [if_pos h1]
        exact Dq.int _
      · rw [decide_eq_false (fun z => h1 (V.int.inj z))]
        refine iteF ⟨_, rfl, _, rfl, _, _, rfl, rfl, ⟨g0, gb⟩, _, rfl, _, rfl, _, _, rfl, rfl, ⟨g0, gb⟩, by show 2 ≤ sizeLine; decide, fun t nt => q _ _ (same_upd nt) ?_⟩
        unfold ratD
        rw [if_neg h1]
        exact Dq.tup (.inl (.inl ((nw_at nt).trans upd_same))) (.cons (.int _) (.cons (.int _) .nil))
    refine ⟨.int d, rfl, _, _, rfl, rfl, _, rfl, ite2 (fun e => ?_) (fun e => ?_)⟩
    · have e1 : d < 0 := of_decide_eq_true e
      refine ⟨_, rfl, _, rfl, _, rfl, _, rfl, _, _, rfl, ?_⟩
      refine tail _ _ ?_ ?_
      · unfold ratN
        rw [if_pos e1]
      · unfold ratL
        rw [if_pos e1]
    · have e1 : ¬ d < 0 := fun z => e (decide_eq_true z)
      refine tail _ _ ?_ ?_
      · unfold ratN
        rw [if_neg e1]
      · unfold ratL
        rw [if_neg e1]
end
end K13

set_option Elab.async false
set_option linter.all false
set_option maxRecDepth 100000
set_option maxHeartbeats 4000000
namespace K13
open PySem PySem.Spec PyProof.Rows L2 Lw
section
variable {P : Program} {w : World} {K : PySem.W.Frag} {mg : Str → Option Value} {base : Heap} {f : Addr} {fd : FuncData} {fD fG fI : Addr} {fdD fdG fdI : FuncData}
def isT : PyData → Bool
  | .tuple _ => true
  | _ => false
def isL : PyData → Bool
  | .list _ => true
  | _ => false
def isDc : PyData → Bool
  | .dict _ => true
  | _ => false
def isI : PyData → Bool
  | .int _ => true
  | .bool _ => true
  | _ => false
def isB : PyData → Bool
  | .bool _ => true
  | _ => false
theorem kit_tuple (d : PyData) : kitB (tyD d) "tuple" = some (isT d) := by
  cases d
  all_goals
    simp only [tyD, isT]
    decide +kernel
theorem kit_list (d : PyData) : kitB (tyD d) "list" = some (isL d) := by
  cases d
  all_goals
    simp only [tyD, isL]
    decide +kernel
theorem kit_dict (d : PyData) : kitB (tyD d) "dict" = some (isDc d) := by
  cases d
  all_goals
    simp only [tyD, isDc]
    decide +kernel
theorem kit_int (d : PyData) : kitB (tyD d) "int" = some (isI d) := by
  cases d
  all_goals
    simp only [tyD, isI]
    decide +kernel
theorem kit_bool (d : PyData) : kitB (tyD d) "bool" = some (isB d) := by
  cases d
  all_goals
    simp only [tyD, isB]
    decide +kernel
def intD (d : PyData) : Bool := isI d && !isB d
theorem intD_int {d : PyData} (h : intD d = true) : ∃ i, d = .int i := by
  cases d with
  | int i => exact ⟨i, rfl⟩
  | _ => cases h

/-! ### is_integer, is_whole -/
def sp_int (K : PySem.W.Frag) : Sp := fun vs H Q _ => ∃ (v : V) (d : PyData), vs = [v] ∧ Dq K H v d ∧ Q (.bl (intD d)) H
theorem ok_is_integer (F : FnP K "is_integer" s_is_integer f fd) (T : Tz mg) : FnOk P w K mg base CX0 1 f fd ["value"] (sp_int K) := by
  refine F.ok sc_is_integer (fun vs H Q E h => ?_) (fun cdv A outer s H vs Q E hr h => ?_)
  · obtain ⟨v, d, rfl, _⟩ := h
    rfl
  · obtain ⟨v, d, rfl, hd, q⟩ := h
    refine ⟨_, PSs.nox (pss_one (ps_ret (pe_and (pe_callB call_isi (by rfl) T.z_isinstance (by decide +kernel) (pa_cons (pv 0) (pa_cons (pe_bltn (v := .ty "int") (by rfl) T.z_int (by decide +kernel) rfl) pa_nil))) (pe_one (pe_not (pe_callB call_isi (by rfl) T.z_isinstance (by decide +kernel) (pa_cons (pv 0) (pa_cons (pe_bltn (v := .ty "bool") (by rfl) T.z_bool (by decide +kernel) rfl) pa_nil)))))))), ?_⟩
    refine ⟨v, rfl, v, .ty "int", _, _, _, rfl, .ty _, hd.ty, kit_ty (kit_int d), _, rfl, ite2 (fun e => ?_) (fun e => ?_)⟩
    · refine ⟨v, rfl, v, .ty "bool", _, _, _, rfl, .ty _, hd.ty, kit_ty (kit_bool d), _, rfl, ?_⟩
      unfold intD at q
      rw [e, Bool.true_and] at q
      exact q
    · unfold intD at q
      rw [Bool.eq_false_iff.mpr e, Bool.false_and] at q
      exact q
/-! ### is_number -/
def ratioB : List PyData → Bool
  | [.int n, .int e] => decide (2 ≤ e) && decide (Int.gcd n e = 1)
  | _ => false
def numD : PyData → Bool
  | .tuple ds => ratioB ds
  | d => intD d
theorem ratio_len {ds : List PyData} (h : ds.length ≠ 2) : ratioB ds = false := by
  match ds with
  | [] => rfl
  | [a] => cases a <;> rfl
  | [a, b] => exact absurd rfl h
  | a :: b :: c :: r => cases a <;> cases b <;> rfl
theorem ratio_all {ds : List PyData} (h : ds.all intD = false) : ratioB ds = false := by
  match ds with
  | [] => rfl
  | [a] => cases a <;> rfl
  | [a, b] =>
    cases a <;> cases b <;> first | rfl | (exact Bool.noConfusion (show true = false from h))
  | a :: b :: c :: r => cases a <;> cases b <;> rfl
theorem two_ints {K : PySem.W.Frag} {H : Hp} {vs : List V} {ds : List PyData} (g : DqAll K H vs ds) (hl : ds.length = 2) (ha : ds.all intD = true) : ∃ n e : Int, ds = [.int n, .int e] ∧ vs = [.int n, .int e] := by
  match ds, hl with
  | [a, b], _ =>
    simp only [List.all_cons, List.all_nil, Bool.and_true, Bool.and_eq_true] at ha
    obtain ⟨n, rfl⟩ := intD_int ha.1
    obtain ⟨e, rfl⟩ := intD_int ha.2
    cases g with
    | cons h1 g =>
      cases g with
      | cons h2 g =>
        cases g
        cases h1
        cases h2
        exact ⟨n, e, rfl, rfl⟩
theorem take_map {ds : List PyData} {i : Nat} {d : PyData} {g : PyData → Bool} (h : ds[i]? = some d) : ((ds.take (i + 1)).map g) = ((ds.take i).map g) ++ [g d] := by
  rw [List.take_add_one, h, List.map_append]
  rfl
def Lean_ (d : PyData) : Prop := ∀ ds, d = .tuple ds → ds.length ≤ 900
def sp_num (K : PySem.W.Frag) : Sp := fun vs H Q _ => ∃ (v : V) (d : PyData), vs = [v] ∧ Dq K H v d ∧ Lean_ d ∧ ∀ H', Same H H' → Q (.bl (numD d)) H'
theorem ok_is_number (F : FnP K "is_number" s_is_number f fd) (T : Tz mg) (O_is_integer : Own P w K mg base CX0 1 "is_integer" ["value"] (sp_int K) fI fdI) (O_common_divisor : Own P w K mg base CX0 1 "common_divisor" ["first", "second"] sp_gcd fG fdG) :
    FnOk P w K mg base CX0 2 f fd ["value"] (sp_num K) := by
  refine F.ok sc_is_number (fun vs H Q E h => ?_) (fun cdv A outer s H vs Q E hr h => ?_)
  · obtain ⟨v, d, rfl, _⟩ := h
    rfl
  · obtain ⟨v, d, rfl, hd, hn, q⟩ := h
    refine ⟨_, PSs.nox (pss_cons (ps_if (pt_not (pt_val (pe_callB call_isi (by rfl) T.z_isinstance (by decide +kernel) (pa_cons (pv 0) (pa_cons (pe_bltn (v := .ty "tuple") (by rfl) T.z_tuple (by decide +kernel) rfl) pa_nil))))) (pss_one (ps_ret (pe_own O_is_integer (hr.mono (by first | decide | omega)) (pa_cons (pv 0) pa_nil)))) pss_nil)
      (pss_cons (ps_if (PW.pt (pw_or (pt_cmpR op_ne (pe_callB call_len_seq (by rfl) T.z_len (by decide +kernel) (pa_cons (pv 0) pa_nil)) pe_int (nomark _)) (pw_or1 (pt_not (pt_val (pe_callB (cr_all rfl) (by rfl) T.z_all (by decide +kernel) (pa_cons (pe_lc (own := [("part", 3)]) (g := gName 3) (tt := tYes) rfl sc_is_number.nd (pi_tup (pv 0)) (blkOk_by (own := [("part", 3)]) (N := N_is_number) (sc := defScope s_is_number) (by decide +kernel)) (fun _ _ _ _ _ => pg_name (i := 3) sc_is_number.nd rfl (Or.inl rfl)) (fun _ _ _ _ _ => pts_nil) (fun _ _ _ _ _ => (pe_own O_is_integer (hr.mono (by first | decide | omega)) (pa_cons (pv 3) pa_nil)))) pa_nil))))))) (pss_one (ps_ret pe_bl)) pss_nil)
      (pss_cons (ps_asg (pv 0) (pg_tup rfl (pgs_cons (pg_name (i := 1) sc_is_number.nd rfl (Or.inl rfl)) (pgs_cons (pg_name (i := 2) sc_is_number.nd rfl (Or.inl rfl)) pgs_nil))))
      (pss_one (ps_ret (pe_and (pe_cmpR op_ge (pv 2) pe_int (nomark _)) (pe_one (pe_cmpR op_eq (pe_own O_common_divisor (hr.mono (by first | decide | omega)) (pa_cons (pv 1) (pa_cons (pv 2) pa_nil))) pe_int (nomark _))))))))), ?_⟩
    refine ⟨v, rfl, v, .ty "tuple", _, _, _, rfl, .ty _, hd.ty, kit_ty (kit_tuple d), _, rfl, ?_⟩
    cases hd with
    | @tup a xs ds h g =>
      refine iteF ?_
      have le := dq_len g
      have l9 := hn ds rfl
      refine ⟨.ref a, rfl, a, xs, rfl, .inr h, rfl, _, rfl, ite2 (fun e => ?_) (fun e => ?_)⟩
      · have e2 : ds.length ≠ 2 := fun z => by
          rw [le, z] at e
          exact absurd e (by decide)
        have en : numD (.tuple ds) = false := ratio_len e2
        rw [en] at q
        exact q H (Same.refl H)
      · have e2 : ds.length = 2 := by
          rw [le] at e
          refine Classical.byContradiction fun z => e ?_
          rw [decide_eq_false (fun y => z (by have := V.int.inj y; omega))]
          rfl
        refine ⟨.ref a, rfl, a, rfl, ⟨_, h⟩, fun D nD => ?_⟩
        refine lc_tup (K := K) (a := a) (xs := xs) (fun i H2 => Same H H2 ∧ H2 D = some (.lst (((ds.take i).map intD).map V.bl))) ⟨same_upd nD, upd_same⟩ (fun i H2 _ hp => same_t hp.1 h) ?_ ?_
        · rintro i x H2 hx ⟨s2, e3⟩
          obtain ⟨dx, hdx, dqx⟩ := dq_get g hx
          refine ⟨rfl, x, rfl, x, dx, rfl, dqx.same s2, _, e3, ?_, fun b o eb => ?_, ?_⟩
          · rw [List.length_map, List.length_map, List.length_take]
            exact small1000 (by omega)
          · rw [upd_ne (ne_of_none eb nD)]
            exact s2 _ _ eb
          · rw [upd_same, take_map hdx, List.map_append]
            rfl
        · rintro H2 ⟨s2, e3⟩
          refine ⟨D, _, rfl, .inl (.inl e3), _, rfl, ?_⟩
          rw [List.all_map, List.take_of_length_le (Nat.le_of_eq le.symm)]
          have ei : (ds.all (id ∘ intD)) = ds.all intD := rfl
          rw [ei]
          by_cases ha : ds.all intD = true
          · rw [ha]
            refine iteF ?_
            obtain ⟨n, m, rfl, rfl⟩ := two_ints g e2 ha
            refine ⟨.ref a, rfl, a, _, rfl, same_t s2 h, rfl, _, _, rfl, _, _, rfl, rfl, ?_⟩
            refine ⟨.int m, rfl, _, _, rfl, rfl, _, rfl, ite2 (fun e4 => ?_) (fun e4 => ?_)⟩
            · refine ⟨.int n, rfl, .int m, rfl, n, m, rfl, rfl, ?_⟩
              have en : numD (.tuple [.int n, .int m]) = decide (V.int (Int.gcd n m : Int) = V.int 1) := by
                show (decide (2 ≤ m) && decide (Int.gcd n m = 1)) = _
                rw [e4, Bool.true_and]
                by_cases h1 : Int.gcd n m = 1
                · rw [decide_eq_true h1, decide_eq_true (by rw [h1]; rfl)]
                · rw [decide_eq_false h1, decide_eq_false (fun z => h1 (by have := V.int.inj z; omega))]
              rw [← en]
              exact q H2 s2
            · have en : numD (.tuple [.int n, .int m]) = false := by
                show (decide (2 ≤ m) && decide (Int.gcd n m = 1)) = _
                rw [Bool.eq_false_iff.mpr e4, Bool.false_and]
              rw [en] at q
              exact q H2 s2
          · rw [Bool.eq_false_iff.mpr ha]
            have en : numD (.tuple ds) = false := ratio_all (Bool.eq_false_iff.mpr ha)
            rw [en] at q
            exact iteT (q H2 s2)
    | non => exact ⟨_, rfl, _, _, rfl, .non, q H (Same.refl H)⟩
    | bl b => exact ⟨_, rfl, _, _, rfl, .bl b, q H (Same.refl H)⟩
    | int i => exact ⟨_, rfl, _, _, rfl, .int i, q H (Same.refl H)⟩
    | str z => exact ⟨_, rfl, _, _, rfl, .str z, q H (Same.refl H)⟩
    | lst h g => exact ⟨_, rfl, _, _, rfl, .lst h g, q H (Same.refl H)⟩
    | dic h => exact ⟨_, rfl, _, _, rfl, .dic h, q H (Same.refl H)⟩
end
end K13

set_option Elab.async false
set_option linter.all false
set_option maxRecDepth 100000
set_option maxHeartbeats 4000000
namespace K13
open PySem PySem.Spec PyProof.Rows L2 Lw
section
variable {P : Program} {w : World} {K : PySem.W.Frag} {mg : Str → Option Value} {base : Heap} {f : Addr} {fd : FuncData} {fD fG fI : Addr} {fdD fdG fdI : FuncData}

/-! ### whole -/
theorem ok_is_ratio (F : FnP K "_law_is_ratio" s_is_ratio f fd) (T : Tz mg) (O_common : Own P w K mg base CX0 1 "_law_common" ["_law_a", "_law_b"] sp_gcd fG fdG) : FnOk P w K mg base CX0 2 f fd ["_law_thing"] (sp_num K) := by
  refine F.ok sc_is_ratio (fun vs H Q E h => ?_) (fun cdv A outer s H vs Q E hr h => ?_)
  · obtain ⟨v, d, rfl, _⟩ := h
    rfl
  · obtain ⟨v, d, rfl, hd, hn, q⟩ := h
    refine ⟨_, PSs.nox (pss_cons (ps_if (pt_val (pe_callB call_isi (by rfl) T.z_isinstance (by decide +kernel) (pa_cons (pv 0) (pa_cons (pe_bltn (v := .ty "int") (by rfl) T.z_int (by decide +kernel) rfl) pa_nil)))) (pss_one (ps_ret (pe_not (pe_callB call_isi (by rfl) T.z_isinstance (by decide +kernel) (pa_cons (pv 0) (pa_cons (pe_bltn (v := .ty "bool") (by rfl) T.z_bool (by decide +kernel) rfl) pa_nil)))))) pss_nil)
      (pss_cons (ps_if (PW.pt (pw_or (pt_not (pt_val (pe_callB call_isi (by rfl) T.z_isinstance (by decide +kernel) (pa_cons (pv 0) (pa_cons (pe_bltn (v := .ty "tuple") (by rfl) T.z_tuple (by decide +kernel) rfl) pa_nil))))) (pw_or1 (pt_cmpR op_ne (pe_callB call_len_seq (by rfl) T.z_len (by decide +kernel) (pa_cons (pv 0) pa_nil)) pe_int (nomark _))))) (pss_one (ps_ret pe_bl)) pss_nil)
      (pss_cons (ps_if (pt_not (pt_val (pe_callB (cr_all rfl) (by rfl) T.z_all (by decide +kernel) (pa_cons (pe_lc (own := [("_law_part", 1)]) (g := gName 1) (tt := tYes) rfl sc_is_ratio.nd (pi_tup (pv 0)) (blkOk_by (own := [("_law_part", 1)]) (N := N_is_ratio) (sc := defScope s_is_ratio) (by decide +kernel)) (fun _ _ _ _ _ => pg_name (i := 1) sc_is_ratio.nd rfl (Or.inl rfl)) (fun _ _ _ _ _ => pts_nil) (fun _ _ _ _ _ => (pe_and (pe_callB (show CallR _ _ (rIsi K) from call_isi) (by rfl) T.z_isinstance (by decide +kernel) (pa_cons (pv 1) (pa_cons (pe_bltn (v := .ty "int") (by rfl) T.z_int (by decide +kernel) rfl) pa_nil))) (pe_one (pe_not (pe_callB (show CallR _ _ (rIsi K) from call_isi) (by rfl) T.z_isinstance (by decide +kernel) (pa_cons (pv 1) (pa_cons (pe_bltn (v := .ty "bool") (by rfl) T.z_bool (by decide +kernel) rfl) pa_nil)))))))) pa_nil)))) (pss_one (ps_ret pe_bl)) pss_nil)
      (pss_one (ps_ret (pe_and (pe_cmpR op_gt (pe_ix ix_tup (pv 0) pe_int (fun _ _ => rfl)) pe_int (nomark _)) (pe_one (pe_cmpR op_eq (pe_own O_common (hr.mono (by first | decide | omega)) (pa_cons (pe_ix ix_tup (pv 0) pe_int (fun _ _ => rfl)) (pa_cons (pe_ix ix_tup (pv 0) pe_int (fun _ _ => rfl)) pa_nil))) pe_int (nomark _))))))))), ?_⟩
    refine ⟨v, rfl, v, .ty "int", _, _, _, rfl, .ty _, hd.ty, kit_ty (kit_int d), _, rfl, ?_⟩
    have other : isI d = false → numD d = ratioB (match d with | .tuple ds => ds | _ => []) := by
      intro z
      cases d <;> first | rfl | cases z
    by_cases hi : isI d = true
    · rw [hi]
      refine ⟨v, rfl, v, .ty "bool", _, _, _, rfl, .ty _, hd.ty, kit_ty (kit_bool d), _, rfl, ?_⟩
      have en : numD d = !isB d := by
        cases d <;> first | rfl | cases hi
      rw [en] at q
      exact q H (Same.refl H)
    · have hi0 : isI d = false := Bool.eq_false_iff.mpr hi
      rw [hi0]
      refine ⟨v, rfl, v, .ty "tuple", _, _, _, rfl, .ty _, hd.ty, kit_ty (kit_tuple d), _, rfl, ?_⟩
      cases hd with
      | @tup a xs ds h g =>
        have le := dq_len g
        have l9 := hn ds rfl
        refine ⟨.ref a, rfl, a, xs, rfl, .inr h, rfl, _, rfl, ite2 (fun e => ?_) (fun e => ?_)⟩
        · have e2 : ds.length ≠ 2 := fun z => by
            rw [le, z] at e
            exact absurd e (by decide)
          have en : numD (.tuple ds) = false := ratio_len e2
          rw [en] at q
          exact q H (Same.refl H)
        · have e2 : ds.length = 2 := by
            rw [le] at e
            refine Classical.byContradiction fun z => e ?_
            rw [decide_eq_false (fun y => z (by have := V.int.inj y; omega))]
            rfl
          refine ⟨.ref a, rfl, a, rfl, ⟨_, h⟩, fun D nD => ?_⟩
          refine lc_tup (K := K) (a := a) (xs := xs) (fun i H2 => Same H H2 ∧ H2 D = some (.lst (((ds.take i).map intD).map V.bl))) ⟨same_upd nD, upd_same⟩ (fun i H2 _ hp => same_t hp.1 h) ?_ ?_
          · rintro i x H2 hx ⟨s2, e3⟩
            obtain ⟨dx, hdx, dqx⟩ := dq_get g hx
            have fin : ∃ acc, H2 D = some (.lst acc) ∧ acc.length < sizeLine ∧ (fun i H2 => Same H H2 ∧ H2 D = some (.lst (((ds.take i).map intD).map V.bl))) (i + 1) (upd H2 D (.lst (acc ++ [.bl (intD dx)]))) := by
              refine ⟨_, e3, ?_, fun b o eb => ?_, ?_⟩
              · rw [List.length_map, List.length_map, List.length_take]
                exact small1000 (by omega)
              · rw [upd_ne (ne_of_none eb nD)]
                exact s2 _ _ eb
              · rw [upd_same, take_map hdx, List.map_append]
                rfl
            refine ⟨rfl, x, rfl, x, .ty "int", _, _, _, rfl, .ty _, (dqx.same s2).ty, kit_ty (kit_int dx), _, rfl, ite2 (fun e4 => ?_) (fun e4 => ?_)⟩
            · refine ⟨x, rfl, x, .ty "bool", _, _, _, rfl, .ty _, (dqx.same s2).ty, kit_ty (kit_bool dx), _, rfl, ?_⟩
              have en : intD dx = !isB dx := by
                unfold intD
                rw [e4, Bool.true_and]
              rw [en] at fin
              exact fin
            · have en : intD dx = false := by
                unfold intD
                rw [Bool.eq_false_iff.mpr e4, Bool.false_and]
              rw [en] at fin
              exact fin
          · rintro H2 ⟨s2, e3⟩
            refine ⟨D, _, rfl, .inl (.inl e3), _, rfl, ?_⟩
            rw [List.all_map, List.take_of_length_le (Nat.le_of_eq le.symm)]
            have ei : (ds.all (id ∘ intD)) = ds.all intD := rfl
            rw [ei]
            by_cases ha : ds.all intD = true
            · rw [ha]
              refine iteF ?_
              obtain ⟨n, m, rfl, rfl⟩ := two_ints g e2 ha
              have h2 := same_t s2 h
              refine ⟨.ref a, rfl, a, _, 1, .int m, rfl, rfl, h2, rfl, _, _, rfl, rfl, _, rfl, ite2 (fun e4 => ?_) (fun e4 => ?_)⟩
              · refine ⟨.ref a, rfl, a, _, 0, .int n, rfl, rfl, h2, rfl, .ref a, rfl, a, _, 1, .int m, rfl, rfl, h2, rfl, n, m, rfl, rfl, ?_⟩
                have e5 : (1 : Int) < m := of_decide_eq_true e4
                have en : numD (.tuple [.int n, .int m]) = decide (V.int (Int.gcd n m : Int) = V.int 1) := by
                  show (decide (2 ≤ m) && decide (Int.gcd n m = 1)) = _
                  rw [decide_eq_true (show (2 : Int) ≤ m by omega), Bool.true_and]
                  by_cases h1 : Int.gcd n m = 1
                  · rw [decide_eq_true h1, decide_eq_true (by rw [h1]; rfl)]
                  · rw [decide_eq_false h1, decide_eq_false (fun z => h1 (by have := V.int.inj z; omega))]
                rw [← en]
                exact q H2 s2
              · have e5 : ¬ (1 : Int) < m := fun z => e4 (decide_eq_true z)
                have en : numD (.tuple [.int n, .int m]) = false := by
                  show (decide (2 ≤ m) && decide (Int.gcd n m = 1)) = _
                  rw [decide_eq_false (show ¬ (2 : Int) ≤ m by omega), Bool.false_and]
                rw [en] at q
                exact q H2 s2
            · rw [Bool.eq_false_iff.mpr ha]
              have en : numD (.tuple ds) = false := ratio_all (Bool.eq_false_iff.mpr ha)
              rw [en] at q
              exact iteT (q H2 s2)
      | bl b => exact absurd rfl hi
      | int i => exact absurd rfl hi
      | non => exact q H (Same.refl H)
      | str z => exact q H (Same.refl H)
      | lst h g => exact q H (Same.refl H)
      | dic h => exact q H (Same.refl H)

/-! ### kept -/
def sp_kept (K : PySem.W.Frag) : Nat → Sp
  | 0 => fun _ _ _ _ => False
  | n + 1 => fun vs H Q _ => ∃ (v : V) (d : PyData), vs = [v] ∧ Dq K H v d ∧ d.depth ≤ n ∧ slim d = true ∧ ∀ v' H', Same H H' → Fresh K H H' v' d → Q v' H'
theorem ok_kept (F : FnP K "kept" s_kept f fd) (T : Tz mg) (m : mg "kept" = some (.ref f)) : ∀ n, FnOk P w K mg base CX0 (n + 1) f fd ["value"] (sp_kept K n)
  | 0 => ⟨fun _ _ _ _ h => h.elim, fun _ _ _ _ _ _ _ _ _ _ _ _ _ h => h.elim⟩
  | n + 1 => by
    have O_kept : Own P w K mg base CX0 (n + 1) "kept" ["value"] (sp_kept K n) f fd := ⟨ok_kept F T m n, m, F.kp, F.bindsN fun _ _ _ _ _ _ us hl => match us, hl with | [_], _ => rfl⟩
    refine F.ok sc_kept (fun vs H Q E h => ?_) (fun cdv A outer s H vs Q E hr h => ?_)
    · obtain ⟨v, d, rfl, _⟩ := h
      rfl
    · obtain ⟨v, d, rfl, hd, hdp, hsl, q⟩ := h
      refine ⟨_, PSs.nox (pss_cons (ps_if (pt_val (pe_callB call_isi (by rfl) T.z_isinstance (by decide +kernel) (pa_cons (pv 0) (pa_cons (pe_bltn (v := .ty "list") (by rfl) T.z_list (by decide +kernel) rfl) pa_nil)))) (pss_one (ps_ret (pe_lc (own := [("item", 2)]) (g := gName 2) (tt := tYes) rfl sc_kept.nd (pi_list (pv 0)) (blkOk_by (own := [("item", 2)]) (N := N_kept) (sc := defScope s_kept) (by decide +kernel)) (fun _ _ _ _ _ => pg_name (i := 2) sc_kept.nd rfl (Or.inl rfl)) (fun _ _ _ _ _ => pts_nil) (fun _ _ _ _ _ => (pe_own O_kept (hr.mono (by first | decide | omega)) (pa_cons (pv 2) pa_nil)))))) pss_nil)
      (pss_cons (ps_if (pt_val (pe_callB call_isi (by rfl) T.z_isinstance (by decide +kernel) (pa_cons (pv 0) (pa_cons (pe_bltn (v := .ty "tuple") (by rfl) T.z_tuple (by decide +kernel) rfl) pa_nil)))) (pss_one (ps_ret (pe_callTy call_tuple_of (by rfl) T.z_tuple (by decide +kernel) (pa_cons (pe_lc (own := [("item", 2)]) (g := gName 2) (tt := tYes) rfl sc_kept.nd (pi_tup (pv 0)) (blkOk_by (own := [("item", 2)]) (N := N_kept) (sc := defScope s_kept) (by decide +kernel)) (fun _ _ _ _ _ => pg_name (i := 2) sc_kept.nd rfl (Or.inl rfl)) (fun _ _ _ _ _ => pts_nil) (fun _ _ _ _ _ => (pe_own O_kept (hr.mono (by first | decide | omega)) (pa_cons (pv 2) pa_nil)))) pa_nil)))) pss_nil)
      (pss_cons (ps_if (pt_val (pe_callB call_isi (by rfl) T.z_isinstance (by decide +kernel) (pa_cons (pv 0) (pa_cons (pe_bltn (v := .ty "dict") (by rfl) T.z_dict (by decide +kernel) rfl) pa_nil)))) (pss_one (ps_ret (pe_lock (pe_dc (own := [("key", 1)]) (g := gName 1) (tt := tYes) rfl sc_kept.nd (pi_keys (pv 0)) (blkOk_by (own := [("key", 1)]) (N := N_kept) (sc := defScope s_kept) (by decide +kernel)) (fun _ _ _ _ _ => pg_name (i := 1) sc_kept.nd rfl (Or.inl rfl)) (fun _ _ _ _ _ => pts_nil) (fun _ _ _ _ _ => (pv 1)) (fun _ _ _ _ _ => (pe_own O_kept (hr.mono (by first | decide | omega)) (pa_cons (pe_dget (hu_of hr) (pv 0) (pv 1) (fun _ _ => rfl)) pa_nil))))))) pss_nil)
      (pss_one (ps_ret (pv 0)))))), ?_⟩
      refine ⟨v, rfl, v, .ty "list", _, _, _, rfl, .ty _, hd.ty, kit_ty (kit_list d), _, rfl, ?_⟩
      -- what a comprehension over items keeps
      have turn : ∀ {xs : List V} {ds : List PyData} {D : Addr} {i : Nat} {x : V} {H2 : Hp} {R : V → Hp → Prop}, DqAll K H xs ds → PyData.depthAll ds < n → slimAll ds = true → ds.length ≤ 900 → H D = none → xs[i]? = some x →
          (Same H H2 ∧ ∃ ws, H2 D = some (.lst ws) ∧ ws.length = i ∧ DqAll K (nw (upd H D (.lst [])) H2) ws (ds.take i)) →
          (∀ y H4, (∃ acc, H4 D = some (.lst acc) ∧ acc.length < sizeLine ∧ (Same H (upd H4 D (.lst (acc ++ [y]))) ∧ ∃ ws, (upd H4 D (.lst (acc ++ [y]))) D = some (.lst ws) ∧ ws.length = i + 1 ∧ DqAll K (nw (upd H D (.lst [])) (upd H4 D (.lst (acc ++ [y])))) ws (ds.take (i + 1)))) → R y H4) →
          sp_kept K n [x] H2 R E0 := by
        intro xs ds D i x H2 R g hdep hsa hlen nD hx ⟨s2, ws, e2, l2, g2⟩ k
        obtain ⟨dx, hdx, dqx⟩ := dq_get g hx
        have hmem : dx ∈ ds := List.mem_of_getElem? hdx
        have hil : i < ds.length := (List.getElem?_eq_some_iff.mp hdx).1
        cases n with
        | zero => omega
        | succ n' =>
          refine ⟨x, dx, rfl, dqx.same s2, ?_, slim_at hsa hmem, fun v' H4 s4 fr => k v' H4 ⟨ws, s4 _ _ e2, ?_, fun b o e => ?_, ws ++ [v'], upd_same, ?_, ?_⟩⟩
          · have := depth_at hmem
            omega
          · rw [l2]
            exact small1000 (by omega)
          · rw [upd_ne (ne_of_none e nD)]
            exact s4 _ _ (s2 _ _ e)
          · rw [List.length_append, l2]
            rfl
          · have hB : ∀ b, H2 b = none → upd H D (.lst []) b = none := fun b hb => by
              have nb : b ≠ D := fun e => by
                rw [e, e2] at hb
                cases hb
              rw [upd_ne nb]
              exact s2.free hb
            have a1 : Same (nw (upd H D (.lst [])) H2) (nw (upd H D (.lst [])) (upd H4 D (.lst (ws ++ [v'])))) := nw_mono (fun _ e => e) fun b o h1 h2 => by
              have nb : b ≠ D := fun e => by
                rw [e, upd_same] at h1
                cases h1
              rw [upd_ne nb]
              exact s4 _ _ h2
            have a2 : Same (nw H2 H4) (nw (upd H D (.lst [])) (upd H4 D (.lst (ws ++ [v'])))) := nw_mono hB fun b o h1 h2 => by
              have nb : b ≠ D := fun e => by
                rw [e, e2] at h1
                cases h1
              rw [upd_ne nb]
              exact h2
            rw [List.take_add_one, hdx]
            exact dqall_snoc (DqAll.same a1 g2) (Dq.same a2 fr)
      have start : ∀ {ds : List PyData} {D : Addr}, H D = none → (Same H (upd H D (.lst [])) ∧ ∃ ws, (upd H D (.lst [])) D = some (.lst ws) ∧ ws.length = 0 ∧ DqAll K (nw (upd H D (.lst [])) (upd H D (.lst []))) ws (ds.take 0)) :=
        fun nD => ⟨same_upd nD, [], upd_same, rfl, .nil⟩
      have base_ : ∀ {D : Addr} {H2 : Hp}, H D = none → Same (nw (upd H D (.lst [])) H2) (nw H H2) := fun {D H2} nD => nw_mono (fun b e => (same_upd nD).free e) fun _ _ _ e => e
      cases hd with
      | @lst a xs ds h g =>
        refine ⟨.ref a, rfl, a, rfl, ⟨_, h⟩, fun D nD => ?_⟩
        have h1 : slim (.list ds) = (decide (ds.length ≤ 900) && slimAll ds) := by simp only [slim]
        rw [h1, Bool.and_eq_true] at hsl
        have l9 : ds.length ≤ 900 := of_decide_eq_true hsl.1
        have hdep : PyData.depthAll ds < n := by
          simp only [PyData.depth] at hdp
          omega
        have le := dq_len g
        refine lc_list (K := K) (a := a) (xs := xs) (fun i H2 => Same H H2 ∧ ∃ ws, H2 D = some (.lst ws) ∧ ws.length = i ∧ DqAll K (nw (upd H D (.lst [])) H2) ws (ds.take i)) (start nD) (fun i H2 _ hp => hp.1.seq h) ?_ ?_
        · intro i x H2 hx hp
          exact ⟨rfl, x, rfl, turn g hdep hsl.2 l9 nD hx hp fun y H4 z => z⟩
        · rintro H2 ⟨s2, ws, e2, l2, g2⟩
          refine q _ H2 s2 (Dq.lst (.inl (.inl ((nw_at nD).trans e2))) ?_)
          rw [List.take_of_length_le (Nat.le_of_eq le.symm)] at g2
          exact DqAll.same (base_ nD) g2
      | @tup a xs ds h g =>
        refine iteF ?_
        refine ⟨.ref a, rfl, .ref a, .ty "tuple", _, _, _, rfl, .ty _, (Dq.tup h g).ty, kit_ty (kit_tuple (.tuple ds)), _, rfl, ?_⟩
        refine ⟨.ref a, rfl, a, rfl, ⟨_, h⟩, fun D nD => ?_⟩
        have h1 : slim (.tuple ds) = (decide (ds.length ≤ 900) && slimAll ds) := by simp only [slim]
        rw [h1, Bool.and_eq_true] at hsl
        have l9 : ds.length ≤ 900 := of_decide_eq_true hsl.1
        have hdep : PyData.depthAll ds < n := by
          simp only [PyData.depth] at hdp
          omega
        have le := dq_len g
        refine lc_tup (K := K) (a := a) (xs := xs) (fun i H2 => Same H H2 ∧ ∃ ws, H2 D = some (.lst ws) ∧ ws.length = i ∧ DqAll K (nw (upd H D (.lst [])) H2) ws (ds.take i)) (start nD) (fun i H2 _ hp => same_t hp.1 h) ?_ ?_
        · intro i x H2 hx hp
          exact ⟨rfl, x, rfl, turn g hdep hsl.2 l9 nD hx hp fun y H4 z => z⟩
        · rintro H2 ⟨s2, ws, e2, l2, g2⟩
          refine ⟨D, ws, rfl, .inl ⟨.inl (.inl e2), fun t nt => ?_⟩⟩
          have nHt : H t = none := s2.free nt
          refine q _ _ (s2.trans (same_upd nt)) (Dq.tup (.inl (.inl ((nw_at nHt).trans upd_same))) ?_)
          rw [List.take_of_length_le (Nat.le_of_eq le.symm)] at g2
          exact DqAll.same ((base_ nD).trans (nw_mono (fun _ e => e) fun b o _ e => same_upd nt _ _ e)) g2
      | @dic a h =>
        refine iteF ?_
        refine ⟨.ref a, rfl, .ref a, .ty "tuple", _, _, _, rfl, .ty _, (Dq.dic h).ty, kit_ty (kit_tuple (.dict [])), _, rfl, iteF ?_⟩
        refine ⟨.ref a, rfl, .ref a, .ty "dict", _, _, _, rfl, .ty _, (Dq.dic h).ty, kit_ty (kit_dict (.dict [])), _, rfl, ?_⟩
        refine ⟨a, .dK [], h, trivial, fun od => ?_⟩
        refine ⟨.ref a, rfl, a, od, rfl, .inl ⟨[], upd_same, fun D nD => ?_⟩⟩
        have nDa : D ≠ a := fun e => by
          rw [e, upd_same] at nD
          cases nD
        have nHD : H D = none := by
          rw [upd_ne nDa] at nD
          exact nD
        refine ⟨fun i m H2 => H2 = upd (upd H a (.frz od (.dK []))) D (.dK []), ⟨0, rfl⟩, ?_⟩
        rintro i m H2 rfl
        refine .inl ⟨⟨?_, Nat.zero_le _⟩, ?_, ?_⟩
        · rw [upd_ne nDa.symm, upd_same]
        · rw [upd_ne nDa.symm, upd_same]
        · refine q _ _ (fun b o e => ?_) (Dq.dic ?_)
          · by_cases hb : b = a
            · subst hb
              rw [upd_same]
              rw [h] at e
              exact e
            · rw [upd_ne hb, upd_ne (ne_of_none e nHD), upd_ne hb]
              exact e
          · rw [nw_at nHD, upd_ne nDa, upd_same]
      | non => exact ⟨_, rfl, _, .ty "tuple", _, _, _, rfl, .ty _, Dq.ty .non, kit_ty (kit_tuple .none), _, rfl, _, rfl, _, .ty "dict", _, _, _, rfl, .ty _, Dq.ty .non, kit_ty (kit_dict .none), _, rfl, _, rfl, q _ H (Same.refl H) Dq.non⟩
      | bl b => exact ⟨_, rfl, _, .ty "tuple", _, _, _, rfl, .ty _, Dq.ty (.bl b), kit_ty (kit_tuple (.bool b)), _, rfl, _, rfl, _, .ty "dict", _, _, _, rfl, .ty _, Dq.ty (.bl b), kit_ty (kit_dict (.bool b)), _, rfl, _, rfl, q _ H (Same.refl H) (Dq.bl b)⟩
      | int i => exact ⟨_, rfl, _, .ty "tuple", _, _, _, rfl, .ty _, Dq.ty (.int i), kit_ty (kit_tuple (.int i)), _, rfl, _, rfl, _, .ty "dict", _, _, _, rfl, .ty _, Dq.ty (.int i), kit_ty (kit_dict (.int i)), _, rfl, _, rfl, q _ H (Same.refl H) (Dq.int i)⟩
      | str z => exact ⟨_, rfl, _, .ty "tuple", _, _, _, rfl, .ty _, Dq.ty (.str z), kit_ty (kit_tuple (.str z)), _, rfl, _, rfl, _, .ty "dict", _, _, _, rfl, .ty _, Dq.ty (.str z), kit_ty (kit_dict (.str z)), _, rfl, _, rfl, q _ H (Same.refl H) (Dq.str z)⟩
end
end K13

set_option Elab.async false
set_option linter.all false
set_option maxRecDepth 100000
set_option maxHeartbeats 4000000
namespace K13
open PySem PySem.Spec PyProof.Rows L2 Lw
abbrev s_ini : Stmt := inClass (topS 3) 0
abbrev W_ini : IniW := ⟨"__init__", "InvalidNumber.__init__", defArgs s_ini, defBody s_ini, defScope s_ini⟩
abbrev N_ini : List Str := ["self", "value", "__class__"]
theorem sc_ini : NdefX.NScope N_ini ["self", "value"] ["__class__"] (defScope s_ini) := NdefX.nscope_by (by decide +kernel)
section
variable {P : Program} {w : World} {K : PySem.W.Frag} {mg : Str → Option Value} {base : Heap} {f : Addr} {fd : FuncData} {fK fI fL fW fR : Addr} {fdK fdI fdL fdW fdR : FuncData} {C cc cda : Addr}
/-! ### init -/
def sp_ini (K : PySem.W.Frag) (C : Addr) (n : Nat) : Sp := fun vs H Q _ => ∃ (a : Addr) (v : V) (d : PyData), vs = [.ref a, v] ∧ H a = some (exo a C none) ∧ Dq K H v d ∧ d.depth ≤ n ∧ slim d = true ∧
  ∀ v' H' dx, Same H H' → Fresh K H H' v' d → H' dx = none → dx ≠ a → Q .non (upd (upd H' dx (exd dx [("value", v')])) a (exo a C (some dx)))
theorem ok_ini {n : Nat} (T : ExcK K C (tlOf "ValueError") "ValueError.__new__") (S : IniK P K mg W_ini f cc cda C "ValueError" "ValueError.__init__") (hno : PySem.W.findIn K (.ref C) "value" = some none)
    (hfd : ∃ (oc : Value) (od : Option Addr) (osl : Array (Option Value)), K.lookup f = some ⟨oc, od, .func fd, osl⟩) (O_kept : Own P w K mg base CX0 (n + 2) "kept" ["value"] (sp_kept K (n + 1)) fK fdK) :
    FnOk P w K mg base CX0 (n + 3) f fd ["self", "value"] (sp_ini K C n) := by
  refine ini_ok (N := N_ini) exb_V T S rfl sc_ini rfl (fun vs H Q E h => ?_) (fun vs H Q E h => ?_) (fun L => ⟨_, rfl⟩) (fun A outer s H vs Q E hr h => ?_) hfd
  · obtain ⟨a, v, d, rfl, _⟩ := h
    rfl
  · obtain ⟨a, v, d, rfl, ha, _⟩ := h
    exact ⟨a, rfl, ha⟩
  · obtain ⟨a, v, d, rfl, ha, hd, hdp, hsl, q⟩ := h
    refine ⟨_, pss_one (ps_ostB exb_V (pv 0) (pe_own O_kept hr (pa_cons (pv 1) pa_nil))), ?_⟩
    refine ⟨v, rfl, v, d, rfl, hd, hdp, hsl, fun v' H' s' fr => ?_⟩
    exact ⟨.ref a, rfl, a, C, rfl, T, hno, s' _ _ ha, fun dx nd ne => q v' H' dx s' fr nd ne⟩

/-- InvalidNumber with the value d leaves -/
def Out (K : PySem.W.Frag) (C : Addr) (H : Hp) (d : PyData) (E : XK) : Prop := ∀ v' dx H', Same H H' → H dx = none → H' dx = some (.xd [("value", v')]) → Fresh K H H' v' d → E (.ref C) (some dx) H'
/-- what a raise of InvalidNumber asks -/
theorem raise_it {n : Nat} {H : Hp} {v : V} {d : PyData} {E : XK} (hd : Dq K H v d) (hdp : d.depth ≤ n) (hsl : slim d = true) (o : Out K C H d E) : [v].length ≤ 1000 ∧ ∀ a, H a = none → sp_ini K C n (.ref a :: ([v] ++ [])) (upd H a (exo a C none))
    (fun u H2 => u = .non ∧ ∃ (dd : Addr) (fs : List (Str × V)), H2 a = some (exo a C (some dd)) ∧ H2 dd = some (exd dd fs) ∧ H dd = none ∧ E (.ref C) (some dd) (upd (del H2 a) dd (.xd fs))) (fun _ _ _ => False) := by
  refine ⟨by show 1 ≤ 1000; decide, fun a na => ⟨a, v, d, rfl, upd_same, hd.same (same_upd na), hdp, hsl, fun v' H' dx s' fr nd ne => ⟨rfl, dx, [("value", v')], upd_same, ?_, ?_, ?_⟩⟩⟩
  · rw [upd_ne ne, upd_same]
  · exact (same_upd na).free (s'.free nd)
  · have nHd : H dx = none := (same_upd na).free (s'.free nd)
    refine o v' dx _ (fun b x e => ?_) nHd upd_same (Dq.same (nw_mono (fun b e => (same_upd na).free e) fun b x h1 h2 => ?_) fr)
    · have ba : b ≠ a := ne_of_none e na
      have bd : b ≠ dx := ne_of_none e nHd
      rw [upd_ne bd, del_ne ba, upd_ne ba, upd_ne bd]
      exact s' _ _ (same_upd na _ _ e)
    · have ba : b ≠ a := fun e => by
        rw [e, upd_same] at h1
        cases h1
      have bd : b ≠ dx := ne_of_none h2 nd
      rw [upd_ne bd, del_ne ba, upd_ne ba, upd_ne bd]
      exact h2

end
end K13

set_option Elab.async false
set_option linter.all false
set_option maxRecDepth 100000
set_option maxHeartbeats 4000000
namespace K13
open PySem PySem.Spec PyProof.Rows L2 Lw
/-! ### numbers as rationals -/
theorem rz {e : Int} (h : e ≠ 0) : (e : Rat) ≠ 0 := fun z => h (Rat.intCast_inj.mp z)
def ofR (q : Rat) : PyData := if q.den = 1 then .int q.num else .tuple [.int q.num, .int (q.den : Int)]
theorem ofR_num (q : Rat) : numD (ofR q) = true := by
  unfold ofR
  split
  · rfl
  · rename_i h
    have h1 := q.reduced
    have h2 := q.den_nz
    show (decide (2 ≤ (q.den : Int)) && decide (Int.gcd q.num (q.den : Int) = 1)) = true
    rw [Bool.and_eq_true, decide_eq_true_eq, decide_eq_true_eq]
    exact ⟨by omega, h1⟩
theorem den_pos (q : Rat) : (0 : Int) < q.den := by
  have := q.den_nz
  omega
theorem den_ne (q : Rat) : (q.den : Int) ≠ 0 := by
  have := q.den_nz
  omega
theorem q_eq (q : Rat) : q = (q.num : Rat) / ((q.den : Int) : Rat) := by
  have e : q = mkRat q.num q.den := by
    conv => lhs; rw [show q = ⟨q.num, q.den, q.den_nz, q.reduced⟩ from rfl]
    exact Rat.mk_eq_mkRat q.num q.den q.den_nz q.reduced
  have e2 := Rat.mkRat_eq_div q.num q.den
  rw [← e] at e2
  exact e2
theorem q_of {n e : Int} (h : 0 < e) (c : Int.gcd n e = 1) : ((n : Rat) / (e : Rat)).num = n ∧ (((n : Rat) / (e : Rat)).den : Int) = e := by
  have h1 : e.toNat ≠ 0 := by omega
  have h2 : n.natAbs.Coprime e.toNat := by
    have : e.natAbs = e.toNat := by omega
    unfold Nat.Coprime
    rw [← this]
    exact c
  have e1 := (Rat.mk_eq_mkRat n e.toNat h1 h2).trans (Rat.mkRat_eq_div n e.toNat)
  have e2 : ((e.toNat : Nat) : Rat) = (e : Rat) := by
    have : ((e.toNat : Int) : Rat) = (e : Rat) := by rw [Int.toNat_of_nonneg (by omega)]
    exact this
  rw [e2] at e1
  rw [← e1]
  exact ⟨rfl, Int.toNat_of_nonneg (by omega)⟩
theorem ofR_div {n e : Int} (h : 0 < e) (c : Int.gcd n e = 1) : ofR ((n : Rat) / (e : Rat)) = if e = 1 then .int n else .tuple [.int n, .int e] := by
  obtain ⟨h1, h2⟩ := q_of h c
  unfold ofR
  by_cases z : e = 1
  · rw [if_pos (by omega), if_pos z, h1]
  · rw [if_neg (by omega), if_neg z, h1, h2]
theorem low_parts {n d : Int} (h : d ≠ 0) : ∃ x y c : Int, c ≠ 0 ∧ 0 < y ∧ Int.gcd x y = 1 ∧ n = c * x ∧ d = c * y ∧ n.fdiv (lowC n d) = x ∧ d.fdiv (lowC n d) = y := by
  have hp := gcd_pos (n := n) h
  obtain ⟨x, hx⟩ := Int.gcd_dvd_left n d
  obtain ⟨y, hy⟩ := Int.gcd_dvd_right n d
  generalize hG : (Int.gcd n d : Int) = G at hx hy
  have hg : Int.gcd x y = 1 := by
    have e : Int.gcd n d = Int.gcd (G * x) (G * y) := by rw [← hx, ← hy]
    rw [Int.gcd_mul_left] at e
    have e2 : G.natAbs = Int.gcd n d := by omega
    have e3 : Int.gcd n d * 1 = Int.gcd n d * Int.gcd x y := by
      rw [Nat.mul_one]
      conv => lhs; rw [e]
      rw [e2]
    exact (Nat.eq_of_mul_eq_mul_left (by omega) e3).symm
  have hy0 : y ≠ 0 := by
    rintro rfl
    rw [Int.mul_zero] at hy
    exact h hy
  by_cases hd : d < 0
  · have yn : y < 0 := by
      rcases Int.lt_trichotomy y 0 with q | q | q
      · exact q
      · exact absurd q hy0
      · have := Int.mul_pos (show 0 < G by omega) q
        omega
    have eC : lowC n d = -G := by
      unfold lowC
      rw [if_pos hd, hG]
    refine ⟨-x, -y, -G, by omega, by omega, by rw [Int.gcd_neg, Int.neg_gcd]; exact hg, by rw [hx]; grind, by rw [hy]; grind, ?_, ?_⟩
    · rw [eC, show n = (-G) * (-x) by rw [hx]; grind]
      exact Int.mul_fdiv_cancel_left _ (by omega)
    · rw [eC, show d = (-G) * (-y) by rw [hy]; grind]
      exact Int.mul_fdiv_cancel_left _ (by omega)
  · have yp : 0 < y := by
      rcases Int.lt_trichotomy y 0 with q | q | q
      · have := Int.mul_neg_of_pos_of_neg (show 0 < G by omega) q
        omega
      · exact absurd q hy0
      · exact q
    have eC : lowC n d = G := by
      unfold lowC
      rw [if_neg hd, hG]
    refine ⟨x, y, G, by omega, yp, hg, hx, hy, ?_, ?_⟩
    · rw [eC]
      conv => lhs; rw [hx]
      exact Int.mul_fdiv_cancel_left _ (by omega)
    · rw [eC]
      conv => lhs; rw [hy]
      exact Int.mul_fdiv_cancel_left _ (by omega)
theorem low_ofR {n d : Int} (h : d ≠ 0) : lowD n d = ofR ((n : Rat) / (d : Rat)) := by
  obtain ⟨x, y, c, hc, hy, hg, e1, e2, f1, f2⟩ := low_parts (n := n) h
  have e : (n : Rat) / (d : Rat) = (x : Rat) / (y : Rat) := by
    rw [e1, e2, Rat.intCast_mul, Rat.intCast_mul]
    have := rz hc
    have : (y : Rat) ≠ 0 := rz (by omega)
    grind
  rw [e, ofR_div hy hg]
  unfold lowD
  rw [f1, f2]
def vr : PyData → Rat
  | .int i => (i : Rat)
  | .tuple [.int n, .int e] => (n : Rat) / (e : Rat)
  | _ => 0
theorem ofR_int (i : Int) : ofR (i : Rat) = .int i := by
  unfold ofR
  rw [Rat.den_intCast, Rat.num_intCast, if_pos rfl]
theorem ofR_vr {d : PyData} (h : numD d = true) : ofR (vr d) = d := by
  match d, h with
  | .int i, _ => exact ofR_int i
  | .tuple [.int n, .int e], h =>
    have h' : (decide (2 ≤ e) && decide (Int.gcd n e = 1)) = true := h
    rw [Bool.and_eq_true, decide_eq_true_eq, decide_eq_true_eq] at h'
    show ofR ((n : Rat) / (e : Rat)) = _
    rw [ofR_div (by omega) h'.2, if_neg (by omega)]
/-- what the code and the law work out -/
theorem l_add (q r : Rat) : lowD (q.num * r.den + r.num * q.den) (q.den * r.den) = ofR (q + r) := by
  rw [low_ofR (Int.mul_ne_zero (den_ne q) (den_ne r))]
  congr 1
  have h1 := rz (den_ne q)
  have h2 := rz (den_ne r)
  conv => rhs; rw [q_eq q, q_eq r]
  rw [Rat.intCast_add, Rat.intCast_mul, Rat.intCast_mul, Rat.intCast_mul]
  grind
theorem l_mul (q r : Rat) : lowD (q.num * r.num) (q.den * r.den) = ofR (q * r) := by
  rw [low_ofR (Int.mul_ne_zero (den_ne q) (den_ne r))]
  congr 1
  have h1 := rz (den_ne q)
  have h2 := rz (den_ne r)
  conv => rhs; rw [q_eq q, q_eq r]
  rw [Rat.intCast_mul, Rat.intCast_mul]
  grind
theorem num_ne {r : Rat} (h : r ≠ 0) : r.num ≠ 0 := fun z => h (by
  rw [q_eq r, z]
  grind)
theorem l_div (q : Rat) {r : Rat} (h : r ≠ 0) : lowD (q.num * r.den) (q.den * r.num) = ofR (q / r) := by
  rw [low_ofR (Int.mul_ne_zero (den_ne q) (num_ne h))]
  congr 1
  have h1 := rz (den_ne q)
  have h2 := rz (den_ne r)
  have h3 := rz (num_ne h)
  conv => rhs; rw [q_eq q, q_eq r]
  rw [Rat.intCast_mul, Rat.intCast_mul]
  grind
theorem l_inv {r : Rat} (h : r ≠ 0) : lowD r.den r.num = ofR (r⁻¹) := by
  rw [low_ofR (num_ne h)]
  congr 1
  have h2 := rz (den_ne r)
  have h3 := rz (num_ne h)
  conv => rhs; rw [q_eq r]
  grind
/-! ### sizes -/
def Bq (k : Nat) (q : Rat) : Prop := q.num.natAbs < 2 ^ k ∧ q.den < 2 ^ k
theorem Bq.mono {j k : Nat} {q : Rat} (h : Bq j q) (e : j ≤ k) : Bq k q := ⟨Nat.lt_of_lt_of_le h.1 (Nat.pow_le_pow_right (by decide) e), Nat.lt_of_lt_of_le h.2 (Nat.pow_le_pow_right (by decide) e)⟩
theorem bq_low {n d : Int} {k : Nat} (h : d ≠ 0) (h1 : n.natAbs < 2 ^ k) (h2 : d.natAbs < 2 ^ k) : Bq k ((n : Rat) / (d : Rat)) := by
  obtain ⟨x, y, c, hc, hy, hg, e1, e2, f1, f2⟩ := low_parts (n := n) h
  have e : (n : Rat) / (d : Rat) = (x : Rat) / (y : Rat) := by
    rw [e1, e2, Rat.intCast_mul, Rat.intCast_mul]
    have := rz hc
    have : (y : Rat) ≠ 0 := rz (by omega)
    grind
  obtain ⟨g1, g2⟩ := q_of hy hg
  have c1 := lowC_dvd n d
  have b1 := fdiv_le (lowC_ne h) c1.1
  have b2 := fdiv_le (lowC_ne h) c1.2
  rw [f1] at b1
  rw [f2] at b2
  rw [e]
  refine ⟨by rw [g1]; omega, ?_⟩
  have : (((x : Rat) / (y : Rat)).den : Int) = y := g2
  omega
theorem nat_mul_lt {a b j k : Nat} (h1 : a < 2 ^ j) (h2 : b < 2 ^ k) : a * b < 2 ^ (j + k) := by
  rw [Nat.pow_add]
  exact Nat.mul_lt_mul'' h1 h2
theorem bq_add {q r : Rat} {j k : Nat} (h1 : Bq j q) (h2 : Bq k r) : Bq (j + k + 1) (q + r) := by
  have e : q + r = ((q.num * r.den + r.num * q.den : Int) : Rat) / ((q.den * r.den : Int) : Rat) := by
    have h1 := rz (den_ne q)
    have h2 := rz (den_ne r)
    conv => lhs; rw [q_eq q, q_eq r]
    rw [Rat.intCast_add, Rat.intCast_mul, Rat.intCast_mul, Rat.intCast_mul]
    grind
  rw [e]
  have e1 : (q.num * (r.den : Int)).natAbs < 2 ^ (j + k) := by
    rw [Int.natAbs_mul]
    exact nat_mul_lt h1.1 h2.2
  have e2 : (r.num * (q.den : Int)).natAbs < 2 ^ (j + k) := by
    rw [Int.natAbs_mul, Nat.mul_comm]
    exact nat_mul_lt h1.2 h2.1
  have e3 : ((q.den : Int) * (r.den : Int)).natAbs < 2 ^ (j + k) := by
    rw [Int.natAbs_mul]
    exact nat_mul_lt h1.2 h2.2
  refine bq_low (Int.mul_ne_zero (den_ne q) (den_ne r)) ?_ ?_
  · rw [Nat.pow_succ]
    have := Int.natAbs_add_le (q.num * (r.den : Int)) (r.num * (q.den : Int))
    omega
  · rw [Nat.pow_succ]
    omega
theorem bq_mul {q r : Rat} {j k : Nat} (h1 : Bq j q) (h2 : Bq k r) : Bq (j + k) (q * r) := by
  have e : q * r = ((q.num * r.num : Int) : Rat) / ((q.den * r.den : Int) : Rat) := by
    have h1 := rz (den_ne q)
    have h2 := rz (den_ne r)
    conv => lhs; rw [q_eq q, q_eq r]
    rw [Rat.intCast_mul, Rat.intCast_mul]
    grind
  rw [e]
  refine bq_low (Int.mul_ne_zero (den_ne q) (den_ne r)) ?_ ?_
  · rw [Int.natAbs_mul]
    exact nat_mul_lt h1.1 h2.1
  · rw [Int.natAbs_mul]
    exact nat_mul_lt h1.2 h2.2
theorem bq_int {i : Int} {k : Nat} (h : i.natAbs < 2 ^ k) (h0 : 0 < k) : Bq k (i : Rat) := by
  refine ⟨by rw [Rat.num_intCast]; exact h, ?_⟩
  rw [Rat.den_intCast]
  exact Nat.one_lt_two_pow (by omega)
theorem bq_neg {q : Rat} {k : Nat} (h : Bq k q) : Bq k (-q) := by
  unfold Bq
  simp only [Rat.neg_num, Rat.neg_den, Int.natAbs_neg]
  exact h
theorem bq_inv {r : Rat} {k : Nat} (h : Bq k r) (z : r ≠ 0) : Bq k (r⁻¹) := by
  have e : r⁻¹ = (((r.den : Int) : Rat)) / ((r.num : Int) : Rat) := by
    have h2 := rz (den_ne r)
    have h3 := rz (num_ne z)
    conv => lhs; rw [q_eq r]
    grind
  rw [e]
  exact bq_low (num_ne z) h.2 h.1
/-! ### sums and products of lists -/
def rsum (qs : List Rat) : Rat := qs.foldl (fun a b => a + b) 0
def rprod (qs : List Rat) : Rat := qs.foldl (fun a b => a * b) 1
theorem foldl_add {qs : List Rat} {a : Rat} : qs.foldl (fun a b => a + b) a = a + rsum qs := by
  unfold rsum
  induction qs generalizing a with
  | nil => show a = a + 0; grind
  | cons q qs ih =>
    rw [List.foldl_cons, List.foldl_cons, ih, ih (a := 0 + q)]
    grind
theorem foldl_mul {qs : List Rat} {a : Rat} : qs.foldl (fun a b => a * b) a = a * rprod qs := by
  unfold rprod
  induction qs generalizing a with
  | nil => show a = a * 1; grind
  | cons q qs ih =>
    rw [List.foldl_cons, List.foldl_cons, ih, ih (a := 1 * q)]
    grind
theorem rsum_perm {xs ys : List Rat} (h : xs.Perm ys) : rsum xs = rsum ys := by
  induction h with
  | nil => rfl
  | cons x _ ih =>
    unfold rsum at *
    rw [List.foldl_cons, List.foldl_cons, foldl_add, foldl_add]
    unfold rsum
    rw [ih]
  | swap x y l =>
    unfold rsum
    rw [List.foldl_cons, List.foldl_cons, List.foldl_cons, List.foldl_cons, foldl_add, foldl_add]
    grind
  | trans _ _ h1 h2 => exact h1.trans h2
theorem rprod_perm {xs ys : List Rat} (h : xs.Perm ys) : rprod xs = rprod ys := by
  induction h with
  | nil => rfl
  | cons x _ ih =>
    unfold rprod at *
    rw [List.foldl_cons, List.foldl_cons, foldl_mul, foldl_mul]
    unfold rprod
    rw [ih]
  | swap x y l =>
    unfold rprod
    rw [List.foldl_cons, List.foldl_cons, List.foldl_cons, List.foldl_cons, foldl_mul, foldl_mul]
    grind
  | trans _ _ h1 h2 => exact h1.trans h2
theorem rsum_snoc {qs : List Rat} {q : Rat} : rsum (qs ++ [q]) = rsum qs + q := by
  unfold rsum
  rw [List.foldl_append]
  rfl
theorem rprod_snoc {qs : List Rat} {q : Rat} : rprod (qs ++ [q]) = rprod qs * q := by
  unfold rprod
  rw [List.foldl_append]
  rfl
theorem bq_rsum {k : Nat} : ∀ {qs : List Rat} (n : Nat), (∀ q ∈ qs, Bq k q) → Bq (1 + n * (k + 1)) (rsum (qs.take n)) := by
  intro qs n h
  induction n with
  | zero =>
    show Bq (1 + 0 * (k + 1)) ((0 : Int) : Rat)
    exact bq_int (by rw [Nat.zero_mul]; decide) (by omega)
  | succ n ih =>
    rw [List.take_add_one]
    cases e : qs[n]? with
    | none =>
      show Bq _ (rsum (qs.take n ++ []))
      rw [List.append_nil]
      exact ih.mono (by rw [Nat.succ_mul]; omega)
    | some q =>
      show Bq _ (rsum (qs.take n ++ [q]))
      rw [rsum_snoc]
      exact (bq_add ih (h q (List.mem_of_getElem? e))).mono (by rw [Nat.succ_mul]; omega)
theorem bq_rprod {k : Nat} : ∀ {qs : List Rat} (n : Nat), (∀ q ∈ qs, Bq k q) → Bq (1 + n * (k + 1)) (rprod (qs.take n)) := by
  intro qs n h
  induction n with
  | zero =>
    show Bq (1 + 0 * (k + 1)) ((1 : Int) : Rat)
    exact bq_int (by rw [Nat.zero_mul]; decide) (by omega)
  | succ n ih =>
    rw [List.take_add_one]
    cases e : qs[n]? with
    | none =>
      show Bq _ (rprod (qs.take n ++ []))
      rw [List.append_nil]
      exact ih.mono (by rw [Nat.succ_mul]; omega)
    | some q =>
      show Bq _ (rprod (qs.take n ++ [q]))
      rw [rprod_snoc]
      exact (bq_mul ih (h q (List.mem_of_getElem? e))).mono (by rw [Nat.succ_mul]; omega)
end K13

set_option Elab.async false
set_option linter.all false
set_option maxRecDepth 100000
set_option maxHeartbeats 4000000
namespace K13
open PySem PySem.Spec PyProof.Rows L2 Lw
section
variable {P : Program} {w : World} {K : PySem.W.Frag} {mg : Str → Option Value} {base : Heap} {f : Addr} {fd : FuncData} {fD fS fR : Addr} {fdD fdS fdR : FuncData}
/-! ### the two parts of a number -/
def sp_parts (K : PySem.W.Frag) : Sp := fun vs H Q _ => ∃ (v : V) (q : Rat), vs = [v] ∧ Dq K H v (ofR q) ∧ ∀ t H', Same H H' → SqT K H' t [.int q.num, .int (q.den : Int)] → Q (.ref t) H'
/-- a number is an integer, or a tuple of its parts -/
theorem ofR_cases {H : Hp} {v : V} {q : Rat} (h : Dq K H v (ofR q)) : (v = .int q.num ∧ (q.den : Int) = 1 ∧ ofR q = .int q.num) ∨ (∃ t, v = .ref t ∧ SqT K H t [.int q.num, .int (q.den : Int)] ∧ ofR q = .tuple [.int q.num, .int (q.den : Int)] ∧ (q.den : Int) ≠ 1) := by
  by_cases z : q.den = 1
  · have e : ofR q = .int q.num := by unfold ofR; rw [if_pos z]
    rw [e] at h
    cases h
    exact .inl ⟨rfl, by omega, e⟩
  · have e : ofR q = .tuple [.int q.num, .int (q.den : Int)] := by unfold ofR; rw [if_neg z]
    rw [e] at h
    cases h with
    | tup hs hg =>
      cases hg with
      | cons a b =>
        cases b with
        | cons c d =>
          cases d
          cases a
          cases c
          exact .inr ⟨_, rfl, hs, e, by omega⟩
theorem ok_parts_of (F : FnP K "parts_of" s_parts_of f fd) (T : Tz mg) : FnOk P w K mg base CX0 1 f fd ["value"] (sp_parts K) := by
  refine F.ok sc_parts_of (fun vs H Q E h => ?_) (fun cdv A outer s H vs Q E hr h => ?_)
  · obtain ⟨v, q, rfl, _⟩ := h
    rfl
  · obtain ⟨v, q, rfl, hd, qq⟩ := h
    refine ⟨_, PSs.nox (pss_cons (ps_if (pt_val (pe_callB call_isi (by rfl) T.z_isinstance (by decide +kernel) (pa_cons (pv 0) (pa_cons (pe_bltn (v := .ty "tuple") (by rfl) T.z_tuple (by decide +kernel) rfl) pa_nil)))) (pss_one (ps_ret (pv 0))) pss_nil)
      (pss_one (ps_ret (pe_tup (pa_cons (pv 0) (pa_cons pe_int pa_nil)))))), ?_⟩
    refine ⟨v, rfl, v, .ty "tuple", _, _, _, rfl, .ty _, hd.ty, kit_ty (kit_tuple _), _, rfl, ?_⟩
    rcases ofR_cases hd with ⟨rfl, hden, e⟩ | ⟨t, rfl, hs, e, _⟩
    · rw [e]
      refine iteF ⟨_, rfl, by show 2 ≤ sizeLine; decide, fun t nt => qq t _ (same_upd nt) (.inl (.inl ?_))⟩
      rw [upd_same, hden]
    · rw [e]
      exact iteT ⟨_, rfl, qq t H (Same.refl H) hs⟩
theorem ok_split (F : FnP K "_law_split" s_split f fd) (T : Tz mg) : FnOk P w K mg base CX0 1 f fd ["_law_ratio_here"] (sp_parts K) := by
  refine F.ok sc_split (fun vs H Q E h => ?_) (fun cdv A outer s H vs Q E hr h => ?_)
  · obtain ⟨v, q, rfl, _⟩ := h
    rfl
  · obtain ⟨v, q, rfl, hd, qq⟩ := h
    refine ⟨_, PSs.nox (pss_one (ps_ret (pe_ifExp (pt_val (pe_callB call_isi (by rfl) T.z_isinstance (by decide +kernel) (pa_cons (pv 0) (pa_cons (pe_bltn (v := .ty "tuple") (by rfl) T.z_tuple (by decide +kernel) rfl) pa_nil)))) (pv 0) (pe_tup (pa_cons (pv 0) (pa_cons pe_int pa_nil)))))), ?_⟩
    refine ⟨v, rfl, v, .ty "tuple", _, _, _, rfl, .ty _, hd.ty, kit_ty (kit_tuple _), _, rfl, ?_⟩
    rcases ofR_cases hd with ⟨rfl, hden, e⟩ | ⟨t, rfl, hs, e, _⟩
    · rw [e]
      refine iteF ⟨_, rfl, by show 2 ≤ sizeLine; decide, fun t nt => qq t _ (same_upd nt) (.inl (.inl ?_))⟩
      rw [upd_same, hden]
    · rw [e]
      exact iteT ⟨_, rfl, qq t H (Same.refl H) hs⟩
/-! ### sum, product, quotient -/
def sp_two (K : PySem.W.Frag) (g : Rat → Rat → Rat) : Sp := fun vs H Q _ => ∃ (x y : V) (q r : Rat) (j k : Nat), vs = [x, y] ∧ Dq K H x (ofR q) ∧ Dq K H y (ofR r) ∧ Bq j q ∧ Bq k r ∧ j + k ≤ 998 ∧ ∀ v H', Same H H' → Fresh K H H' v (ofR (g q r)) → Q v H'
theorem cm {i j : Int} {a b : Nat} (ha : i.natAbs < 2 ^ a) (hb : j.natAbs < 2 ^ b) (h : a + b ≤ 998) : CMulX i j := mulx_ok ha hb (by omega)
theorem nd {r : Rat} {k : Nat} (h : Bq k r) : ((r.den : Int)).natAbs < 2 ^ k := h.2
theorem small_den {q r : Rat} {j k : Nat} (h1 : Bq j q) (h2 : Bq k r) (h : j + k ≤ 998) : ((q.den : Int) * (r.den : Int)).natAbs < 2 ^ 1000 := by
  rw [Int.natAbs_mul]
  exact Nat.lt_of_lt_of_le (nat_mul_lt h1.2 h2.2) (Nat.pow_le_pow_right (by decide) (by omega))
theorem ok_sum (F : FnP K "_law_sum" s_sum f fd) (T : Tz mg) (O_split : Own P w K mg base CX0 1 "_law_split" ["_law_ratio_here"] (sp_parts K) fS fdS) (O_ratio : Own P w K mg base CX0 2 "_law_ratio" ["_law_top", "_law_low"] (sp_lowest K) fR fdR) :
    FnOk P w K mg base CX0 3 f fd ["_law_a", "_law_b"] (sp_two K fun q r => q + r) := by
  refine F.ok sc_sum (fun vs H Q E h => ?_) (fun cdv A outer s H vs Q E hr h => ?_)
  · obtain ⟨x, y, q, r, j, k, rfl, _⟩ := h
    rfl
  · obtain ⟨x, y, q, r, j, k, rfl, hx, hy, b1, b2, hj, qq⟩ := h
    refine ⟨_, PSs.nox (pss_cons (ps_par (i := 2) (j := 3) (by rfl) sc_sum.nd rfl rfl (by decide) rfl rfl (pa_cons (pe_own O_split (hr.mono (by first | decide | omega)) (pa_cons (pv 0) pa_nil)) (pa_cons (pe_own O_split (hr.mono (by first | decide | omega)) (pa_cons (pv 1) pa_nil)) pa_nil)) (by rfl))
      (pss_one (ps_ret (pe_own O_ratio (hr.mono (by first | decide | omega)) (pa_cons (pe_op op_add (pe_op op_mulX (pe_ix ix_tup (pv 2) pe_int (fun _ _ => rfl)) (pe_ix ix_tup (pv 3) pe_int (fun _ _ => rfl))) (pe_op op_mulX (pe_ix ix_tup (pv 3) pe_int (fun _ _ => rfl)) (pe_ix ix_tup (pv 2) pe_int (fun _ _ => rfl)))) (pa_cons (pe_op op_mulX (pe_ix ix_tup (pv 2) pe_int (fun _ _ => rfl)) (pe_ix ix_tup (pv 3) pe_int (fun _ _ => rfl))) pa_nil)))))), ?_⟩
    refine ⟨x, rfl, x, q, rfl, hx, fun t1 H1 s1 h1 => ⟨y, rfl, y, r, rfl, hy.same s1, fun t2 H2 s2 h2 => ⟨_, _, rfl, ?_⟩⟩⟩
    have h1' := same_t s2 h1
    refine ⟨.ref t1, rfl, t1, _, 0, _, rfl, rfl, h1', rfl, .ref t2, rfl, t2, _, 1, _, rfl, rfl, h2, rfl, _, _, rfl, rfl, cm b1.1 (nd b2) hj, ?_⟩
    refine ⟨.ref t2, rfl, t2, _, 0, _, rfl, rfl, h2, rfl, .ref t1, rfl, t1, _, 1, _, rfl, rfl, h1', rfl, _, _, rfl, rfl, cm b2.1 (nd b1) (by omega), _, _, rfl, rfl, ?_⟩
    refine ⟨.ref t1, rfl, t1, _, 1, _, rfl, rfl, h1', rfl, .ref t2, rfl, t2, _, 1, _, rfl, rfl, h2, rfl, _, _, rfl, rfl, cm (nd b1) (nd b2) hj, ?_⟩
    refine ⟨_, _, rfl, Int.mul_ne_zero (den_ne q) (den_ne r), small_den b1 b2 hj, fun v H' s3 fr => ?_⟩
    rw [l_add] at fr
    exact qq v H' ((s1.trans s2).trans s3) (fr.sooner (s1.trans s2))
theorem ok_product (F : FnP K "_law_product" s_product f fd) (T : Tz mg) (O_split : Own P w K mg base CX0 1 "_law_split" ["_law_ratio_here"] (sp_parts K) fS fdS) (O_ratio : Own P w K mg base CX0 2 "_law_ratio" ["_law_top", "_law_low"] (sp_lowest K) fR fdR) :
    FnOk P w K mg base CX0 3 f fd ["_law_a", "_law_b"] (sp_two K fun q r => q * r) := by
  refine F.ok sc_product (fun vs H Q E h => ?_) (fun cdv A outer s H vs Q E hr h => ?_)
  · obtain ⟨x, y, q, r, j, k, rfl, _⟩ := h
    rfl
  · obtain ⟨x, y, q, r, j, k, rfl, hx, hy, b1, b2, hj, qq⟩ := h
    refine ⟨_, PSs.nox (pss_cons (ps_par (i := 2) (j := 3) (by rfl) sc_product.nd rfl rfl (by decide) rfl rfl (pa_cons (pe_own O_split (hr.mono (by first | decide | omega)) (pa_cons (pv 0) pa_nil)) (pa_cons (pe_own O_split (hr.mono (by first | decide | omega)) (pa_cons (pv 1) pa_nil)) pa_nil)) (by rfl))
      (pss_one (ps_ret (pe_own O_ratio (hr.mono (by first | decide | omega)) (pa_cons (pe_op op_mulX (pe_ix ix_tup (pv 2) pe_int (fun _ _ => rfl)) (pe_ix ix_tup (pv 3) pe_int (fun _ _ => rfl))) (pa_cons (pe_op op_mulX (pe_ix ix_tup (pv 2) pe_int (fun _ _ => rfl)) (pe_ix ix_tup (pv 3) pe_int (fun _ _ => rfl))) pa_nil)))))), ?_⟩
    refine ⟨x, rfl, x, q, rfl, hx, fun t1 H1 s1 h1 => ⟨y, rfl, y, r, rfl, hy.same s1, fun t2 H2 s2 h2 => ⟨_, _, rfl, ?_⟩⟩⟩
    have h1' := same_t s2 h1
    refine ⟨.ref t1, rfl, t1, _, 0, _, rfl, rfl, h1', rfl, .ref t2, rfl, t2, _, 0, _, rfl, rfl, h2, rfl, _, _, rfl, rfl, cm b1.1 b2.1 hj, ?_⟩
    refine ⟨.ref t1, rfl, t1, _, 1, _, rfl, rfl, h1', rfl, .ref t2, rfl, t2, _, 1, _, rfl, rfl, h2, rfl, _, _, rfl, rfl, cm (nd b1) (nd b2) hj, ?_⟩
    refine ⟨_, _, rfl, Int.mul_ne_zero (den_ne q) (den_ne r), small_den b1 b2 hj, fun v H' s3 fr => ?_⟩
    rw [l_mul] at fr
    exact qq v H' ((s1.trans s2).trans s3) (fr.sooner (s1.trans s2))
def sp_quo (K : PySem.W.Frag) : Sp := fun vs H Q _ => ∃ (x y : V) (q r : Rat) (j k : Nat), vs = [x, y] ∧ Dq K H x (ofR q) ∧ Dq K H y (ofR r) ∧ Bq j q ∧ Bq k r ∧ j + k ≤ 998 ∧ r ≠ 0 ∧ ∀ v H', Same H H' → Fresh K H H' v (ofR (q / r)) → Q v H'
theorem ok_quotient (F : FnP K "_law_quotient" s_quotient f fd) (T : Tz mg) (O_split : Own P w K mg base CX0 1 "_law_split" ["_law_ratio_here"] (sp_parts K) fS fdS) (O_ratio : Own P w K mg base CX0 2 "_law_ratio" ["_law_top", "_law_low"] (sp_lowest K) fR fdR) :
    FnOk P w K mg base CX0 3 f fd ["_law_a", "_law_b"] (sp_quo K) := by
  refine F.ok sc_quotient (fun vs H Q E h => ?_) (fun cdv A outer s H vs Q E hr h => ?_)
  · obtain ⟨x, y, q, r, j, k, rfl, _⟩ := h
    rfl
  · obtain ⟨x, y, q, r, j, k, rfl, hx, hy, b1, b2, hj, hz, qq⟩ := h
    refine ⟨_, PSs.nox (pss_cons (ps_par (i := 2) (j := 3) (by rfl) sc_quotient.nd rfl rfl (by decide) rfl rfl (pa_cons (pe_own O_split (hr.mono (by first | decide | omega)) (pa_cons (pv 0) pa_nil)) (pa_cons (pe_own O_split (hr.mono (by first | decide | omega)) (pa_cons (pv 1) pa_nil)) pa_nil)) (by rfl))
      (pss_one (ps_ret (pe_own O_ratio (hr.mono (by first | decide | omega)) (pa_cons (pe_op op_mulX (pe_ix ix_tup (pv 2) pe_int (fun _ _ => rfl)) (pe_ix ix_tup (pv 3) pe_int (fun _ _ => rfl))) (pa_cons (pe_op op_mulX (pe_ix ix_tup (pv 2) pe_int (fun _ _ => rfl)) (pe_ix ix_tup (pv 3) pe_int (fun _ _ => rfl))) pa_nil)))))), ?_⟩
    refine ⟨x, rfl, x, q, rfl, hx, fun t1 H1 s1 h1 => ⟨y, rfl, y, r, rfl, hy.same s1, fun t2 H2 s2 h2 => ⟨_, _, rfl, ?_⟩⟩⟩
    have h1' := same_t s2 h1
    refine ⟨.ref t1, rfl, t1, _, 0, _, rfl, rfl, h1', rfl, .ref t2, rfl, t2, _, 1, _, rfl, rfl, h2, rfl, _, _, rfl, rfl, cm b1.1 (nd b2) hj, ?_⟩
    refine ⟨.ref t1, rfl, t1, _, 1, _, rfl, rfl, h1', rfl, .ref t2, rfl, t2, _, 0, _, rfl, rfl, h2, rfl, _, _, rfl, rfl, cm (nd b1) b2.1 hj, ?_⟩
    have sm : ((q.den : Int) * r.num).natAbs < 2 ^ 1000 := by
      rw [Int.natAbs_mul]
      exact Nat.lt_of_lt_of_le (nat_mul_lt b1.2 b2.1) (Nat.pow_le_pow_right (by decide) (by omega))
    refine ⟨_, _, rfl, Int.mul_ne_zero (den_ne q) (num_ne hz), sm, fun v H' s3 fr => ?_⟩
    rw [l_div q hz] at fr
    exact qq v H' ((s1.trans s2).trans s3) (fr.sooner (s1.trans s2))
end
end K13

set_option Elab.async false
set_option linter.all false
set_option maxRecDepth 100000
set_option maxHeartbeats 4000000
namespace K13
open PySem PySem.Spec PyProof.Rows L2 Lw
section
variable {P : Program} {w : World} {K : PySem.W.Frag} {mg : Str → Option Value} {base : Heap} {f : Addr} {fd : FuncData} {fD fS fR : Addr} {fdD fdS fdR : FuncData}
theorem at_map {qs : List Rat} {i : Nat} {d : PyData} (h : (qs.map ofR)[i]? = some d) : ∃ q, qs[i]? = some q ∧ d = ofR q := by
  rw [List.getElem?_map] at h
  obtain ⟨q, e, rfl⟩ := Option.map_eq_some_iff.mp h
  exact ⟨q, e, rfl⟩
theorem num_get {H : Hp} {xs : List V} {qs : List Rat} {i : Nat} {x : V} (g : DqAll K H xs (qs.map ofR)) (e : xs[i]? = some x) : ∃ q, qs[i]? = some q ∧ Dq K H x (ofR q) := by
  obtain ⟨d, h1, h2⟩ := dq_get g e
  obtain ⟨q, h3, rfl⟩ := at_map h1
  exact ⟨q, h3, h2⟩
theorem num_len {H : Hp} {xs : List V} {qs : List Rat} (g : DqAll K H xs (qs.map ofR)) : xs.length = qs.length := by
  rw [dq_len g, List.length_map]
/-! ### total -/
def sp_total (K : PySem.W.Frag) : Sp := fun vs H Q _ => ∃ (l : Addr) (xs : List V) (qs : List Rat), vs = [.ref l] ∧ SqL K H l xs ∧ DqAll K H xs (qs.map ofR) ∧ (∀ q ∈ qs, Bq 100 q) ∧ qs.length ≤ 8 ∧ ∀ v H', Same H H' → Fresh K H H' v (ofR (rsum qs)) → Q v H'
theorem take_sum {qs : List Rat} {i : Nat} {q : Rat} (h : qs[i]? = some q) : rsum (qs.take (i + 1)) = rsum (qs.take i) + q := by
  rw [List.take_add_one, h]
  exact rsum_snoc
theorem take_prod {qs : List Rat} {i : Nat} {q : Rat} (h : qs[i]? = some q) : rprod (qs.take (i + 1)) = rprod (qs.take i) * q := by
  rw [List.take_add_one, h]
  exact rprod_snoc
theorem fresh0 {H H' : Hp} : Fresh K H H' (.int 0) (ofR 0) := by
  rw [show ofR 0 = .int 0 from ofR_int 0]
  exact .int 0
theorem fresh1 {H H' : Hp} : Fresh K H H' (.int 1) (ofR 1) := by
  rw [show ofR 1 = .int 1 from ofR_int 1]
  exact .int 1
theorem ok_total (F : FnP K "_law_total" s_total f fd) (T : Tz mg) (O_sum : Own P w K mg base CX0 3 "_law_sum" ["_law_a", "_law_b"] (sp_two K fun q r => q + r) fS fdS) :
    FnOk P w K mg base CX0 4 f fd ["_law_ratios"] (sp_total K) := by
  refine F.ok sc_total (fun vs H Q E h => ?_) (fun cdv A outer s H vs Q E hr h => ?_)
  · obtain ⟨l, xs, qs, rfl, _⟩ := h
    rfl
  · obtain ⟨l, xs, qs, rfl, hs, hd, hb, hl, qq⟩ := h
    refine ⟨_, PSs.nox (pss_cons (ps_set (i := 1) sc_total.nd rfl (Or.inl rfl) pe_int)
      (pss_cons (ps_for PassesOwn.never rfl (pi_list (pv 0)) (pg_name (i := 2) sc_total.nd rfl (Or.inl rfl)) (pss_one (ps_set (i := 1) sc_total.nd rfl (Or.inl rfl) (pe_own O_sum (hr.mono (by first | decide | omega)) (pa_cons (pv 1) (pa_cons (pv 2) pa_nil))))))
      (pss_one (ps_ret (pv 1))))), ?_⟩
    refine ⟨.ref l, rfl, l, rfl, ⟨xs, hs⟩, ?_⟩
    refine for_list (K := K) (a := l) (xs := xs) (fun i σ H1 => ∃ v y, σ = [some (.ref l), some v, y] ∧ Same H H1 ∧ Fresh K H H1 v (ofR (rsum (qs.take i)))) ⟨.int 0, none, rfl, Same.refl H, fresh0⟩ (fun i σ H1 _ p => ?_) ?_ ?_
    · obtain ⟨v, y, _, s1, _⟩ := p
      exact s1.seq hs
    · rintro i x σ H1 hx ⟨v, y, rfl, s1, fr⟩
      obtain ⟨q, hq, dx⟩ := num_get hd hx
      have hi := (List.getElem?_eq_some_iff.mp hq).1
      refine ⟨v, rfl, x, rfl, v, x, _, q, 1 + i * (100 + 1), 100, rfl, fr.dq, dx.same s1, bq_rsum i hb, hb q (List.mem_of_getElem? hq), by omega, fun v2 H2 s2 fr2 => ?_⟩
      refine ⟨v2, _, rfl, s1.trans s2, ?_⟩
      rw [take_sum hq]
      exact fr2.sooner s1
    · rintro σ H1 ⟨v, y, rfl, s1, fr⟩
      rw [num_len hd, List.take_length] at fr
      exact ⟨v, rfl, qq v H1 s1 fr⟩
/-! ### worth -/
def sp_worth (K : PySem.W.Frag) : Sp := fun vs H Q _ => ∃ a : Addr, vs = [.ref a] ∧ PotAt H a ∧ ∀ v q H', Bq 97 q → Dq K (off H' a) v (ofR q) → PotAt H' a → Off a H H' → Q v H'
theorem dq_int {H : Hp} {i : Int} : Dq K H (.int i) (ofR (i : Rat)) := by
  rw [ofR_int]
  exact .int i
theorem ok_worth (F : FnP K "_law_worth" s_worth f fd) (T : Tz mg) (O_draw : Own P w K mg base CX0 1 "_law_draw" ["_law_pot_here", "_law_many_here"] sp_draw fD fdD) (O_ratio : Own P w K mg base CX0 2 "_law_ratio" ["_law_top", "_law_low"] (sp_lowest K) fR fdR) :
    FnOk P w K mg base CX0 3 f fd ["_law_pot_here"] (sp_worth K) := by
  refine F.ok sc_worth (fun vs H Q E h => ?_) (fun cdv A outer s H vs Q E hr h => ?_)
  · obtain ⟨a, rfl, _⟩ := h
    rfl
  · obtain ⟨a, rfl, hp, qq⟩ := h
    refine ⟨_, PSs.nox (pss_cons (ps_par (i := 1) (j := 2) (by rfl) sc_worth.nd rfl rfl (by decide) rfl rfl (pa_cons (pe_own O_draw (hr.mono (by first | decide | omega)) (pa_cons (pv 0) (pa_cons pe_int pa_nil))) (pa_cons (pe_op op_sub (pe_own O_draw (hr.mono (by first | decide | omega)) (pa_cons (pv 0) (pa_cons (pe_op op_pow pe_int pe_int) pa_nil))) (pe_op op_mulX pe_int (pe_op op_pow pe_int pe_int))) pa_nil)) (by rfl))
      (pss_cons (ps_if (pt_cmpR op_lt (pv 1) pe_int (nomark _)) (pss_one (ps_ret (pe_ix ix_list (pe_lst (pa_cons pe_int (pa_cons pe_int (pa_cons (pe_un un_neg pe_int) (pa_cons (pe_tup (pa_cons pe_int (pa_cons pe_int pa_nil))) (pa_cons pe_int pa_nil)))))) (pv 1) (fun _ _ => rfl)))) pss_nil)
      (pss_one (ps_ret (pe_own O_ratio (hr.mono (by first | decide | omega)) (pa_cons (pe_ix ix_list (pe_lst (pa_cons (pe_op op_sub (pe_op op_mod (pv 2) pe_int) pe_int) (pa_cons (pv 2) (pa_cons (pe_op op_add (pe_op op_mulX (pv 2) (pe_op op_pow pe_int pe_int)) pe_int) pa_nil)))) (pe_op op_sub (pv 1) pe_int) (fun _ _ => rfl)) (pa_cons (pe_ix ix_list (pe_lst (pa_cons (pe_op op_add pe_int (pe_op op_mod (pv 2) pe_int)) (pa_cons (pe_op op_add pe_int (pe_op op_mod (pv 2) pe_int)) (pa_cons pe_int pa_nil)))) (pe_op op_sub (pv 1) pe_int) (fun _ _ => rfl)) pa_nil))))))), ?_⟩
    refine ⟨.ref a, rfl, a, 8, rfl, hp, by decide, by decide, fun wy H1 w0 w1 p1 o1 => ?_⟩
    refine ⟨.ref a, rfl, 10, 12, rfl, rfl, ⟨by decide, by decide, by decide⟩, a, 10 ^ 12, rfl, p1, by decide, by decide, fun tp H2 t0 t1 p2 o2 => ?_⟩
    have t2 : (tp - 5 * 10 ^ 11).natAbs < 2 ^ 40 := by
      have e1 : tp < 1000000000000 := t1
      omega
    refine ⟨_, _, rfl, rfl, ⟨by decide, by decide, by decide⟩, _, _, rfl, rfl, mulx_ok (a := 3) (b := 40) (by decide) (by decide +kernel) (by decide), _, _, rfl, rfl, _, _, rfl, ?_⟩
    have o12 := o1.trans o2
    change tSeq _ _ _ [some (.ref a), some (.int wy), some (.int (tp - 5 * 10 ^ 11))] H2
    generalize tp - 5 * 10 ^ 11 = top at t2 ⊢
    refine ⟨.int wy, rfl, _, _, rfl, rfl, _, rfl, ite2 (fun e => ?_) (fun e => ?_)⟩
    · have wl : wy < 5 := of_decide_eq_true e
      refine ⟨_, rfl, by show 2 ≤ sizeLine; decide, fun t nt => ⟨by show 5 ≤ sizeLine; decide, fun l nl => ?_⟩⟩
      have p3 := p2.new (o := .tup [.int 1, .int 2]) nt
      have p4 := p3.new (o := .lst [.int 0, .int 1, .int (-2), .ref t, .int 10]) nl
      obtain ⟨v, hv, _, ev⟩ := at_in (xs := ([.int 0, .int 1, .int (-2), .ref t, .int 10] : List V)) w0 wl
      refine ⟨.int wy, rfl, l, _, wy, v, rfl, rfl, .inl (.inl upd_same), ev, ?_⟩
      have oo := (o12.trans (Off.new (o := .tup [.int 1, .int 2]) nt)).trans (Off.new (o := .lst [.int 0, .int 1, .int (-2), .ref t, .int 10]) nl)
      have ta : t ≠ a := p2.ne nt
      have tl : t ≠ l := fun z => by
        rw [← z, upd_same] at nl
        cases nl
      simp only [List.mem_cons, List.not_mem_nil, or_false] at hv
      rcases hv with rfl | rfl | rfl | rfl | rfl
      · exact qq _ ((0 : Int) : Rat) _ (bq_int (by decide) (by decide)) dq_int p4 oo
      · exact qq _ ((1 : Int) : Rat) _ (bq_int (by decide +kernel) (by decide)) dq_int p4 oo
      · exact qq _ ((-2 : Int) : Rat) _ (bq_int (by decide +kernel) (by decide)) dq_int p4 oo
      · refine qq _ (((1 : Int) : Rat) / ((2 : Int) : Rat)) _ (bq_low (by decide) (by decide +kernel) (by decide +kernel)) ?_ p4 oo
        rw [ofR_div (by decide) (by decide), if_neg (by decide)]
        refine .tup (.inl (.inl ?_)) (.cons (.int 1) (.cons (.int 2) .nil))
        rw [off_ne ta, upd_ne tl, upd_same]
      · exact qq _ ((10 : Int) : Rat) _ (bq_int (by decide +kernel) (by decide)) dq_int p4 oo
    · have wl : ¬ wy < 5 := fun z => e (decide_eq_true z)
      refine ⟨.int top, rfl, _, _, rfl, rfl, pos_c (by decide), _, _, rfl, rfl, .int top, rfl, .int top, rfl, _, _, rfl, rfl, ⟨by decide, by decide, by decide⟩, _, _, rfl, rfl, mulx_ok (a := 40) (b := 57) t2 (by decide +kernel) (by decide), _, _, rfl, rfl, by show 3 ≤ sizeLine; decide, fun l1 n1 => ?_⟩
      obtain ⟨vn, hn, _, en⟩ := at_in (xs := ([.int (top % 41 - 20), .int top, .int (top * 10 ^ 17 + 1)] : List V)) (i := wy - 5) (by omega) (show wy - 5 < 3 by omega)
      obtain ⟨vd, hd, _, ed⟩ := at_in (xs := ([.int (1 + top % 7), .int (1 + top % 999983), .int 1] : List V)) (i := wy - 5) (by omega) (show wy - 5 < 3 by omega)
      refine ⟨.int wy, rfl, _, _, rfl, rfl, l1, _, wy - 5, vn, rfl, rfl, .inl (.inl upd_same), en, ?_⟩
      refine ⟨.int top, rfl, _, _, rfl, rfl, pos_c (by decide), _, _, rfl, rfl, .int top, rfl, _, _, rfl, rfl, pos_c (by decide), _, _, rfl, rfl, by show 3 ≤ sizeLine; decide, fun l2 n2 => ?_⟩
      refine ⟨.int wy, rfl, _, _, rfl, rfl, l2, _, wy - 5, vd, rfl, rfl, .inl (.inl upd_same), ed, ?_⟩
      have oo := (o12.trans (Off.new (o := .lst [.int (top % 41 - 20), .int top, .int (top * 10 ^ 17 + 1)]) n1)).trans (Off.new (o := .lst [.int (1 + top % 7), .int (1 + top % 999983), .int 1]) n2)
      have p3 := (p2.new (o := .lst [.int (top % 41 - 20), .int top, .int (top * 10 ^ 17 + 1)]) n1).new (o := .lst [.int (1 + top % 7), .int (1 + top % 999983), .int 1]) n2
      have hN : ∃ n : Int, vn = .int n ∧ n.natAbs < 2 ^ 97 := by
        simp only [List.mem_cons, List.not_mem_nil, or_false] at hn
        rcases hn with rfl | rfl | rfl
        · exact ⟨_, rfl, by omega⟩
        · exact ⟨_, rfl, by omega⟩
        · exact ⟨_, rfl, by omega⟩
      have hD : ∃ n : Int, vd = .int n ∧ 0 < n ∧ n.natAbs < 2 ^ 97 := by
        simp only [List.mem_cons, List.not_mem_nil, or_false] at hd
        rcases hd with rfl | rfl | rfl
        · exact ⟨_, rfl, by omega, by omega⟩
        · exact ⟨_, rfl, by omega, by omega⟩
        · exact ⟨_, rfl, by omega, by decide⟩
      obtain ⟨n, rfl, hn2⟩ := hN
      obtain ⟨d, rfl, hd0, hd2⟩ := hD
      refine ⟨n, d, rfl, by omega, Nat.lt_of_lt_of_le hd2 (by decide +kernel), fun v H' s' fr => ?_⟩
      rw [low_ofR (by omega)] at fr
      exact qq v _ H' (bq_low (by omega) hn2 hd2) (fr.away (pot_some p3)) (p3.same s') (oo.trans (Off.same s'))
end
end K13

set_option Elab.async false
set_option linter.all false
set_option maxRecDepth 100000
set_option maxHeartbeats 4000000
namespace K13
open PySem PySem.Spec PyProof.Rows L2 Lw
section
variable {P : Program} {w : World} {K : PySem.W.Frag} {mg : Str → Option Value} {base : Heap} {f : Addr} {fd : FuncData} {fN fI fS fR fL fC : Addr} {fdN fdI fdS fdR fdL : FuncData} {C : Addr}
theorem Out.later {H H1 : Hp} {d : PyData} {E : XK} (o : Out K C H d E) (s : Same H H1) : Out K C H1 d E := fun v' dx H' s' nd hd fr => o v' dx H' (s.trans s') (s.free nd) hd (fr.sooner s)
/-- the first that is no number -/
def badD (ds : List PyData) : Option PyData := ds.find? fun d => !numD d
/-- data that may be handed to the package -/
structure Hd (d : PyData) : Prop where
  dp : d.depth ≤ 5
  sl : slim d = true
theorem lean_slim {d : PyData} (h : slim d = true) : Lean_ d := by
  rintro ds rfl
  have h' : (decide (ds.length ≤ 900) && slimAll ds) = true := by simpa only [slim] using h
  rw [Bool.and_eq_true] at h'
  exact of_decide_eq_true h'.1
def sp_check (K : PySem.W.Frag) (C : Addr) : Sp := fun vs H Q E => ∃ (t : Addr) (xs : List V) (ds : List PyData), vs = [.ref t] ∧ SqT K H t xs ∧ DqAll K H xs ds ∧ (∀ d ∈ ds, Hd d) ∧
  (∀ d, badD ds = some d → Out K C H d E) ∧ (badD ds = none → ∀ H', Same H H' → Q .non H')
theorem bad_at {ds : List PyData} {i : Nat} {d : PyData} (h0 : ∀ x ∈ ds.take i, numD x = true) (h : ds[i]? = some d) (hn : numD d = false) : badD ds = some d := by
  induction ds generalizing i with
  | nil => cases h
  | cons a r ih =>
    cases i with
    | zero =>
      cases h
      unfold badD
      rw [List.find?_cons, hn]
      rfl
    | succ i =>
      have ha : numD a = true := h0 a (by simp)
      unfold badD
      rw [List.find?_cons, ha]
      exact ih (i := i) (fun x hx => h0 x (by rw [List.take_succ_cons]; exact List.mem_cons_of_mem _ hx)) (by simpa using h)
theorem bad_none {ds : List PyData} (h : ∀ x ∈ ds, numD x = true) : badD ds = none := by
  unfold badD
  rw [List.find?_eq_none]
  intro x hx
  rw [h x hx]
  decide
theorem ok_check_numbers (F : FnP K "check_numbers" s_check_numbers f fd) (T : Tz mg) (E_InvalidNumber : OwnE P w K mg base 8 "InvalidNumber" ["self", "value"] (sp_ini K C 5) C fI fdI (tlOf "ValueError") "ValueError.__new__")
    (O_is_number : Own P w K mg base CX0 2 "is_number" ["value"] (sp_num K) fN fdN) : FnOk P w K mg base (L2.CX P w) 10 f fd ["values"] (sp_check K C) := by
  refine F.ok sc_check_numbers (fun vs H Q E h => ?_) (fun cdv A outer s H vs Q E hr h => ?_)
  · obtain ⟨t, xs, ds, rfl, _⟩ := h
    rfl
  · obtain ⟨t, xs, ds, rfl, hs, hd, hh, hbad, qq⟩ := h
    refine ⟨_, (pss_one (ps_for (passes_of rfl) rfl (pi_tup (pv 0)) (pg_name (i := 1) sc_check_numbers.nd rfl (Or.inl rfl)) (pss_one (ps_if (pt_not (pt_val (pe_own O_is_number (hr.mono (by first | decide | omega)) (pa_cons (pv 1) pa_nil)))) (pss_one (ps_raise rfl (takes_of rfl rfl rfl rfl) (pmk_e exb_V E_InvalidNumber (hr.mono (by first | decide | omega)) (pa_cons (pv 1) pa_nil)))) pss_nil)))), ?_⟩
    refine ⟨.ref t, rfl, t, rfl, ⟨xs, hs⟩, ?_⟩
    refine for_tup (K := K) (a := t) (xs := xs) (fun i σ H1 => ∃ y, σ = [some (.ref t), y] ∧ Same H H1 ∧ ∀ x ∈ ds.take i, numD x = true) ⟨none, rfl, Same.refl H, fun x hx => by simp at hx⟩ (fun i σ H1 _ p => ?_) ?_ ?_
    · obtain ⟨y, _, s1, _⟩ := p
      exact same_t s1 hs
    · rintro i x σ H1 hx ⟨y, rfl, s1, h0⟩
      obtain ⟨d, hi, dx⟩ := dq_get hd hx
      have hdd := hh d (List.mem_of_getElem? hi)
      refine ⟨x, rfl, x, d, rfl, dx.same s1, lean_slim hdd.sl, fun H2 s2 => ⟨_, rfl, ?_⟩⟩
      by_cases hn : numD d = true
      · rw [hn]
        refine iteF ⟨_, rfl, s1.trans s2, fun z hz => ?_⟩
        rw [List.take_add_one, hi] at hz
        rcases List.mem_append.mp hz with hz | hz
        · exact h0 z hz
        · cases List.mem_singleton.mp (show z ∈ [d] from hz)
          exact hn
      · have hn0 := Bool.eq_false_iff.mpr hn
        rw [hn0]
        exact iteT ⟨x, rfl, raise_it ((dx.same s1).same s2) hdd.dp hdd.sl (Out.later (hbad d (bad_at h0 hi hn0)) (s1.trans s2))⟩
    · rintro σ H1 ⟨y, rfl, s1, h0⟩
      rw [dq_len hd, List.take_length] at h0
      exact qq (bad_none h0) H1 s1
end
end K13

set_option Elab.async false
set_option linter.all false
set_option maxRecDepth 100000
set_option maxHeartbeats 4000000
namespace K13
open PySem PySem.Spec PyProof.Rows L2 Lw
section
variable {P : Program} {w : World} {K : PySem.W.Frag} {mg : Str → Option Value} {base : Heap} {f : Addr} {fd : FuncData} {fN fI fS fR fL fC fP fT : Addr} {fdN fdI fdS fdR fdL : FuncData} {C : Addr}
/-! ### plus, times -/
def sp_many (K : PySem.W.Frag) (C : Addr) (g : List Rat → Rat) : Sp := fun vs H Q E => ∃ ds : List PyData, DqAll K H vs ds ∧ ds.length ≤ 9 ∧ (∀ d ∈ ds, Hd d) ∧ (∀ d, badD ds = some d → Out K C H d E) ∧
  (badD ds = none → ∃ (qs : List Rat) (k : Nat), ds = qs.map ofR ∧ (∀ q ∈ qs, Bq k q) ∧ 1 + qs.length * (k + 1) + k ≤ 998 ∧ ∀ v H', Same H H' → Fresh K H H' v (ofR (g qs)) → Q v H')
theorem bnd_le {i n k : Nat} (h : i < n) (hb : 1 + n * (k + 1) + k ≤ 998) : 1 + i * (k + 1) + k ≤ 998 := by
  have : i * (k + 1) ≤ n * (k + 1) := Nat.mul_le_mul_right _ (by omega)
  omega
def sp_plus1 (K : PySem.W.Frag) (C : Addr) (g : List Rat → Rat) : Sp := fun vs H Q E => ∃ (t : Addr) (xs : List V) (ds : List PyData), vs = [.ref t] ∧ SqT K H t xs ∧ DqAll K H xs ds ∧ (∀ d ∈ ds, Hd d) ∧ (∀ d, badD ds = some d → Out K C H d E) ∧
  (badD ds = none → ∃ (qs : List Rat) (k : Nat), ds = qs.map ofR ∧ (∀ q ∈ qs, Bq k q) ∧ 1 + qs.length * (k + 1) + k ≤ 998 ∧ ∀ v H', Same H H' → Fresh K H H' v (ofR (g qs)) → Q v H')
theorem many_of {g : List Rat → Rat} {vs : List V} {H : Hp} {Q : VK} {E : XK} (h : sp_many K C g vs H Q E) : ∃ ws rest : List V, vs = ws ++ rest ∧ ws.length = ([] : List Str).length ∧ rest.length ≤ sizeLine ∧ ∀ p, H p = none → sp_plus1 K C g (ws ++ [V.ref p]) (upd H p (.tup rest)) Q E := by
  obtain ⟨ds, hd, hl, hh, hb, qq⟩ := h
  refine ⟨[], vs, rfl, rfl, by rw [dq_len hd]; exact Nat.le_trans hl (by decide), fun p np => ⟨p, vs, ds, rfl, .inl (.inl upd_same), DqAll.same (same_upd np) hd, hh, fun d e => (hb d e).later (same_upd np), fun e => ?_⟩⟩
  obtain ⟨qs, k, e1, e2, e3, e4⟩ := qq e
  exact ⟨qs, k, e1, e2, e3, fun v H' s' fr => e4 v H' ((same_upd np).trans s') (fr.sooner (same_upd np))⟩
theorem ok_plus (F : FnP K "plus" s_plus f fd) (T : Tz mg) (O_check_numbers : OwnR P w K mg base 10 "check_numbers" (sp_check K C) fC) (O_parts_of : Own P w K mg base CX0 1 "parts_of" ["value"] (sp_parts K) fS fdS) (O_lowest : Own P w K mg base CX0 2 "lowest" ["numerator", "denominator"] (sp_lowest K) fL fdL) :
    FnR P w K mg base (L2.CX P w) 11 f (sp_many K C rsum) := by
  obtain ⟨oc, od, dV, kV, doc, pm, an, cdv, ct, osl, rfl, lk, hcd, hD, _⟩ := F.ex
  obtain rfl : dV = .none := by
    rcases hD with ⟨_, h⟩ | ⟨h, _⟩
    · exact h
    · exact absurd rfl h
  refine FnR.imp (StX.fn_star (ps := []) (pv := "numbers") (sp := sp_plus1 K C rsum) lk hcd sc_plus StX.cxUp (fun us rest hl => ?_) (fun A outer s H vs Q E hr h => ?_)) fun vs H Q E h => many_of h
  · match us, hl with
    | [], _ => cases rest <;> rfl
  · obtain ⟨t, xs, ds, rfl, hs, hd, hh, hb, qq⟩ := h
    refine ⟨_, (pss_cons (ps_expr (pe_ownR O_check_numbers (takes_of rfl rfl rfl rfl) (hr.mono (by first | decide | omega)) (pa_cons (pv 0) pa_nil)))
      (pss_cons (ps_set (i := 1) sc_plus.nd rfl (Or.inl rfl) pe_int)
      (pss_cons (ps_for (passes_of rfl) rfl (pi_tup (pv 0)) (pg_name (i := 2) sc_plus.nd rfl (Or.inl rfl)) (pss_cons (ps_asg (pe_own O_parts_of (hr.mono (by first | decide | omega)) (pa_cons (pv 1) pa_nil)) (pg_tup rfl (pgs_cons (pg_name (i := 3) sc_plus.nd rfl (Or.inl rfl)) (pgs_cons (pg_name (i := 4) sc_plus.nd rfl (Or.inl rfl)) pgs_nil))))
      (pss_cons (ps_asg (pe_own O_parts_of (hr.mono (by first | decide | omega)) (pa_cons (pv 2) pa_nil)) (pg_tup rfl (pgs_cons (pg_name (i := 5) sc_plus.nd rfl (Or.inl rfl)) (pgs_cons (pg_name (i := 6) sc_plus.nd rfl (Or.inl rfl)) pgs_nil))))
      (pss_one (ps_set (i := 1) sc_plus.nd rfl (Or.inl rfl) (pe_own O_lowest (hr.mono (by first | decide | omega)) (pa_cons (pe_op op_add (pe_op op_mulX (pv 3) (pv 6)) (pe_op op_mulX (pv 5) (pv 4))) (pa_cons (pe_op op_mulX (pv 4) (pv 6)) pa_nil))))))))
      (pss_one (ps_ret (pv 1)))))), ?_⟩
    refine ⟨.ref t, rfl, t, xs, ds, rfl, hs, hd, hh, hb, fun e H1 s1 => ?_⟩
    obtain ⟨qs, k, rfl, e2, e3, q4⟩ := qq e
    refine ⟨.ref t, rfl, t, rfl, ⟨xs, same_t s1 hs⟩, ?_⟩
    refine for_tup (K := K) (a := t) (xs := xs) (fun i σ H2 => ∃ v y1 y2 y3 y4 y5, σ = [some (.ref t), some v, y1, y2, y3, y4, y5] ∧ Same H H2 ∧ Fresh K H H2 v (ofR (rsum (qs.take i)))) ⟨.int 0, _, _, _, _, _, rfl, s1, fresh0⟩ (fun i σ H2 _ p => ?_) ?_ ?_
    · obtain ⟨v, y1, y2, y3, y4, y5, _, s2, _⟩ := p
      exact same_t s2 hs
    · rintro i x σ H2 hx ⟨v, y1, y2, y3, y4, y5, rfl, s2, fr⟩
      obtain ⟨q, hq, dx⟩ := num_get hd hx
      have hi := (List.getElem?_eq_some_iff.mp hq).1
      have hsz := bnd_le hi e3
      have b1 := bq_rsum i e2
      have b2 := e2 q (List.mem_of_getElem? hq)
      refine ⟨v, rfl, v, _, rfl, fr.dq, fun t1 H3 s3 h1 => ?_⟩
      refine ⟨t1, _, rfl, h1, rfl, _, _, rfl, _, _, rfl, rfl, ?_⟩
      refine ⟨x, rfl, x, q, rfl, dx.same (s2.trans s3), fun t2 H4 s4 h2 => ⟨t2, _, rfl, h2, rfl, _, _, rfl, _, _, rfl, rfl, ?_⟩⟩
      refine ⟨_, rfl, _, rfl, _, _, rfl, rfl, cm b1.1 (nd b2) hsz, _, rfl, _, rfl, _, _, rfl, rfl, cm b2.1 (nd b1) (by omega), _, _, rfl, rfl, _, rfl, _, rfl, _, _, rfl, rfl, cm (nd b1) (nd b2) hsz, ?_⟩
      refine ⟨_, _, rfl, Int.mul_ne_zero (den_ne _) (den_ne q), small_den b1 b2 hsz, fun v2 H5 s5 fr2 => ?_⟩
      refine ⟨v2, _, _, _, _, _, rfl, ((s2.trans s3).trans s4).trans s5, ?_⟩
      rw [l_add, ← take_sum hq] at fr2
      exact fr2.sooner ((s2.trans s3).trans s4)
    · rintro σ H2 ⟨v, y1, y2, y3, y4, y5, rfl, s2, fr⟩
      rw [num_len hd, List.take_length] at fr
      exact ⟨v, rfl, q4 v H2 s2 fr⟩
theorem ok_times (F : FnP K "times" s_times f fd) (T : Tz mg) (O_check_numbers : OwnR P w K mg base 10 "check_numbers" (sp_check K C) fC) (O_parts_of : Own P w K mg base CX0 1 "parts_of" ["value"] (sp_parts K) fS fdS) (O_lowest : Own P w K mg base CX0 2 "lowest" ["numerator", "denominator"] (sp_lowest K) fL fdL) :
    FnR P w K mg base (L2.CX P w) 11 f (sp_many K C rprod) := by
  obtain ⟨oc, od, dV, kV, doc, pm, an, cdv, ct, osl, rfl, lk, hcd, hD, _⟩ := F.ex
  obtain rfl : dV = .none := by
    rcases hD with ⟨_, h⟩ | ⟨h, _⟩
    · exact h
    · exact absurd rfl h
  refine FnR.imp (StX.fn_star (ps := []) (pv := "numbers") (sp := sp_plus1 K C rprod) lk hcd sc_times StX.cxUp (fun us rest hl => ?_) (fun A outer s H vs Q E hr h => ?_)) fun vs H Q E h => many_of h
  · match us, hl with
    | [], _ => cases rest <;> rfl
  · obtain ⟨t, xs, ds, rfl, hs, hd, hh, hb, qq⟩ := h
    refine ⟨_, (pss_cons (ps_expr (pe_ownR O_check_numbers (takes_of rfl rfl rfl rfl) (hr.mono (by first | decide | omega)) (pa_cons (pv 0) pa_nil)))
      (pss_cons (ps_set (i := 1) sc_times.nd rfl (Or.inl rfl) pe_int)
      (pss_cons (ps_for (passes_of rfl) rfl (pi_tup (pv 0)) (pg_name (i := 2) sc_times.nd rfl (Or.inl rfl)) (pss_cons (ps_asg (pe_own O_parts_of (hr.mono (by first | decide | omega)) (pa_cons (pv 1) pa_nil)) (pg_tup rfl (pgs_cons (pg_name (i := 3) sc_times.nd rfl (Or.inl rfl)) (pgs_cons (pg_name (i := 4) sc_times.nd rfl (Or.inl rfl)) pgs_nil))))
      (pss_cons (ps_asg (pe_own O_parts_of (hr.mono (by first | decide | omega)) (pa_cons (pv 2) pa_nil)) (pg_tup rfl (pgs_cons (pg_name (i := 5) sc_times.nd rfl (Or.inl rfl)) (pgs_cons (pg_name (i := 6) sc_times.nd rfl (Or.inl rfl)) pgs_nil))))
      (pss_one (ps_set (i := 1) sc_times.nd rfl (Or.inl rfl) (pe_own O_lowest (hr.mono (by first | decide | omega)) (pa_cons (pe_op op_mulX (pv 3) (pv 5)) (pa_cons (pe_op op_mulX (pv 4) (pv 6)) pa_nil))))))))
      (pss_one (ps_ret (pv 1)))))), ?_⟩
    refine ⟨.ref t, rfl, t, xs, ds, rfl, hs, hd, hh, hb, fun e H1 s1 => ?_⟩
    obtain ⟨qs, k, rfl, e2, e3, q4⟩ := qq e
    refine ⟨.ref t, rfl, t, rfl, ⟨xs, same_t s1 hs⟩, ?_⟩
    refine for_tup (K := K) (a := t) (xs := xs) (fun i σ H2 => ∃ v y1 y2 y3 y4 y5, σ = [some (.ref t), some v, y1, y2, y3, y4, y5] ∧ Same H H2 ∧ Fresh K H H2 v (ofR (rprod (qs.take i)))) ⟨.int 1, _, _, _, _, _, rfl, s1, fresh1⟩ (fun i σ H2 _ p => ?_) ?_ ?_
    · obtain ⟨v, y1, y2, y3, y4, y5, _, s2, _⟩ := p
      exact same_t s2 hs
    · rintro i x σ H2 hx ⟨v, y1, y2, y3, y4, y5, rfl, s2, fr⟩
      obtain ⟨q, hq, dx⟩ := num_get hd hx
      have hi := (List.getElem?_eq_some_iff.mp hq).1
      have hsz := bnd_le hi e3
      have b1 := bq_rprod i e2
      have b2 := e2 q (List.mem_of_getElem? hq)
      refine ⟨v, rfl, v, _, rfl, fr.dq, fun t1 H3 s3 h1 => ?_⟩
      refine ⟨t1, _, rfl, h1, rfl, _, _, rfl, _, _, rfl, rfl, ?_⟩
      refine ⟨x, rfl, x, q, rfl, dx.same (s2.trans s3), fun t2 H4 s4 h2 => ⟨t2, _, rfl, h2, rfl, _, _, rfl, _, _, rfl, rfl, ?_⟩⟩
      refine ⟨_, rfl, _, rfl, _, _, rfl, rfl, cm b1.1 b2.1 hsz, _, rfl, _, rfl, _, _, rfl, rfl, cm (nd b1) (nd b2) hsz, ?_⟩
      refine ⟨_, _, rfl, Int.mul_ne_zero (den_ne _) (den_ne q), small_den b1 b2 hsz, fun v2 H5 s5 fr2 => ?_⟩
      refine ⟨v2, _, _, _, _, _, rfl, ((s2.trans s3).trans s4).trans s5, ?_⟩
      rw [l_mul, ← take_prod hq] at fr2
      exact fr2.sooner ((s2.trans s3).trans s4)
    · rintro σ H2 ⟨v, y1, y2, y3, y4, y5, rfl, s2, fr⟩
      rw [num_len hd, List.take_length] at fr
      exact ⟨v, rfl, q4 v H2 s2 fr⟩
end
end K13

set_option Elab.async false
set_option linter.all false
set_option maxRecDepth 100000
set_option maxHeartbeats 4000000
namespace K13
open PySem PySem.Spec PyProof.Rows L2 Lw
abbrev s_iniQ : Stmt := inClass (topS 8) 0
abbrev W_iniQ : IniW := ⟨"__init__", "NoQuotient.__init__", defArgs s_iniQ, defBody s_iniQ, defScope s_iniQ⟩
theorem sc_iniQ : NdefX.NScope N_ini ["self", "value"] ["__class__"] (defScope s_iniQ) := NdefX.nscope_by (by decide +kernel)
section
variable {P : Program} {w : World} {K : PySem.W.Frag} {mg : Str → Option Value} {base : Heap} {f : Addr} {fd : FuncData} {fN fI fS fR fL fC fP fT fK : Addr} {fdN fdI fdS fdR fdL fdK : FuncData} {C C2 cc cda : Addr}
theorem ok_iniQ {n : Nat} (T : ExcK K C (tlOf "ArithmeticError") "ArithmeticError.__new__") (S : IniK P K mg W_iniQ f cc cda C "ArithmeticError" "ArithmeticError.__init__") (hno : PySem.W.findIn K (.ref C) "value" = some none)
    (hfd : ∃ (oc : Value) (od : Option Addr) (osl : Array (Option Value)), K.lookup f = some ⟨oc, od, .func fd, osl⟩) (O_kept : Own P w K mg base CX0 (n + 2) "kept" ["value"] (sp_kept K (n + 1)) fK fdK) :
    FnOk P w K mg base CX0 (n + 3) f fd ["self", "value"] (sp_ini K C n) := by
  refine ini_ok (N := N_ini) exb_A T S rfl sc_iniQ rfl (fun vs H Q E h => ?_) (fun vs H Q E h => ?_) (fun L => ⟨_, rfl⟩) (fun A outer s H vs Q E hr h => ?_) hfd
  · obtain ⟨a, v, d, rfl, _⟩ := h
    rfl
  · obtain ⟨a, v, d, rfl, ha, _⟩ := h
    exact ⟨a, rfl, ha⟩
  · obtain ⟨a, v, d, rfl, ha, hd, hdp, hsl, q⟩ := h
    refine ⟨_, pss_one (ps_ostB exb_A (pv 0) (pe_own O_kept hr (pa_cons (pv 1) pa_nil))), ?_⟩
    refine ⟨v, rfl, v, d, rfl, hd, hdp, hsl, fun v' H' s' fr => ?_⟩
    exact ⟨.ref a, rfl, a, C, rfl, T, hno, s' _ _ ha, fun dx nd ne => q v' H' dx s' fr nd ne⟩
/-! ### minus -/
def sp_minus (K : PySem.W.Frag) (C : Addr) : Sp := fun vs H Q E => ∃ (x y : V) (dx dy : PyData), vs = [x, y] ∧ Dq K H x dx ∧ Dq K H y dy ∧ Hd dx ∧ Hd dy ∧ (∀ d, badD [dx, dy] = some d → Out K C H d E) ∧
  (badD [dx, dy] = none → ∃ (q r : Rat) (k : Nat), dx = ofR q ∧ dy = ofR r ∧ Bq k q ∧ Bq k r ∧ 0 < k ∧ k ≤ 300 ∧ ∀ v H', Same H H' → Fresh K H H' v (ofR (q - r)) → Q v H')
theorem hd_num (q : Rat) : Hd (ofR q) := by
  unfold ofR
  split
  · exact ⟨by simp [PyData.depth], rfl⟩
  · exact ⟨by simp [PyData.depth, PyData.depthAll], rfl⟩
theorem bad2 (q r : Rat) : badD [ofR q, ofR r] = none := bad_none fun x hx => by
  simp only [List.mem_cons, List.not_mem_nil, or_false] at hx
  rcases hx with rfl | rfl <;> exact ofR_num _
theorem hd2 (q r : Rat) : ∀ d ∈ [ofR q, ofR r], Hd d := fun x hx => by
  simp only [List.mem_cons, List.not_mem_nil, or_false] at hx
  rcases hx with rfl | rfl <;> exact hd_num _
theorem prod_neg (r : Rat) : rprod [((-1 : Int) : Rat), r] = -r := by
  show (1 * ((-1 : Int) : Rat)) * r = -r
  have : ((-1 : Int) : Rat) = -1 := rfl
  rw [this]
  grind
theorem sum_neg (q r : Rat) : rsum [q, -r] = q - r := by
  show (0 + q) + -r = q - r
  grind
theorem prod_two (q r : Rat) : rprod [q, r] = q * r := by
  show (1 * q) * r = q * r
  grind
/-- a call with two numbers that are right -/
theorem two_ok {g : List Rat → Rat} {x y : V} {q r : Rat} {k : Nat} {H : Hp} {Q : VK} {E : XK} (hx : Dq K H x (ofR q)) (hy : Dq K H y (ofR r)) (b1 : Bq k q) (b2 : Bq k r) (hk : k ≤ 300) (h : ∀ v H', Same H H' → Fresh K H H' v (ofR (g [q, r])) → Q v H') : sp_many K C g [x, y] H Q E := by
  refine ⟨[ofR q, ofR r], .cons hx (.cons hy .nil), by show 2 ≤ 9; decide, hd2 q r, fun d e => ?_, fun _ => ⟨[q, r], k, rfl, fun z hz => ?_, by show 1 + 2 * (k + 1) + k ≤ 998; omega, h⟩⟩
  · rw [bad2] at e
    cases e
  · simp only [List.mem_cons, List.not_mem_nil, or_false] at hz
    rcases hz with rfl | rfl
    · exact b1
    · exact b2
theorem ok_minus (F : FnP K "minus" s_minus f fd) (T : Tz mg) (O_check_numbers : OwnR P w K mg base 10 "check_numbers" (sp_check K C) fC) (O_plus : OwnR P w K mg base 11 "plus" (sp_many K C rsum) fP) (O_times : OwnR P w K mg base 11 "times" (sp_many K C rprod) fT) :
    FnOk P w K mg base (L2.CX P w) 12 f fd ["first", "second"] (sp_minus K C) := by
  refine F.ok sc_minus (fun vs H Q E h => ?_) (fun cdv A outer s H vs Q E hr h => ?_)
  · obtain ⟨x, y, dx, dy, rfl, _⟩ := h
    rfl
  · obtain ⟨x, y, dx, dy, rfl, hx, hy, hdx, hdy, hbad, qq⟩ := h
    refine ⟨_, (pss_cons (ps_expr (pe_ownR O_check_numbers (takes_of rfl rfl rfl rfl) (hr.mono (by first | decide | omega)) (pa_cons (pe_tup (pa_cons (pv 0) (pa_cons (pv 1) pa_nil))) pa_nil)))
      (pss_one (ps_ret (pe_ownR O_plus (takes_of rfl rfl rfl rfl) (hr.mono (by first | decide | omega)) (pa_cons (pv 0) (pa_cons (pe_ownR O_times (takes_of rfl rfl rfl rfl) (hr.mono (by first | decide | omega)) (pa_cons (pe_un un_neg pe_int) (pa_cons (pv 1) pa_nil))) pa_nil)))))), ?_⟩
    refine ⟨x, rfl, y, rfl, by show 2 ≤ sizeLine; decide, fun t nt => ⟨t, [x, y], [dx, dy], rfl, .inl (.inl upd_same), .cons (hx.same (same_upd nt)) (.cons (hy.same (same_upd nt)) .nil), fun d hd => ?_, fun d e => (hbad d e).later (same_upd nt), fun e H1 s1 => ?_⟩⟩
    · simp only [List.mem_cons, List.not_mem_nil, or_false] at hd
      rcases hd with rfl | rfl
      · exact hdx
      · exact hdy
    · obtain ⟨q, r, k, rfl, rfl, b1, b2, k0, hk, q4⟩ := qq e
      have s2 := (same_upd (o := .tup [x, y]) nt).trans s1
      refine ⟨x, rfl, 1, rfl, y, rfl, ?_⟩
      refine two_ok (q := ((-1 : Int) : Rat)) (k := k) dq_int (hy.same s2) (bq_int (by show 1 < 2 ^ k; exact Nat.one_lt_two_pow (by omega)) k0) b2 hk fun v1 H2 s3 fr => ?_
      rw [prod_neg] at fr
      refine two_ok (k := k) (hx.same (s2.trans s3)) fr.dq b1 (bq_neg b2) hk fun v2 H3 s4 fr2 => ?_
      rw [sum_neg] at fr2
      exact q4 v2 H3 ((s2.trans s3).trans s4) (fr2.sooner (s2.trans s3))
end
end K13

set_option Elab.async false
set_option linter.all false
set_option maxRecDepth 100000
set_option maxHeartbeats 4000000
namespace K13
open PySem PySem.Spec PyProof.Rows L2 Lw
section
variable {P : Program} {w : World} {K : PySem.W.Frag} {mg : Str → Option Value} {base : Heap} {f : Addr} {fd : FuncData} {fN fI fS fR fL fC fP fT fK : Addr} {fdN fdI fdS fdR fdL fdK : FuncData} {C C2 cc cda : Addr}
/-! ### numbers compared -/
theorem dp_num {H : Hp} {v : V} {q : Rat} (h : Dq K H v (ofR q)) : Dp K H v (ofR q) := by
  rcases ofR_cases h with ⟨rfl, _, e⟩ | ⟨t, rfl, hs, e, _⟩
  · rw [e]
    exact .int _
  · rw [e]
    exact .tup hs (.cons (.int _) (.cons (.int _) .nil))
theorem shaped_num (q : Rat) : SeqAt.shaped (ofR q) = true := by
  unfold ofR
  split
  · rfl
  · rfl
theorem eqv_num (q r : Rat) : PyData.eqv (ofR q) (ofR r) = decide (q = r) := by
  by_cases h : q = r
  · subst h
    rw [decide_eq_true rfl]
    unfold ofR
    split
    · show (q.num == q.num) = true
      exact beq_self_eq_true _
    · show ((q.num == q.num) && (((q.den : Int) == (q.den : Int)) && true)) = true
      rw [beq_self_eq_true, beq_self_eq_true]
      rfl
  · rw [decide_eq_false h]
    refine Bool.eq_false_iff.mpr fun z => h ?_
    unfold ofR at z
    split at z
    · split at z
      · rename_i h1 h2
        have e : (q.num == r.num) = true := z
        exact Rat.ext (beq_iff_eq.mp e) (by omega)
      · cases z
    · split at z
      · cases z
      · have e : ((q.num == r.num) && (((q.den : Int) == (r.den : Int)) && true)) = true := z
        rw [Bool.and_true, Bool.and_eq_true, beq_iff_eq, beq_iff_eq] at e
        exact Rat.ext e.1 (by omega)
theorem eq_num {x y : V} {q r : Rat} {H : Hp} {Q : VK} (hx : Dq K H x (ofR q)) (hy : Dq K H y (ofR r)) (h : Q (.bl (decide (q = r))) H) : rEqD K x y H Q := by
  refine ⟨_, _, dp_num hx, dp_num hy, shaped_num q, shaped_num r, ?_⟩
  rw [eqv_num]
  exact h
theorem eqv_zero (r : Rat) : PyData.eqv (ofR r) (.int 0) = decide (r = ((0 : Int) : Rat)) := by
  rw [← ofR_int 0]
  exact eqv_num _ _
/-! ### divided -/
def sp_div (K : PySem.W.Frag) (C C2 : Addr) : Sp := fun vs H Q E => ∃ (x y : V) (dx dy : PyData), vs = [x, y] ∧ Dq K H x dx ∧ Dq K H y dy ∧ Hd dx ∧ Hd dy ∧ (∀ d, badD [dx, dy] = some d → Out K C H d E) ∧
  (badD [dx, dy] = none → ∃ (q r : Rat) (k : Nat), dx = ofR q ∧ dy = ofR r ∧ Bq k q ∧ Bq k r ∧ 0 < k ∧ k ≤ 300 ∧ (r = 0 → Out K C2 H (.int 0) E) ∧ (r ≠ 0 → ∀ v H', Same H H' → Fresh K H H' v (ofR (q / r)) → Q v H'))
theorem ok_divided (F : FnP K "divided" s_divided f fd) (T : Tz mg) (O_check_numbers : OwnR P w K mg base 10 "check_numbers" (sp_check K C) fC) (O_times : OwnR P w K mg base 11 "times" (sp_many K C rprod) fT)
    (O_parts_of : Own P w K mg base CX0 1 "parts_of" ["value"] (sp_parts K) fS fdS) (O_lowest : Own P w K mg base CX0 2 "lowest" ["numerator", "denominator"] (sp_lowest K) fL fdL)
    (E_NoQuotient : OwnE P w K mg base 8 "NoQuotient" ["self", "value"] (sp_ini K C2 5) C2 fI fdI (tlOf "ArithmeticError") "ArithmeticError.__new__") :
    FnOk P w K mg base (L2.CX P w) 12 f fd ["first", "second"] (sp_div K C C2) := by
  refine F.ok sc_divided (fun vs H Q E h => ?_) (fun cdv A outer s H vs Q E hr h => ?_)
  · obtain ⟨x, y, dx, dy, rfl, _⟩ := h
    rfl
  · obtain ⟨x, y, dx, dy, rfl, hx, hy, hdx, hdy, hbad, qq⟩ := h
    refine ⟨_, (pss_cons (ps_expr (pe_ownR O_check_numbers (takes_of rfl rfl rfl rfl) (hr.mono (by first | decide | omega)) (pa_cons (pe_tup (pa_cons (pv 0) (pa_cons (pv 1) pa_nil))) pa_nil)))
      (pss_cons (ps_if (pt_cmpR (op_eqD hr.units) (pv 1) pe_int (nomark _)) (pss_one (ps_raise rfl (takes_of rfl rfl rfl rfl) (pmk_e exb_A E_NoQuotient (hr.mono (by first | decide | omega)) (pa_cons (pv 1) pa_nil)))) pss_nil)
      (pss_cons (ps_asg (pe_own O_parts_of (hr.mono (by first | decide | omega)) (pa_cons (pv 1) pa_nil)) (pg_tup rfl (pgs_cons (pg_name (i := 2) sc_divided.nd rfl (Or.inl rfl)) (pgs_cons (pg_name (i := 3) sc_divided.nd rfl (Or.inl rfl)) pgs_nil))))
      (pss_one (ps_ret (pe_ownR O_times (takes_of rfl rfl rfl rfl) (hr.mono (by first | decide | omega)) (pa_cons (pv 0) (pa_cons (pe_own O_lowest (hr.mono (by first | decide | omega)) (pa_cons (pv 3) (pa_cons (pv 2) pa_nil))) pa_nil)))))))), ?_⟩
    refine ⟨x, rfl, y, rfl, by show 2 ≤ sizeLine; decide, fun t nt => ⟨t, [x, y], [dx, dy], rfl, .inl (.inl upd_same), .cons (hx.same (same_upd nt)) (.cons (hy.same (same_upd nt)) .nil), fun d hd => ?_, fun d e => (hbad d e).later (same_upd nt), fun e H1 s1 => ?_⟩⟩
    · simp only [List.mem_cons, List.not_mem_nil, or_false] at hd
      rcases hd with rfl | rfl
      · exact hdx
      · exact hdy
    · obtain ⟨q, r, k, rfl, rfl, b1, b2, k0, hk, o4, q4⟩ := qq e
      have s2 := (same_upd (o := .tup [x, y]) nt).trans s1
      refine ⟨y, rfl, ?_⟩
      refine ⟨ofR r, .int 0, dp_num (hy.same s2), .int 0, shaped_num r, rfl, _, rfl, ?_⟩
      rw [eqv_zero r]
      by_cases z : r = ((0 : Int) : Rat)
      · rw [decide_eq_true z]
        have hz : ofR r = .int 0 := by rw [z, ofR_int]
        rw [hz] at hy
        exact iteT ⟨y, rfl, raise_it (hy.same s2) (by simp [PyData.depth]) rfl ((o4 z).later s2)⟩
      · rw [decide_eq_false z]
        refine iteF ⟨y, rfl, y, r, rfl, hy.same s2, fun t2 H2 s3 h2 => ⟨t2, _, rfl, h2, rfl, _, _, rfl, _, _, rfl, rfl, ?_⟩⟩
        have s4 := s2.trans s3
        refine ⟨x, rfl, _, rfl, _, rfl, _, _, rfl, num_ne z, Nat.lt_of_lt_of_le b2.1 (Nat.pow_le_pow_right (by decide) (by omega)), fun v1 H3 s5 fr => ?_⟩
        rw [l_inv z] at fr
        refine two_ok (k := k) (hx.same (s4.trans s5)) fr.dq b1 (bq_inv b2 z) hk fun v2 H4 s6 fr2 => ?_
        rw [prod_two, ← Rat.div_def] at fr2
        exact q4 z v2 H4 ((s4.trans s5).trans s6) (fr2.sooner (s4.trans s5))
/-! ### is_less -/
def sp_less (K : PySem.W.Frag) (C : Addr) : Sp := fun vs H Q E => ∃ (x y : V) (dx dy : PyData), vs = [x, y] ∧ Dq K H x dx ∧ Dq K H y dy ∧ Hd dx ∧ Hd dy ∧ (∀ d, badD [dx, dy] = some d → Out K C H d E) ∧
  (badD [dx, dy] = none → ∃ (q r : Rat) (k : Nat), dx = ofR q ∧ dy = ofR r ∧ Bq k q ∧ Bq k r ∧ k ≤ 300 ∧ ∀ H', Same H H' → Q (.bl (decide (q < r))) H')
theorem ok_is_less (F : FnP K "is_less" s_is_less f fd) (T : Tz mg) (O_check_numbers : OwnR P w K mg base 10 "check_numbers" (sp_check K C) fC) (O_parts_of : Own P w K mg base CX0 1 "parts_of" ["value"] (sp_parts K) fS fdS) :
    FnOk P w K mg base (L2.CX P w) 12 f fd ["first", "second"] (sp_less K C) := by
  refine F.ok sc_is_less (fun vs H Q E h => ?_) (fun cdv A outer s H vs Q E hr h => ?_)
  · obtain ⟨x, y, dx, dy, rfl, _⟩ := h
    rfl
  · obtain ⟨x, y, dx, dy, rfl, hx, hy, hdx, hdy, hbad, qq⟩ := h
    refine ⟨_, (pss_cons (ps_expr (pe_ownR O_check_numbers (takes_of rfl rfl rfl rfl) (hr.mono (by first | decide | omega)) (pa_cons (pe_tup (pa_cons (pv 0) (pa_cons (pv 1) pa_nil))) pa_nil)))
      (pss_cons (ps_asg (pe_own O_parts_of (hr.mono (by first | decide | omega)) (pa_cons (pv 0) pa_nil)) (pg_tup rfl (pgs_cons (pg_name (i := 2) sc_is_less.nd rfl (Or.inl rfl)) (pgs_cons (pg_name (i := 3) sc_is_less.nd rfl (Or.inl rfl)) pgs_nil))))
      (pss_cons (ps_asg (pe_own O_parts_of (hr.mono (by first | decide | omega)) (pa_cons (pv 1) pa_nil)) (pg_tup rfl (pgs_cons (pg_name (i := 4) sc_is_less.nd rfl (Or.inl rfl)) (pgs_cons (pg_name (i := 5) sc_is_less.nd rfl (Or.inl rfl)) pgs_nil))))
      (pss_one (ps_ret (pe_cmpR op_lt (pe_op op_mulX (pv 2) (pv 5)) (pe_op op_mulX (pv 4) (pv 3)) (nomark _))))))), ?_⟩
    refine ⟨x, rfl, y, rfl, by show 2 ≤ sizeLine; decide, fun t nt => ⟨t, [x, y], [dx, dy], rfl, .inl (.inl upd_same), .cons (hx.same (same_upd nt)) (.cons (hy.same (same_upd nt)) .nil), fun d hd => ?_, fun d e => (hbad d e).later (same_upd nt), fun e H1 s1 => ?_⟩⟩
    · simp only [List.mem_cons, List.not_mem_nil, or_false] at hd
      rcases hd with rfl | rfl
      · exact hdx
      · exact hdy
    · obtain ⟨q, r, k, rfl, rfl, b1, b2, hk, q4⟩ := qq e
      have s2 := (same_upd (o := .tup [x, y]) nt).trans s1
      refine ⟨x, rfl, x, q, rfl, hx.same s2, fun t1 H2 s3 h1 => ⟨t1, _, rfl, h1, rfl, _, _, rfl, _, _, rfl, rfl, ?_⟩⟩
      refine ⟨y, rfl, y, r, rfl, hy.same (s2.trans s3), fun t2 H3 s4 h2 => ⟨t2, _, rfl, h2, rfl, _, _, rfl, _, _, rfl, rfl, ?_⟩⟩
      refine ⟨_, rfl, _, rfl, _, _, rfl, rfl, cm b1.1 (nd b2) (by omega), _, rfl, _, rfl, _, _, rfl, rfl, cm b2.1 (nd b1) (by omega), _, _, rfl, rfl, ?_⟩
      have en : decide (q.num * (r.den : Int) < r.num * (q.den : Int)) = decide (q < r) := by
        rw [Bool.eq_iff_iff, decide_eq_true_eq, decide_eq_true_eq]
        exact (Rat.lt_iff q r).symm
      have g := q4 H3 ((s2.trans s3).trans s4)
      rw [← en] at g
      exact g
end
end K13

set_option Elab.async false
set_option linter.all false
set_option maxRecDepth 100000
set_option maxHeartbeats 4000000
namespace K13
open PySem PySem.Spec PyProof.Rows L2 Lw
section
variable {P : Program} {w : World} {K : PySem.W.Frag} {mg : Str → Option Value} {base : Heap} {f : Addr} {fd : FuncData} {fM fQ fD fE fP fT : Addr} {C C2 : Addr}
/-! ### many -/
def sp_lmany (K : PySem.W.Frag) (C : Addr) : Sp := fun vs H Q E => ∃ (way : Int) (l : Addr) (xs : List V), vs = [.int way, .ref l] ∧ SqL K H l xs ∧ xs.length ≤ 4 ∧ sp_many K C (if way = 0 then rsum else rprod) xs H Q E
theorem ok_many (F : FnP K "_law_many" s_many f fd) (T : Tz mg) (O_plus : OwnR P w K mg base 11 "plus" (sp_many K C rsum) fP) (O_times : OwnR P w K mg base 11 "times" (sp_many K C rprod) fT) :
    FnOk P w K mg base (L2.CX P w) 12 f fd ["_law_way", "_law_some"] (sp_lmany K C) := by
  refine F.ok sc_many (fun vs H Q E h => ?_) (fun cdv A outer s H vs Q E hr h => ?_)
  · obtain ⟨way, l, xs, rfl, _⟩ := h
    rfl
  · obtain ⟨way, l, xs, rfl, hs, hl, h⟩ := h
    refine ⟨_, (pss_cons (ps_if (pt_cmpR op_eq (pe_callB call_len_seq (by rfl) T.z_len (by decide +kernel) (pa_cons (pv 1) pa_nil)) pe_int (nomark _)) (pss_one (ps_ret (pe_ifExp (pt_cmpR op_eq (pv 0) pe_int (nomark _)) (pe_ownR0 O_plus (takes_of rfl rfl rfl rfl) (hr.mono (by first | decide | omega))) (pe_ownR0 O_times (takes_of rfl rfl rfl rfl) (hr.mono (by first | decide | omega)))))) pss_nil)
      (pss_cons (ps_if (pt_cmpR op_eq (pe_callB call_len_seq (by rfl) T.z_len (by decide +kernel) (pa_cons (pv 1) pa_nil)) pe_int (nomark _)) (pss_one (ps_ret (pe_ifExp (pt_cmpR op_eq (pv 0) pe_int (nomark _)) (pe_ownR O_plus (takes_of rfl rfl rfl rfl) (hr.mono (by first | decide | omega)) (pa_cons (pe_ix ix_list (pv 1) pe_int (fun _ _ => rfl)) pa_nil)) (pe_ownR O_times (takes_of rfl rfl rfl rfl) (hr.mono (by first | decide | omega)) (pa_cons (pe_ix ix_list (pv 1) pe_int (fun _ _ => rfl)) pa_nil))))) pss_nil)
      (pss_cons (ps_if (pt_cmpR op_eq (pe_callB call_len_seq (by rfl) T.z_len (by decide +kernel) (pa_cons (pv 1) pa_nil)) pe_int (nomark _)) (pss_one (ps_ret (pe_ifExp (pt_cmpR op_eq (pv 0) pe_int (nomark _)) (pe_ownR O_plus (takes_of rfl rfl rfl rfl) (hr.mono (by first | decide | omega)) (pa_cons (pe_ix ix_list (pv 1) pe_int (fun _ _ => rfl)) (pa_cons (pe_ix ix_list (pv 1) pe_int (fun _ _ => rfl)) pa_nil))) (pe_ownR O_times (takes_of rfl rfl rfl rfl) (hr.mono (by first | decide | omega)) (pa_cons (pe_ix ix_list (pv 1) pe_int (fun _ _ => rfl)) (pa_cons (pe_ix ix_list (pv 1) pe_int (fun _ _ => rfl)) pa_nil)))))) pss_nil)
      (pss_cons (ps_if (pt_cmpR op_eq (pe_callB call_len_seq (by rfl) T.z_len (by decide +kernel) (pa_cons (pv 1) pa_nil)) pe_int (nomark _)) (pss_one (ps_ret (pe_ifExp (pt_cmpR op_eq (pv 0) pe_int (nomark _)) (pe_ownR O_plus (takes_of rfl rfl rfl rfl) (hr.mono (by first | decide | omega)) (pa_cons (pe_ix ix_list (pv 1) pe_int (fun _ _ => rfl)) (pa_cons (pe_ix ix_list (pv 1) pe_int (fun _ _ => rfl)) (pa_cons (pe_ix ix_list (pv 1) pe_int (fun _ _ => rfl)) pa_nil)))) (pe_ownR O_times (takes_of rfl rfl rfl rfl) (hr.mono (by first | decide | omega)) (pa_cons (pe_ix ix_list (pv 1) pe_int (fun _ _ => rfl)) (pa_cons (pe_ix ix_list (pv 1) pe_int (fun _ _ => rfl)) (pa_cons (pe_ix ix_list (pv 1) pe_int (fun _ _ => rfl)) pa_nil))))))) pss_nil)
      (pss_one (ps_ret (pe_ifExp (pt_cmpR op_eq (pv 0) pe_int (nomark _)) (pe_ownR O_plus (takes_of rfl rfl rfl rfl) (hr.mono (by first | decide | omega)) (pa_cons (pe_ix ix_list (pv 1) pe_int (fun _ _ => rfl)) (pa_cons (pe_ix ix_list (pv 1) pe_int (fun _ _ => rfl)) (pa_cons (pe_ix ix_list (pv 1) pe_int (fun _ _ => rfl)) (pa_cons (pe_ix ix_list (pv 1) pe_int (fun _ _ => rfl)) pa_nil))))) (pe_ownR O_times (takes_of rfl rfl rfl rfl) (hr.mono (by first | decide | omega)) (pa_cons (pe_ix ix_list (pv 1) pe_int (fun _ _ => rfl)) (pa_cons (pe_ix ix_list (pv 1) pe_int (fun _ _ => rfl)) (pa_cons (pe_ix ix_list (pv 1) pe_int (fun _ _ => rfl)) (pa_cons (pe_ix ix_list (pv 1) pe_int (fun _ _ => rfl)) pa_nil)))))))))))), ?_⟩
    have dz : (way = 0 ∧ decide (V.int way = V.int 0) = true) ∨ (way ≠ 0 ∧ decide (V.int way = V.int 0) = false) := by
      by_cases z : way = 0
      · subst z
        exact .inl ⟨rfl, decide_eq_true rfl⟩
      · exact .inr ⟨z, decide_eq_false (fun e => z (V.int.inj e))⟩
    have P1 : way = 0 → sp_many K C rsum xs H Q E := fun z => by rw [if_pos z] at h; exact h
    have P2 : way ≠ 0 → sp_many K C rprod xs H Q E := fun z => by rw [if_neg z] at h; exact h
    match xs, hl with
    | [], _ =>
      refine ⟨.ref l, rfl, l, _, rfl, .inl hs, rfl, _, rfl, ?_⟩
      refine iteT ⟨_, rfl, rfl, _, rfl, ?_⟩
      rcases dz with ⟨z, e⟩ | ⟨z, e⟩
      · rw [e]
        exact iteT (P1 z)
      · rw [e]
        exact iteF (P2 z)
    | [a], _ =>
      refine ⟨.ref l, rfl, l, _, rfl, .inl hs, rfl, _, rfl, iteF ⟨.ref l, rfl, l, _, rfl, .inl hs, rfl, _, rfl, ?_⟩⟩
      refine iteT ⟨_, rfl, rfl, _, rfl, ?_⟩
      rcases dz with ⟨z, e⟩ | ⟨z, e⟩
      · rw [e]
        exact iteT ⟨.ref l, rfl, l, _, 0, _, rfl, rfl, hs, rfl, P1 z⟩
      · rw [e]
        exact iteF ⟨.ref l, rfl, l, _, 0, _, rfl, rfl, hs, rfl, P2 z⟩
    | [a, b], _ =>
      refine ⟨.ref l, rfl, l, _, rfl, .inl hs, rfl, _, rfl, iteF ⟨.ref l, rfl, l, _, rfl, .inl hs, rfl, _, rfl, iteF ⟨.ref l, rfl, l, _, rfl, .inl hs, rfl, _, rfl, ?_⟩⟩⟩
      refine iteT ⟨_, rfl, rfl, _, rfl, ?_⟩
      rcases dz with ⟨z, e⟩ | ⟨z, e⟩
      · rw [e]
        exact iteT ⟨.ref l, rfl, l, _, 0, _, rfl, rfl, hs, rfl, .ref l, rfl, l, _, 1, _, rfl, rfl, hs, rfl, P1 z⟩
      · rw [e]
        exact iteF ⟨.ref l, rfl, l, _, 0, _, rfl, rfl, hs, rfl, .ref l, rfl, l, _, 1, _, rfl, rfl, hs, rfl, P2 z⟩
    | [a, b, c], _ =>
      refine ⟨.ref l, rfl, l, _, rfl, .inl hs, rfl, _, rfl, iteF ⟨.ref l, rfl, l, _, rfl, .inl hs, rfl, _, rfl, iteF ⟨.ref l, rfl, l, _, rfl, .inl hs, rfl, _, rfl, iteF ⟨.ref l, rfl, l, _, rfl, .inl hs, rfl, _, rfl, ?_⟩⟩⟩⟩
      refine iteT ⟨_, rfl, rfl, _, rfl, ?_⟩
      rcases dz with ⟨z, e⟩ | ⟨z, e⟩
      · rw [e]
        exact iteT ⟨.ref l, rfl, l, _, 0, _, rfl, rfl, hs, rfl, .ref l, rfl, l, _, 1, _, rfl, rfl, hs, rfl, .ref l, rfl, l, _, 2, _, rfl, rfl, hs, rfl, P1 z⟩
      · rw [e]
        exact iteF ⟨.ref l, rfl, l, _, 0, _, rfl, rfl, hs, rfl, .ref l, rfl, l, _, 1, _, rfl, rfl, hs, rfl, .ref l, rfl, l, _, 2, _, rfl, rfl, hs, rfl, P2 z⟩
    | [a, b, c, d], _ =>
      refine ⟨.ref l, rfl, l, _, rfl, .inl hs, rfl, _, rfl, iteF ⟨.ref l, rfl, l, _, rfl, .inl hs, rfl, _, rfl, iteF ⟨.ref l, rfl, l, _, rfl, .inl hs, rfl, _, rfl, iteF ⟨.ref l, rfl, l, _, rfl, .inl hs, rfl, _, rfl, ?_⟩⟩⟩⟩
      refine iteF ⟨_, rfl, rfl, _, rfl, ?_⟩
      rcases dz with ⟨z, e⟩ | ⟨z, e⟩
      · rw [e]
        exact iteT ⟨.ref l, rfl, l, _, 0, _, rfl, rfl, hs, rfl, .ref l, rfl, l, _, 1, _, rfl, rfl, hs, rfl, .ref l, rfl, l, _, 2, _, rfl, rfl, hs, rfl, .ref l, rfl, l, _, 3, _, rfl, rfl, hs, rfl, P1 z⟩
      · rw [e]
        exact iteF ⟨.ref l, rfl, l, _, 0, _, rfl, rfl, hs, rfl, .ref l, rfl, l, _, 1, _, rfl, rfl, hs, rfl, .ref l, rfl, l, _, 2, _, rfl, rfl, hs, rfl, .ref l, rfl, l, _, 3, _, rfl, rfl, hs, rfl, P2 z⟩
    | _ :: _ :: _ :: _ :: _ :: _, hl => exact absurd hl (by simp)
end
end K13

set_option Elab.async false
set_option linter.all false
set_option maxRecDepth 100000
set_option maxHeartbeats 4000000
namespace K13
open PySem PySem.Spec PyProof.Rows L2 Lw
section
variable {P : Program} {w : World} {K : PySem.W.Frag} {mg : Str → Option Value} {base : Heap} {f : Addr} {fd : FuncData} {fM fQ fD fE fP fT : Addr} {C C2 : Addr}
/-! ### called -/
/-- data that the law hands about -/
structure Okd (d : PyData) : Prop where
  hd : Hd d
  bq : numD d = true → Bq 100 (vr d)
def qsD (ds : List PyData) : List Rat := ds.map vr
theorem map_num {ds : List PyData} (h : badD ds = none) : ds = (qsD ds).map ofR := by
  have h2 : ∀ x ∈ ds, numD x = true := fun x hx => by
    unfold badD at h
    rw [List.find?_eq_none] at h
    have := h x hx
    simpa using this
  unfold qsD
  rw [List.map_map]
  conv => lhs; rw [← List.map_id ds]
  exact List.map_congr_left fun x hx => (ofR_vr (h2 x hx)).symm
theorem bq_all {ds : List PyData} (h : badD ds = none) (ok : ∀ d ∈ ds, Okd d) : ∀ q ∈ qsD ds, Bq 100 q := fun q hq => by
  obtain ⟨d, hd, rfl⟩ := List.mem_map.mp hq
  refine (ok d hd).bq ?_
  unfold badD at h
  rw [List.find?_eq_none] at h
  have := h d hd
  simpa using this
def q0 (ds : List PyData) : Rat := (qsD ds).getD 0 0
def q1 (ds : List PyData) : Rat := (qsD ds).getD 1 0
def zeroB (way : Int) (ds : List PyData) : Bool := decide (way = 3) && decide (q1 ds = 0)
/-- what is returned where all is right -/
def resD (way : Int) (ds : List PyData) : PyData := if way = 0 then ofR (rsum (qsD ds)) else if way = 1 then ofR (rprod (qsD ds)) else if way = 2 then ofR (q0 ds - q1 ds) else if way = 3 then ofR (q0 ds / q1 ds) else .bool (decide (q0 ds < q1 ds))
theorem res_two {dx dy : PyData} : resD 2 [dx, dy] = ofR (vr dx - vr dy) := by
  unfold resD
  rw [if_neg (by decide), if_neg (by decide), if_pos rfl, show q0 [dx, dy] = vr dx from rfl, show q1 [dx, dy] = vr dy from rfl]
theorem res_three {dx dy : PyData} : resD 3 [dx, dy] = ofR (vr dx / vr dy) := by
  unfold resD
  rw [if_neg (by decide), if_neg (by decide), if_neg (by decide), if_pos rfl, show q0 [dx, dy] = vr dx from rfl, show q1 [dx, dy] = vr dy from rfl]
theorem res_four {way : Int} {dx dy : PyData} (h : 2 ≤ way) (h2 : way ≠ 2) (h3 : way ≠ 3) : resD way [dx, dy] = .bool (decide (vr dx < vr dy)) := by
  unfold resD
  rw [if_neg (by omega), if_neg (by omega), if_neg h2, if_neg h3, show q0 [dx, dy] = vr dx from rfl, show q1 [dx, dy] = vr dy from rfl]
theorem zero_two {dx dy : PyData} : zeroB 2 [dx, dy] = false := by
  unfold zeroB
  rw [decide_eq_false (by decide), Bool.false_and]
theorem zero_three {dx dy : PyData} : zeroB 3 [dx, dy] = decide (vr dy = 0) := by
  unfold zeroB
  rw [decide_eq_true rfl, Bool.true_and, show q1 [dx, dy] = vr dy from rfl]
def sp_called (K : PySem.W.Frag) (C C2 : Addr) : Sp := fun vs H Q E => ∃ (way : Int) (l : Addr) (xs : List V) (ds : List PyData), vs = [.int way, .ref l] ∧ SqL K H l xs ∧ DqAll K H xs ds ∧ 0 ≤ way ∧ way < 5 ∧ xs.length ≤ 4 ∧ (2 ≤ way → xs.length = 2) ∧ (∀ d ∈ ds, Okd d) ∧
  (∀ d, badD ds = some d → Out K C H d E) ∧ (badD ds = none → zeroB way ds = true → Out K C2 H (.int 0) E) ∧ (badD ds = none → zeroB way ds = false → ∀ v H', Same H H' → Dq K H' v (resD way ds) → Q v H')
theorem ok_called (F : FnP K "_law_called" s_called f fd) (T : Tz mg) (O_many : OwnR P w K mg base 12 "_law_many" (sp_lmany K C) fM) (O_minus : OwnR P w K mg base 12 "minus" (sp_minus K C) fQ) (O_divided : OwnR P w K mg base 12 "divided" (sp_div K C C2) fD) (O_is_less : OwnR P w K mg base 12 "is_less" (sp_less K C) fE) :
    FnOk P w K mg base (L2.CX P w) 13 f fd ["_law_way", "_law_some"] (sp_called K C C2) := by
  refine F.ok sc_called (fun vs H Q E h => ?_) (fun cdv A outer s H vs Q E hr h => ?_)
  · obtain ⟨way, l, xs, ds, rfl, _⟩ := h
    rfl
  · obtain ⟨way, l, xs, ds, rfl, hs, hd, w0, w1, hl, h2, ok, hbad, hz, qq⟩ := h
    refine ⟨_, (pss_cons (ps_if (pt_cmpR op_lt (pv 0) pe_int (nomark _)) (pss_one (ps_ret (pe_ownR O_many (takes_of rfl rfl rfl rfl) (hr.mono (by first | decide | omega)) (pa_cons (pv 0) (pa_cons (pv 1) pa_nil))))) pss_nil)
      (pss_cons (ps_if (pt_cmpR op_eq (pv 0) pe_int (nomark _)) (pss_one (ps_ret (pe_ownR O_minus (takes_of rfl rfl rfl rfl) (hr.mono (by first | decide | omega)) (pa_cons (pe_ix ix_list (pv 1) pe_int (fun _ _ => rfl)) (pa_cons (pe_ix ix_list (pv 1) pe_int (fun _ _ => rfl)) pa_nil))))) pss_nil)
      (pss_one (ps_ret (pe_ifExp (pt_cmpR op_eq (pv 0) pe_int (nomark _)) (pe_ownR O_divided (takes_of rfl rfl rfl rfl) (hr.mono (by first | decide | omega)) (pa_cons (pe_ix ix_list (pv 1) pe_int (fun _ _ => rfl)) (pa_cons (pe_ix ix_list (pv 1) pe_int (fun _ _ => rfl)) pa_nil))) (pe_ownR O_is_less (takes_of rfl rfl rfl rfl) (hr.mono (by first | decide | omega)) (pa_cons (pe_ix ix_list (pv 1) pe_int (fun _ _ => rfl)) (pa_cons (pe_ix ix_list (pv 1) pe_int (fun _ _ => rfl)) pa_nil)))))))), ?_⟩
    refine ⟨_, rfl, _, _, rfl, rfl, _, rfl, ite2 (fun e => ?_) (fun e => ?_)⟩
    · have wl : way < 2 := of_decide_eq_true e
      refine ⟨_, rfl, .ref l, rfl, way, l, xs, rfl, hs, hl, ds, hd, by rw [← dq_len hd]; omega, fun d h => (ok d h).hd, hbad, fun e => ?_⟩
      refine ⟨qsD ds, 100, map_num e, bq_all e ok, ?_, fun v H' s' fr => qq e ?_ v H' s' ?_⟩
      · have : (qsD ds).length ≤ 4 := by
          unfold qsD
          rw [List.length_map, ← dq_len hd]
          exact hl
        have := Nat.mul_le_mul_right (100 + 1) this
        omega
      · unfold zeroB
        rw [decide_eq_false (by omega), Bool.false_and]
      · unfold resD
        by_cases z : way = 0
        · rw [if_pos z] at fr ⊢
          exact fr.dq
        · rw [if_neg z] at fr ⊢
          rw [if_pos (by omega)]
          exact fr.dq
    · have wl : ¬ way < 2 := fun z => e (decide_eq_true z)
      have h3 := h2 (by omega)
      obtain ⟨x, y, rfl⟩ : ∃ x y, xs = [x, y] := by
        match xs, h3 with
        | [x, y], _ => exact ⟨x, y, rfl⟩
      obtain ⟨dx, dy, rfl, hx, hy⟩ : ∃ dx dy, ds = [dx, dy] ∧ Dq K H x dx ∧ Dq K H y dy := by
        cases hd with
        | cons hx g =>
          cases g with
          | cons hy g =>
            cases g
            exact ⟨_, _, rfl, hx, hy⟩
      have okx : Okd dx := ok dx (by simp)
      have oky : Okd dy := ok dy (by simp)
      have nums : badD [dx, dy] = none → dx = ofR (vr dx) ∧ dy = ofR (vr dy) ∧ Bq 100 (vr dx) ∧ Bq 100 (vr dy) := fun e => by
        have m := map_num e
        have b := bq_all e ok
        simp only [qsD, List.map_cons, List.map_nil, List.cons.injEq, and_true] at m
        exact ⟨m.1, m.2, b _ (by simp [qsD]), b _ (by simp [qsD])⟩
      refine ⟨_, rfl, rfl, _, rfl, ?_⟩
      by_cases z2 : way = 2
      · subst z2
        rw [decide_eq_true rfl]
        refine iteT ⟨.ref l, rfl, l, _, 0, _, rfl, rfl, hs, rfl, .ref l, rfl, l, _, 1, _, rfl, rfl, hs, rfl, ?_⟩
        refine ⟨x, y, dx, dy, rfl, hx, hy, okx.hd, oky.hd, hbad, fun e => ?_⟩
        obtain ⟨n1, n2, n3, n4⟩ := nums e
        exact ⟨vr dx, vr dy, 100, n1, n2, n3, n4, by decide, by decide, fun v H' s' fr => qq e zero_two v H' s' (by rw [res_two]; exact fr.dq)⟩
      · rw [decide_eq_false (fun e => z2 (V.int.inj e))]
        refine iteF ⟨_, rfl, rfl, _, rfl, ?_⟩
        by_cases z3 : way = 3
        · subst z3
          rw [decide_eq_true rfl]
          refine iteT ⟨.ref l, rfl, l, _, 0, _, rfl, rfl, hs, rfl, .ref l, rfl, l, _, 1, _, rfl, rfl, hs, rfl, ?_⟩
          refine ⟨x, y, dx, dy, rfl, hx, hy, okx.hd, oky.hd, hbad, fun e => ?_⟩
          obtain ⟨n1, n2, n3, n4⟩ := nums e
          exact ⟨vr dx, vr dy, 100, n1, n2, n3, n4, by decide, by decide, fun z => hz e (by rw [zero_three]; exact decide_eq_true z),
            fun z v H' s' fr => qq e (by rw [zero_three]; exact decide_eq_false z) v H' s' (by rw [res_three]; exact fr.dq)⟩
        · rw [decide_eq_false (fun e => z3 (V.int.inj e))]
          refine iteF ⟨.ref l, rfl, l, _, 0, _, rfl, rfl, hs, rfl, .ref l, rfl, l, _, 1, _, rfl, rfl, hs, rfl, ?_⟩
          refine ⟨x, y, dx, dy, rfl, hx, hy, okx.hd, oky.hd, hbad, fun e => ?_⟩
          obtain ⟨n1, n2, n3, n4⟩ := nums e
          refine ⟨vr dx, vr dy, 100, n1, n2, n3, n4, by decide, fun H' s' => qq e ?_ _ H' s' ?_⟩
          · unfold zeroB
            rw [decide_eq_false z3, Bool.false_and]
          · rw [res_four (by omega) z2 z3]
            exact .bl _
end
end K13

set_option Elab.async false
set_option linter.all false
set_option maxRecDepth 100000
set_option maxHeartbeats 4000000
namespace K13
open PySem PySem.Spec PyProof.Rows L2 Lw
/-- the classes that the law names: the two errors, then LastheldError, LimitError, MissingError, StateError, TooMany -/
structure Tc (K : PySem.W.Frag) (mg : Str → Option Value) (C C2 c1 c2 c3 c4 c5 : Addr) : Prop where
  m_InvalidNumber : mg "InvalidNumber" = some (.ref C)
  m_NoQuotient : mg "NoQuotient" = some (.ref C2)
  m_LastheldError : mg "LastheldError" = some (.ref c1)
  m_LimitError : mg "LimitError" = some (.ref c2)
  m_MissingError : mg "MissingError" = some (.ref c3)
  m_StateError : mg "StateError" = some (.ref c4)
  m_TooMany : mg "TooMany" = some (.ref c5)
  x1 : PySem.W.exmOne K (.ref C) (.ref C) = some true
  x2 : PySem.W.exmOne K (.ref C2) (.ref C) = some false
  x3 : PySem.W.exmOne K (.ref C2) (.ref C2) = some true
  ec : ExcC K C
  ec2 : ExcC K C2
  xf : XfC K C
  xf2 : XfC K C2
  hno : PySem.W.findIn K (.ref C) "value" = some none
  hno2 : PySem.W.findIn K (.ref C2) "value" = some none
  k1 : PySem.W.kitAny K (.ref C) [.ref c2, .ref c3, .ref c4] = some false
  k2 : PySem.W.kitOne K (.ref C) (.ref c1) = some true
  k3 : PySem.W.kitAny K (.ref C2) [.ref c1, .ref c3, .ref c4, .ref c5] = some false
  k4 : PySem.W.kitOne K (.ref C2) (.ref c2) = some true
  k5 : PySem.W.kitOne K (.ref C2) (.type "ArithmeticError") = some true
section
variable {P : Program} {w : World} {K : PySem.W.Frag} {mg : Str → Option Value} {base : Heap} {f : Addr} {fd : FuncData} {fC : Addr} {C C2 c1 c2 c3 c4 c5 : Addr}
/-- what the law asks of a call -/
def dueD (way : Int) (ds : List PyData) : PyData := match badD ds with
  | some d => .list [.str "refused", d, .bool true]
  | none => if zeroB way ds = true then .list [.str "zero", .int 0, .bool true] else resD way ds
theorem due_bad {way : Int} {ds : List PyData} {d : PyData} (h : badD ds = some d) : dueD way ds = .list [.str "refused", d, .bool true] := by
  unfold dueD
  rw [h]
theorem due_zero {way : Int} {ds : List PyData} (h : badD ds = none) (z : zeroB way ds = true) : dueD way ds = .list [.str "zero", .int 0, .bool true] := by
  unfold dueD
  rw [h]
  show (if zeroB way ds = true then _ else _) = _
  rw [if_pos z]
theorem due_res {way : Int} {ds : List PyData} (h : badD ds = none) (z : zeroB way ds = false) : dueD way ds = resD way ds := by
  unfold dueD
  rw [h]
  show (if zeroB way ds = true then _ else _) = _
  rw [if_neg (by rw [z]; decide)]
def sp_told (K : PySem.W.Frag) : Sp := fun vs H Q _ => ∃ (way : Int) (l : Addr) (xs : List V) (ds : List PyData), vs = [.int way, .ref l] ∧ SqL K H l xs ∧ DqAll K H xs ds ∧ 0 ≤ way ∧ way < 5 ∧ xs.length ≤ 4 ∧ (2 ≤ way → xs.length = 2) ∧ (∀ d ∈ ds, Okd d) ∧
  ∀ v H', Same H H' → Dq K H' v (dueD way ds) → Q v H'
theorem ok_told (F : FnP K "_law_told" s_told f fd) (T : Tz mg) (TC : Tc K mg C C2 c1 c2 c3 c4 c5) (O_called : OwnR P w K mg base 13 "_law_called" (sp_called K C C2) fC) : FnOk P w K mg base CX0 14 f fd ["_law_way", "_law_some"] (sp_told K) := by
  refine F.ok sc_told (fun vs H Q E h => ?_) (fun cdv A outer s H vs Q E hr h => ?_)
  · obtain ⟨way, l, xs, ds, rfl, _⟩ := h
    rfl
  · obtain ⟨way, l, xs, ds, rfl, hs, hd, w0, w1, hl, h2, ok, qq⟩ := h
    refine ⟨_, PSs.nox (pss_cons (ps_set (i := 2) sc_told.nd rfl (Or.inl rfl) pe_non)
      (pss_cons (ps_try_two (i := 3) rfl rfl sc_told.nd rfl rfl ⟨rfl, by decide, .inl TC.m_InvalidNumber⟩ ⟨rfl, by decide, .inl TC.m_NoQuotient⟩
        (fun W pn xe tk => pss_one (ps_set (i := 2) sc_told.nd rfl (Or.inl rfl) (pe_ownR O_called tk hr (pa_cons (pv 0) (pa_cons (pv 1) pa_nil)))))
        (fun a oe cls d pn hz hf => pss_cons (ps_set (i := 4) sc_told.nd rfl (Or.inl rfl) (pe_or (pe_callB (call_isXT hz hf) (by rfl) T.z_isinstance (by decide +kernel) (pa_cons (pv 3) (pa_cons (pe_tup (pa_cons (pe_glob (v := .ref c2) (by rfl) TC.m_LimitError rfl) (pa_cons (pe_glob (v := .ref c3) (by rfl) TC.m_MissingError rfl) (pa_cons (pe_glob (v := .ref c4) (by rfl) TC.m_StateError rfl) pa_nil)))) pa_nil)))
            (pe_one (pe_not (pe_callB (call_isX hz hf) (by rfl) T.z_isinstance (by decide +kernel) (pa_cons (pv 3) (pa_cons (pe_glob (v := .ref c1) (by rfl) TC.m_LastheldError rfl) pa_nil)))))))
          (pss_one (ps_set (i := 2) sc_told.nd rfl (Or.inl rfl) (pe_lst (pa_cons pe_str (pa_cons (pe_xf TC.xf TC.hno hz hf (pv 3)) (pa_cons (pe_not (pv 4)) pa_nil)))))))
        (fun a oe cls d pn hz hf => pss_cons (ps_set (i := 4) sc_told.nd rfl (Or.inl rfl) (pe_callB (call_isXT hz hf) (by rfl) T.z_isinstance (by decide +kernel) (pa_cons (pv 3) (pa_cons (pe_tup (pa_cons (pe_glob (v := .ref c1) (by rfl) TC.m_LastheldError rfl) (pa_cons (pe_glob (v := .ref c3) (by rfl) TC.m_MissingError rfl) (pa_cons (pe_glob (v := .ref c4) (by rfl) TC.m_StateError rfl) (pa_cons (pe_glob (v := .ref c5) (by rfl) TC.m_TooMany rfl) pa_nil))))) pa_nil))))
          (pss_one (ps_set (i := 2) sc_told.nd rfl (Or.inl rfl) (pe_lst (pa_cons pe_str (pa_cons (pe_xf TC.xf2 TC.hno2 hz hf (pv 3)) (pa_cons (pe_and (pe_callB (call_isX hz hf) (by rfl) T.z_isinstance (by decide +kernel) (pa_cons (pv 3) (pa_cons (pe_glob (v := .ref c2) (by rfl) TC.m_LimitError rfl) pa_nil)))
            (pe_and (pe_callB (call_isX hz hf) (by rfl) T.z_isinstance (by decide +kernel) (pa_cons (pv 3) (pa_cons (pe_bltn (v := .ty "ArithmeticError") (by rfl) T.z_ArithmeticError (by decide +kernel) rfl) pa_nil))) (pe_one (pe_not (pv 4))))) pa_nil))))))))
      (pss_one (ps_ret (pv 2))))), ?_⟩
    refine ⟨_, rfl, .ref l, rfl, way, l, xs, ds, rfl, hs, hd, w0, w1, hl, h2, ok, fun d hb => ?_, fun hb hz => ?_, fun hb hz v H' s' dv => ?_⟩
    · intro v' dx H' s' nd hxd fr
      refine Or.inl ⟨TC.x1, fun a na => ?_⟩
      refine ⟨.ref a, rfl, by show 3 ≤ sizeLine; decide, fun tp ntp => ?_⟩
      have hx2 : (upd H' tp (.tup [.ref c2, .ref c3, .ref c4])) dx = some (.xd [("value", v')]) := by
        rw [upd_ne (ne_of_none hxd ntp)]
        exact hxd
      refine ⟨C, dx, tp, _, _, false, _, rfl, rfl, TC.ec, rfl, upd_same, .cons (.own _) (.cons (.own _) (.cons (.own _) .nil)), TC.k1, hx2, _, rfl, ?_⟩
      refine iteF ⟨.ref a, rfl, C, dx, .ref c1, _, true, _, rfl, rfl, TC.ec, rfl, .own _, TC.k2, hx2, _, rfl, ?_⟩
      refine ⟨.ref a, rfl, rfl, rfl, dx, _, v', rfl, hx2, rfl, _, rfl, _, rfl, by show 3 ≤ sizeLine; decide, fun m nm => ?_⟩
      have sL : Same H' (upd (upd H' tp (.tup [.ref c2, .ref c3, .ref c4])) m (.lst [.str "refused", v', .bl true])) := (same_upd ntp).trans (same_upd nm)
      refine ⟨_, rfl, qq _ _ (s'.trans sL) ?_⟩
      rw [due_bad hb]
      exact Dq.lst (.inl (.inl upd_same)) (.cons (.str _) (.cons ((fr.dq).same sL) (.cons (.bl true) .nil)))
    · intro v' dx H' s' nd hxd fr
      refine Or.inr ⟨TC.x2, TC.x3, fun a na => ?_⟩
      refine ⟨.ref a, rfl, by show 4 ≤ sizeLine; decide, fun tp ntp => ?_⟩
      have hx2 : (upd H' tp (.tup [.ref c1, .ref c3, .ref c4, .ref c5])) dx = some (.xd [("value", v')]) := by
        rw [upd_ne (ne_of_none hxd ntp)]
        exact hxd
      refine ⟨C2, dx, tp, _, _, false, _, rfl, rfl, TC.ec2, rfl, upd_same, .cons (.own _) (.cons (.own _) (.cons (.own _) (.cons (.own _) .nil))), TC.k3, hx2, ?_⟩
      refine ⟨.ref a, rfl, rfl, rfl, dx, _, v', rfl, hx2, rfl, .ref a, rfl, C2, dx, .ref c2, _, true, _, rfl, rfl, TC.ec2, rfl, .own _, TC.k4, hx2, _, rfl, ?_⟩
      refine iteT ⟨.ref a, rfl, C2, dx, .ty "ArithmeticError", _, true, _, rfl, rfl, TC.ec2, rfl, .ty _, TC.k5, hx2, _, rfl, ?_⟩
      refine iteT ⟨_, rfl, _, rfl, by show 3 ≤ sizeLine; decide, fun m nm => ?_⟩
      have sL : Same H' (upd (upd H' tp (.tup [.ref c1, .ref c3, .ref c4, .ref c5])) m (.lst [.str "zero", v', .bl true])) := (same_upd ntp).trans (same_upd nm)
      refine ⟨_, rfl, qq _ _ (s'.trans sL) ?_⟩
      rw [due_zero hb hz]
      exact Dq.lst (.inl (.inl upd_same)) (.cons (.str _) (.cons ((fr.dq).same sL) (.cons (.bl true) .nil)))
    · refine ⟨_, rfl, qq v H' s' ?_⟩
      rw [due_res hb hz]
      exact dv
end
end K13

set_option Elab.async false
set_option linter.all false
set_option maxRecDepth 100000
set_option maxHeartbeats 4000000
namespace K13
open PySem PySem.Spec PyProof.Rows L2 Lw
section
variable {P : Program} {w : World} {K : PySem.W.Frag} {mg : Str → Option Value} {base : Heap} {f : Addr} {fd : FuncData} {fI fS fP fQ fT : Addr} {fdI fdS fdP fdQ fdT : FuncData} {C C2 c1 c2 c3 c4 c5 : Addr}
def filtB (ds : List PyData) : List PyData := ds.filter fun d => !numD d
theorem filt_snoc {ds : List PyData} {i : Nat} {d : PyData} (h : ds[i]? = some d) : filtB (ds.take (i + 1)) = if numD d = true then filtB (ds.take i) else filtB (ds.take i) ++ [d] := by
  unfold filtB
  rw [List.take_add_one, h, List.filter_append]
  by_cases z : numD d = true
  · rw [if_pos z]
    simp [z]
  · rw [if_neg z]
    simp [z]
theorem filt_head {ds : List PyData} : (filtB ds).head? = badD ds := by
  unfold filtB badD
  exact List.head?_filter
theorem two_of {xs : List V} {ds : List PyData} {H : Hp} (hd : DqAll K H xs ds) (h : xs.length = 2) : ∃ x y dx dy, xs = [x, y] ∧ ds = [dx, dy] ∧ Dq K H x dx ∧ Dq K H y dy := by
  match xs, h, hd with
  | [x, y], _, .cons hx (.cons hy .nil) => exact ⟨x, y, _, _, rfl, rfl, hx, hy⟩
theorem ok_due (F : FnP K "_law_due" s_due f fd) (T : Tz mg) (O_is_ratio : Own P w K mg base CX0 2 "_law_is_ratio" ["_law_thing"] (sp_num K) fI fdI) (O_split : Own P w K mg base CX0 1 "_law_split" ["_law_ratio_here"] (sp_parts K) fT fdT)
    (O_sum : Own P w K mg base CX0 3 "_law_sum" ["_law_a", "_law_b"] (sp_two K fun q r => q + r) fS fdS) (O_product : Own P w K mg base CX0 3 "_law_product" ["_law_a", "_law_b"] (sp_two K fun q r => q * r) fP fdP) (O_quotient : Own P w K mg base CX0 3 "_law_quotient" ["_law_a", "_law_b"] (sp_quo K) fQ fdQ) :
    FnOk P w K mg base CX0 4 f fd ["_law_way", "_law_some"] (sp_told K) := by
  refine F.ok sc_due (fun vs H Q E h => ?_) (fun cdv A outer s H vs Q E hr h => ?_)
  · obtain ⟨way, l, xs, ds, rfl, _⟩ := h
    rfl
  · obtain ⟨way, l, xs, ds, rfl, hs, hd, w0, w1, hl, h2, ok, qq⟩ := h
    refine ⟨_, PSs.nox (pss_cons (ps_setLc (i := 2) (own := [("_law_thing", 4)]) (g := gName 4) rfl sc_due.nd rfl rfl (sw_true rfl rfl rfl (by decide +kernel)) (pi_list (pv 1)) (blkOk_by (own := [("_law_thing", 4)]) (N := N_due) (sc := defScope s_due) (by decide +kernel)) (fun _ _ _ _ _ => pg_name (i := 4) sc_due.nd rfl (Or.inl rfl)) (fun _ _ _ _ _ => pts_one (pt_not (pt_val (pe_own O_is_ratio (hr.mono (by first | decide | omega)) (pa_cons (pv 4) pa_nil))))) (fun _ _ _ _ _ => (pv 4)))
      (pss_cons (ps_if (pt_cmpR (op_neE hr.units) (pv 2) (pe_lst pa_nil) (nomark _)) (pss_one (ps_ret (pe_lst (pa_cons pe_str (pa_cons (pe_ix ix_list (pv 2) pe_int (fun _ _ => rfl)) (pa_cons pe_bl pa_nil)))))) pss_nil)
      (pss_cons (ps_set (i := 3) sc_due.nd rfl (Or.inl rfl) (pv 0))
      (pss_cons (ps_if (pt_cmpR op_lt (pv 0) pe_int (nomark _)) (pss_cons (ps_for PassesOwn.never rfl (pi_list (pv 1)) (pg_name (i := 4) sc_due.nd rfl (Or.inl rfl)) (pss_one (ps_set (i := 3) sc_due.nd rfl (Or.inl rfl) (pe_ifExp (pt_cmpR op_eq (pv 0) pe_int (nomark _)) (pe_own O_sum (hr.mono (by first | decide | omega)) (pa_cons (pv 3) (pa_cons (pv 4) pa_nil))) (pe_own O_product (hr.mono (by first | decide | omega)) (pa_cons (pv 3) (pa_cons (pv 4) pa_nil)))))))
      (pss_one (ps_ret (pv 3)))) pss_nil)
      (pss_cons (ps_if (pt_cmpR op_eq (pv 0) pe_int (nomark _)) (pss_one (ps_ret (pe_own O_sum (hr.mono (by first | decide | omega)) (pa_cons (pe_ix ix_list (pv 1) pe_int (fun _ _ => rfl)) (pa_cons (pe_own O_product (hr.mono (by first | decide | omega)) (pa_cons (pe_un un_neg pe_int) (pa_cons (pe_ix ix_list (pv 1) pe_int (fun _ _ => rfl)) pa_nil))) pa_nil))))) pss_nil)
      (pss_cons (ps_if (pt_cmpR op_eq (pv 0) pe_int (nomark _)) (pss_one (ps_ret (pe_ifExp (pt_cmpR (op_eqD hr.units) (pe_ix ix_list (pv 1) pe_int (fun _ _ => rfl)) pe_int (nomark _)) (pe_lst (pa_cons pe_str (pa_cons pe_int (pa_cons pe_bl pa_nil)))) (pe_own O_quotient (hr.mono (by first | decide | omega)) (pa_cons (pe_ix ix_list (pv 1) pe_int (fun _ _ => rfl)) (pa_cons (pe_ix ix_list (pv 1) pe_int (fun _ _ => rfl)) pa_nil)))))) pss_nil)
      (pss_cons (ps_par (i := 5) (j := 6) (by rfl) sc_due.nd rfl rfl (by decide) rfl rfl (pa_cons (pe_own O_split (hr.mono (by first | decide | omega)) (pa_cons (pe_ix ix_list (pv 1) pe_int (fun _ _ => rfl)) pa_nil)) (pa_cons (pe_own O_split (hr.mono (by first | decide | omega)) (pa_cons (pe_ix ix_list (pv 1) pe_int (fun _ _ => rfl)) pa_nil)) pa_nil)) (by rfl))
      (pss_one (ps_ret (pe_cmpR op_lt (pe_op op_mulX (pe_ix ix_tup (pv 5) pe_int (fun _ _ => rfl)) (pe_ix ix_tup (pv 6) pe_int (fun _ _ => rfl))) (pe_op op_mulX (pe_ix ix_tup (pv 6) pe_int (fun _ _ => rfl)) (pe_ix ix_tup (pv 5) pe_int (fun _ _ => rfl))) (nomark _))))))))))), ?_⟩
    refine ⟨.ref l, rfl, l, rfl, ⟨xs, hs⟩, fun D nD => ?_⟩
    refine lc_list (K := K) (a := l) (xs := xs) (fun i H2 => Same H H2 ∧ ∃ ws, H2 D = some (.lst ws) ∧ ws.length ≤ i ∧ DqAll K H ws (filtB (ds.take i))) ⟨same_upd nD, [], upd_same, Nat.le_refl _, .nil⟩ (fun i H2 _ p => p.1.seq hs) ?_ ?_
    · rintro i x H2 hx ⟨s2, ws, e2, l2, d2⟩
      obtain ⟨d, hi, dx⟩ := dq_get hd hx
      have hxl := (List.getElem?_eq_some_iff.mp hx).1
      refine ⟨rfl, x, rfl, x, d, rfl, dx.same s2, lean_slim (ok d (List.mem_of_getElem? hi)).hd.sl, fun H3 s3 => ⟨_, rfl, ?_⟩⟩
      have fs := filt_snoc hi
      by_cases z : numD d = true
      · rw [z]
        rw [if_pos z] at fs
        refine iteF ⟨s2.trans s3, ws, s3 _ _ e2, by omega, ?_⟩
        rw [fs]
        exact d2
      · rw [Bool.eq_false_iff.mpr z]
        rw [if_neg z] at fs
        refine iteT ⟨x, rfl, ws, s3 _ _ e2, small1000 (by omega), fun b o e => ?_, ws ++ [x], upd_same, by rw [List.length_append]; show ws.length + 1 ≤ i + 1; omega, ?_⟩
        · rw [upd_ne (ne_of_none e nD)]
          exact s3 _ _ (s2 _ _ e)
        · rw [fs]
          exact dqall_snoc d2 dx
    · rintro H2 ⟨s2, ws, e2, l2, d2⟩
      rw [dq_len hd, List.take_length] at d2
      refine ⟨_, rfl, Nat.zero_le _, fun m nm => ⟨D, m, ws, rfl, rfl, .inl (.inl ?_), .inl (.inl upd_same), _, rfl, ?_⟩⟩
      · rw [upd_ne (ne_of_none e2 nm)]
        exact e2
      have s3 : Same H2 (upd H2 m (.lst [])) := same_upd nm
      have e3 := s3 _ _ e2
      have s4 := s2.trans s3
      revert s3 e3 s4
      generalize upd H2 m (.lst []) = H3
      intro s3 e3 s4
      cases d2' : ws with
      | cons b ws' =>
        subst d2'
        refine iteT ⟨.ref D, rfl, D, _, 0, b, rfl, rfl, .inl (.inl e3), atI_nat (xs := b :: ws') (j := 0) rfl, by show 3 ≤ sizeLine; decide, fun t nt => qq _ _ (s4.trans (same_upd nt)) ?_⟩
        have hh := filt_head (ds := ds)
        revert hh d2
        generalize filtB ds = fl
        intro d2 hh
        cases d2 with
        | cons hb _ =>
          rw [due_bad hh.symm]
          exact .lst (.inl (.inl upd_same)) (.cons (.str _) (.cons (hb.same (s4.trans (same_upd nt))) (.cons (.bl true) .nil)))
      | nil =>
        subst d2'
        have hb : badD ds = none := by
          rw [← filt_head]
          revert d2
          generalize filtB ds = fl
          intro d2
          cases d2
          rfl
        refine iteF ⟨_, rfl, ?_⟩
        have mn := map_num hb
        have bq := bq_all hb ok
        have hdn : DqAll K H xs ((qsD ds).map ofR) := by
          rw [← mn]
          exact hd
        have ql : (qsD ds).length ≤ 4 := by
          rw [← num_len hdn]
          exact hl
        refine ⟨_, rfl, _, _, rfl, rfl, _, rfl, ite2 (fun e => ?_) (fun e => ?_)⟩
        · have wl : way < 2 := of_decide_eq_true e
          have zf : zeroB way ds = false := by
            unfold zeroB
            rw [decide_eq_false (by omega), Bool.false_and]
          have dz : (way = 0 ∧ decide (V.int way = V.int 0) = true) ∨ (way = 1 ∧ decide (V.int way = V.int 0) = false) := by
            by_cases z : way = 0
            · subst z
              exact .inl ⟨rfl, decide_eq_true rfl⟩
            · exact .inr ⟨by omega, decide_eq_false (fun e => z (V.int.inj e))⟩
          rcases dz with ⟨z, e⟩ | ⟨z, e⟩
          · subst z
            refine ⟨.ref l, rfl, l, rfl, ⟨xs, s4.seq hs⟩, ?_⟩
            refine for_list (K := K) (a := l) (xs := xs) (fun i σ H4 => ∃ v y0 y1 y2, σ = [some (.int 0), some (.ref l), some (.ref D), some v, y0, y1, y2] ∧ Same H H4 ∧ Fresh K H H4 v (ofR (rsum ((qsD ds).take i)))) ⟨.int 0, _, _, _, rfl, s4, fresh0⟩ (fun i σ H4 _ p => ?_) ?_ ?_
            · obtain ⟨v, y0, y1, y2, _, s5, _⟩ := p
              exact s5.seq hs
            · rintro i x σ H4 hx ⟨v, y0, y1, y2, rfl, s5, fr⟩
              obtain ⟨q, hq, dx⟩ := num_get hdn hx
              have hi := (List.getElem?_eq_some_iff.mp hq).1
              refine ⟨_, rfl, rfl, _, rfl, iteT ⟨v, rfl, x, rfl, v, x, _, q, 1 + i * (100 + 1), 100, rfl, fr.dq, dx.same s5, bq_rsum i bq, bq q (List.mem_of_getElem? hq), by omega, fun v2 H5 s6 fr2 => ?_⟩⟩
              refine ⟨v2, _, _, _, rfl, s5.trans s6, ?_⟩
              rw [take_sum hq]
              exact fr2.sooner s5
            · rintro σ H4 ⟨v, y0, y1, y2, rfl, s5, fr⟩
              rw [num_len hdn, List.take_length] at fr
              refine ⟨v, rfl, qq v H4 s5 ?_⟩
              rw [due_res hb zf]
              unfold resD
              rw [if_pos rfl]
              exact fr.dq
          · subst z
            refine ⟨.ref l, rfl, l, rfl, ⟨xs, s4.seq hs⟩, ?_⟩
            refine for_list (K := K) (a := l) (xs := xs) (fun i σ H4 => ∃ v y0 y1 y2, σ = [some (.int 1), some (.ref l), some (.ref D), some v, y0, y1, y2] ∧ Same H H4 ∧ Fresh K H H4 v (ofR (rprod ((qsD ds).take i)))) ⟨.int 1, _, _, _, rfl, s4, fresh1⟩ (fun i σ H4 _ p => ?_) ?_ ?_
            · obtain ⟨v, y0, y1, y2, _, s5, _⟩ := p
              exact s5.seq hs
            · rintro i x σ H4 hx ⟨v, y0, y1, y2, rfl, s5, fr⟩
              obtain ⟨q, hq, dx⟩ := num_get hdn hx
              have hi := (List.getElem?_eq_some_iff.mp hq).1
              refine ⟨_, rfl, rfl, _, rfl, iteF ⟨v, rfl, x, rfl, v, x, _, q, 1 + i * (100 + 1), 100, rfl, fr.dq, dx.same s5, bq_rprod i bq, bq q (List.mem_of_getElem? hq), by omega, fun v2 H5 s6 fr2 => ?_⟩⟩
              refine ⟨v2, _, _, _, rfl, s5.trans s6, ?_⟩
              rw [take_prod hq]
              exact fr2.sooner s5
            · rintro σ H4 ⟨v, y0, y1, y2, rfl, s5, fr⟩
              rw [num_len hdn, List.take_length] at fr
              refine ⟨v, rfl, qq v H4 s5 ?_⟩
              rw [due_res hb zf]
              unfold resD
              rw [if_neg (by decide), if_pos rfl]
              exact fr.dq
        · have wl : ¬ way < 2 := fun z => e (decide_eq_true z)
          obtain ⟨x, y, dx, dy, rfl, rfl, hx, hy⟩ := two_of hd (h2 (by omega))
          have m := mn
          simp only [qsD, List.map_cons, List.map_nil, List.cons.injEq, and_true] at m
          obtain ⟨m1, m2⟩ := m
          have b1 : Bq 100 (vr dx) := bq _ (by simp [qsD])
          have b2 : Bq 100 (vr dy) := bq _ (by simp [qsD])
          have hs3 := s4.seq hs
          have hx3 : Dq K H3 x (ofR (vr dx)) := by
            rw [← m1]
            exact hx.same s4
          have hy3 : Dq K H3 y (ofR (vr dy)) := by
            rw [← m2]
            exact hy.same s4
          refine ⟨_, rfl, rfl, _, rfl, ?_⟩
          by_cases z2 : way = 2
          · subst z2
            rw [decide_eq_true rfl]
            refine iteT ⟨.ref l, rfl, l, _, 0, _, rfl, rfl, hs3, rfl, 1, rfl, .ref l, rfl, l, _, 1, _, rfl, rfl, hs3, rfl, ?_⟩
            refine ⟨.int (-1), y, ((-1 : Int) : Rat), vr dy, 1, 100, rfl, dq_int, hy3, bq_int (by decide) (by decide), b2, by decide, fun v1 H4 s5 fr1 => ?_⟩
            refine ⟨x, v1, vr dx, _, 100, 1 + 100, rfl, hx3.same s5, fr1.dq, b1, bq_mul (bq_int (by decide) (by decide)) b2, by decide, fun v2 H5 s6 fr2 => qq v2 H5 (s4.trans (s5.trans s6)) ?_⟩
            rw [due_res hb zero_two, res_two]
            have e9 : vr dx + ((-1 : Int) : Rat) * vr dy = vr dx - vr dy := by
              have : ((-1 : Int) : Rat) = -1 := rfl
              rw [this]
              grind
            rw [← e9]
            exact fr2.dq
          · rw [decide_eq_false (fun e => z2 (V.int.inj e))]
            refine iteF ⟨_, rfl, rfl, _, rfl, ?_⟩
            by_cases z3 : way = 3
            · subst z3
              rw [decide_eq_true rfl]
              refine iteT ⟨.ref l, rfl, l, _, 1, _, rfl, rfl, hs3, rfl, ofR (vr dy), .int 0, dp_num hy3, .int 0, shaped_num _, rfl, _, rfl, ?_⟩
              rw [eqv_zero]
              by_cases z : vr dy = ((0 : Int) : Rat)
              · rw [decide_eq_true z]
                refine iteT ⟨by show 3 ≤ sizeLine; decide, fun t nt => qq _ _ (s4.trans (same_upd nt)) ?_⟩
                rw [due_zero hb (by rw [zero_three]; exact decide_eq_true z)]
                exact .lst (.inl (.inl upd_same)) (.cons (.str _) (.cons (.int 0) (.cons (.bl true) .nil)))
              · rw [decide_eq_false z]
                refine iteF ⟨.ref l, rfl, l, _, 0, _, rfl, rfl, hs3, rfl, .ref l, rfl, l, _, 1, _, rfl, rfl, hs3, rfl, ?_⟩
                refine ⟨x, y, vr dx, vr dy, 100, 100, rfl, hx3, hy3, b1, b2, by decide, z, fun v2 H5 s6 fr2 => qq v2 H5 (s4.trans s6) ?_⟩
                rw [due_res hb (by rw [zero_three]; exact decide_eq_false z), res_three]
                exact fr2.dq
            · rw [decide_eq_false (fun e => z3 (V.int.inj e))]
              refine iteF ⟨.ref l, rfl, l, _, 0, _, rfl, rfl, hs3, rfl, x, vr dx, rfl, hx3, fun t1 H4 s5 g1 => ?_⟩
              refine ⟨.ref l, rfl, l, _, 1, _, rfl, rfl, s5.seq hs3, rfl, y, vr dy, rfl, hy3.same s5, fun t2 H5 s6 g2 => ⟨_, _, rfl, ?_⟩⟩
              have g1' := same_t s6 g1
              refine ⟨.ref t1, rfl, t1, _, 0, _, rfl, rfl, g1', rfl, .ref t2, rfl, t2, _, 1, _, rfl, rfl, g2, rfl, _, _, rfl, rfl, cm b1.1 (nd b2) (by decide), ?_⟩
              refine ⟨.ref t2, rfl, t2, _, 0, _, rfl, rfl, g2, rfl, .ref t1, rfl, t1, _, 1, _, rfl, rfl, g1', rfl, _, _, rfl, rfl, cm b2.1 (nd b1) (by decide), _, _, rfl, rfl, qq _ H5 (s4.trans (s5.trans s6)) ?_⟩
              have zf : zeroB way [dx, dy] = false := by
                unfold zeroB
                rw [decide_eq_false z3, Bool.false_and]
              rw [due_res hb zf, res_four (by omega) z2 z3]
              have en : decide ((vr dx).num * ((vr dy).den : Int) < (vr dy).num * ((vr dx).den : Int)) = decide (vr dx < vr dy) := by
                rw [Bool.eq_iff_iff, decide_eq_true_eq, decide_eq_true_eq]
                exact (Rat.lt_iff _ _).symm
              rw [← en]
              exact .bl _
end
end K13

set_option Elab.async false
set_option linter.all false
set_option maxRecDepth 100000
set_option maxHeartbeats 4000000
namespace K13
open PySem PySem.Spec PyProof.Rows L2 Lw
section
variable {P : Program} {w : World} {K : PySem.W.Frag} {mg : Str → Option Value} {base : Heap} {f : Addr} {fd : FuncData} {fD fW fP : Addr} {fdD fdW fdP : FuncData}
def sp_oddF (K : PySem.W.Frag) : Sp := fun vs H Q _ => ∃ a : Addr, vs = [.ref a] ∧ PotAt H a ∧ ∀ v d H', d ∈ odds → Fresh K H H' v d → PotAt H' a → Off a H H' → Q v H'
theorem ok_oddF (F : FnP K "_law_odd" s_odd f fd) (T : Tz mg) (O_draw : Own P w K mg base CX0 1 "_law_draw" ["_law_pot_here", "_law_many_here"] sp_draw fD fdD) : FnOk P w K mg base CX0 2 f fd ["_law_pot_here"] (sp_oddF K) := by
  refine F.ok sc_odd (fun vs H Q E h => ?_) (fun cdv A outer s H vs Q E hr h => ?_)
  · obtain ⟨a, rfl, _⟩ := h
    rfl
  · obtain ⟨a, rfl, hp, q⟩ := h
    refine ⟨_, PSs.nox (pss_cons (ps_set (i := 1) sc_odd.nd rfl (Or.inl rfl) (pe_lst (pa_cons pe_non (pa_cons pe_int (pa_cons pe_int (pa_cons pe_bl (pa_cons pe_bl (pa_cons pe_str (pa_cons pe_str (pa_cons pe_str (pa_cons (pe_tup pa_nil) (pa_cons (pe_lst pa_nil) (pa_cons pe_dnewK (pa_cons (pe_tup (pa_cons pe_int (pa_cons pe_int pa_nil))) (pa_cons (pe_tup (pa_cons pe_int (pa_cons pe_int pa_nil))) (pa_cons (pe_tup (pa_cons pe_int (pa_cons pe_int pa_nil))) (pa_cons (pe_tup (pa_cons pe_int (pa_cons pe_int pa_nil))) (pa_cons (pe_tup (pa_cons pe_int (pa_cons (pe_un un_neg pe_int) pa_nil))) pa_nil))))))))))))))))))
      (pss_cons (ps_set (i := 1) sc_odd.nd rfl (Or.inl rfl) (pe_op op_cat (pv 1) (pe_lst (pa_cons (pe_tup (pa_cons pe_bl (pa_cons pe_int pa_nil))) (pa_cons (pe_lst (pa_cons pe_int (pa_cons pe_int pa_nil))) (pa_cons (pe_tup (pa_cons pe_int (pa_cons pe_int (pa_cons pe_int pa_nil)))) (pa_cons (pe_tup (pa_cons pe_str (pa_cons pe_int pa_nil))) (pa_cons (pe_tup (pa_cons pe_int (pa_cons pe_int pa_nil))) (pa_cons (pe_tup (pa_cons (pe_un un_neg pe_int) (pa_cons pe_int pa_nil))) (pa_cons (pe_un un_neg pe_int) (pa_cons pe_str (pa_cons pe_str (pa_cons pe_str (pa_cons pe_str (pa_cons (pe_tup (pa_cons pe_str pa_nil)) pa_nil)))))))))))))))
      (pss_one (ps_ret (pe_ix ix_list (pe_op op_cat (pv 1) (pe_lst (pa_cons (pe_tup (pa_cons pe_int (pa_cons pe_bl pa_nil))) pa_nil))) (pe_own O_draw (hr.mono (by first | decide | omega)) (pa_cons (pv 0) (pa_cons pe_int pa_nil))) (fun _ _ => rfl)))))), ?_⟩
    refine s_lstF (ds := odds1) (K := K) ?m1 (by decide) fun v1 H1 t1 s1 l1 d1 n1 => ?_
    case m1 => exact .cons .non (.cons .int (.cons .int (.cons .bl (.cons .bl (.cons .str (.cons .str (.cons .str (.cons (.tup .nil) (.cons (.lst .nil) (.cons .dict (.cons (.tup (.cons .int (.cons .int .nil))) (.cons (.tup (.cons .int (.cons .int .nil))) (.cons (.tup (.cons .int (.cons .int .nil))) (.cons (.tup (.cons .int (.cons .int .nil))) (.cons (.tup (.cons .int (.cons .neg .nil))) .nil)))))))))))))))
    have p1 := (hp.same s1).new (o := .lst v1) n1
    refine e_catF (ds := odds2) (K := K) (t := t1) (xs := v1) ?m2 (by rw [l1]; decide) rfl upd_same fun v2 H2 t2 s2 l2 d2 n2 => ?_
    case m2 => exact .cons (.tup (.cons .bl (.cons .int .nil))) (.cons (.lst (.cons .int (.cons .int .nil))) (.cons (.tup (.cons .int (.cons .int (.cons .int .nil)))) (.cons (.tup (.cons .str (.cons .int .nil))) (.cons (.tup (.cons .int (.cons .int .nil))) (.cons (.tup (.cons .neg (.cons .int .nil))) (.cons .neg (.cons .str (.cons .str (.cons .str (.cons .str (.cons (.tup (.cons .str .nil)) .nil)))))))))))
    have p2 := (p1.same s2).new (o := .lst (v1 ++ v2)) n2
    refine e_catF (ds := odds3) (K := K) (t := t2) (xs := v1 ++ v2) ?m3 (by rw [List.length_append, l1, l2]; decide) rfl upd_same fun v3 H3 t3 s3 l3 d3 n3 => ?_
    case m3 => exact .cons (.tup (.cons .int (.cons .bl .nil))) .nil
    have p3 := (p2.same s3).new (o := .lst (v1 ++ v2 ++ v3)) n3
    have u1 : Same H1 (upd H1 t1 (.lst v1)) := same_upd n1
    have u2 : Same H2 (upd H2 t2 (.lst (v1 ++ v2))) := same_upd n2
    have sA : Same H1 H3 := ((u1.trans s2).trans u2).trans s3
    have sB : Same H2 H3 := u2.trans s3
    have sC : Same H H3 := s1.trans sA
    have sD : Same H3 (upd H3 t3 (.lst (v1 ++ v2 ++ v3))) := same_upd n3
    have dd : DqAll K (nw H H3) (v1 ++ v2 ++ v3) odds :=
      dq_app (dq_app (DqAll.same (nw_up sA) d1) (DqAll.same ((nw_down (s1.trans u1)).trans (nw_up sB)) d2)) (DqAll.same (nw_down (((s1.trans u1).trans s2).trans u2)) d3)
    have ll : (v1 ++ v2 ++ v3).length = 29 := by rw [List.length_append, List.length_append, l1, l2, l3]; rfl
    refine ⟨.ref a, rfl, a, 29, rfl, p3, by decide, by decide, fun r H4 r0 r1 p6 o6 => ?_⟩
    obtain ⟨v, hv, _, ev⟩ := at_in (xs := v1 ++ v2 ++ v3) r0 (by rw [ll]; exact r1)
    obtain ⟨d, hd, dv⟩ := dq_at dd v hv
    refine ⟨t3, _, r, v, rfl, rfl, .inl (.inl (o6.get upd_same ((p2.same s3).ne n3))), ev, ?_⟩
    exact q v d H4 hd (Dq.same ((nw_up sD).trans (nw_draw (pot_some hp) o6)) dv) p6 ((Off.same (sC.trans sD)).trans o6)
/-! ### mixed -/
theorem erase_perm {α : Type} : ∀ {zs : List α} {j : Nat} {y : α}, zs[j]? = some y → ([y] ++ zs.eraseIdx j).Perm zs
  | [], _, _, h => by simp at h
  | z :: zs, 0, y, h => by
    cases (show some z = some y from h)
    exact List.Perm.refl _
  | z :: zs, j + 1, y, h => by
    have ih := erase_perm (zs := zs) (j := j) (y := y) (by simpa using h)
    exact (List.Perm.swap z y _).trans (ih.cons z)
def sp_mixed (K : PySem.W.Frag) : Sp := fun vs H Q _ => ∃ (a l : Addr) (xs : List V), vs = [.ref a, .ref l] ∧ PotAt H a ∧ SqL K H l xs ∧ SqL K (off H a) l xs ∧ xs.length ≤ 4 ∧ ∀ m ys H', PotAt H' a → Off a H H' → H' m = some (.lst ys) → ys.Perm xs → Q (.ref m) H'
theorem ok_mixed (F : FnP K "_law_mixed" s_mixed f fd) (T : Tz mg) (O_draw : Own P w K mg base CX0 1 "_law_draw" ["_law_pot_here", "_law_many_here"] sp_draw fD fdD) : FnOk P w K mg base CX0 2 f fd ["_law_pot_here", "_law_given"] (sp_mixed K) := by
  refine F.ok sc_mixed (fun vs H Q E h => ?_) (fun cdv A outer s H vs Q E hr h => ?_)
  · obtain ⟨a, l, xs, rfl, _⟩ := h
    rfl
  · obtain ⟨a, l, xs, rfl, hp, hs, hs2, hl, qq⟩ := h
    refine ⟨_, PSs.nox (pss_cons (ps_set (i := 2) sc_mixed.nd rfl (Or.inr rfl) (pe_callTy call_list_of (by rfl) T.z_list (by decide +kernel) (pa_cons (pv 1) pa_nil)))
      (pss_one (ps_ret (pe_lc (own := [("_law_k", 3)]) (g := gName 3) (tt := tYes) (te := tBM K "list" rPopAt (tVar 2) (tCons (tCall sp_draw [] E0 (tCons (tVar 0) (tCons (tCB (rLenQ K) (tCons (tVar 2) tNil)) tNil))) tNil)) rfl sc_mixed.nd (pi_range1 (by rfl) T.z_range (pa_cons (pe_callB call_len_seq (by rfl) T.z_len (by decide +kernel) (pa_cons (pv 1) pa_nil)) pa_nil)) (blkOk_by (own := [("_law_k", 3)]) (N := N_mixed) (sc := defScope s_mixed) (by decide +kernel)) (fun _ _ _ _ _ => pg_name (i := 3) sc_mixed.nd rfl (Or.inl rfl)) (fun _ _ _ _ _ => pts_nil) (fun _ _ _ _ _ => (pe_bm PySem.F.plainAttrs_list PySem.F.slot_list_pop PySem.F.type_list_pop mt_popAt (pv 2) (pa_cons (pe_own O_draw (hr.mono (by first | decide | omega)) (pa_cons (pv 0) (pa_cons (pe_callB (show CallR _ _ (rLenQ K) from call_len_seq) (by rfl) T.z_len (by decide +kernel) (pa_cons (pv 2) pa_nil)) pa_nil))) pa_nil))))))), ?_⟩
    refine ⟨.ref l, rfl, l, xs, rfl, .inl hs, fun lf nf => ?_⟩
    have p1 := hp.new (o := .lst xs) nf
    have nfa : lf ≠ a := hp.ne nf
    refine ⟨.ref l, rfl, l, xs, rfl, .inl ((same_upd nf).seq hs), _, rfl, by omega, by omega, fun D nD => ?_⟩
    have nDa : D ≠ a := p1.ne nD
    have nDf : lf ≠ D := fun z => by
      rw [← z, upd_same] at nD
      cases nD
    have nHD : H D = none := (same_upd nf).free nD
    refine lc_range (lo := 0) (n := _) (fun i H2 => PotAt H2 a ∧ Off a H H2 ∧ ∃ ys zs, H2 D = some (.lst ys) ∧ H2 lf = some (.lst zs) ∧ (ys ++ zs).Perm xs ∧ ys.length = i) ⟨p1.put nDa, (Off.new nf).put nHD, [], xs, upd_same, ?_, List.Perm.refl _, rfl⟩ ?_ ?_
    · rw [upd_ne nDf, upd_same]
    · rintro i H2 hi ⟨p2, o2, ys, zs, e1, e2, pm, hl2⟩
      have hi2 : i < xs.length := by
        have : (xs.length : Int).toNat = xs.length := by omega
        omega
      have hz : ys.length + zs.length = xs.length := by
        rw [← List.length_append]
        exact pm.length_eq
      refine ⟨rfl, .ref lf, rfl, ?_, .ref a, rfl, .ref lf, rfl, lf, zs, rfl, .inl (.inl (.inl e2)), a, zs.length, rfl, p2, by omega, by omega, fun r H3 r0 r1 p3 o3 => ?_⟩
      · exact .inl ⟨rfl, zs, .inl (.inl e2)⟩
      obtain ⟨y, hy, _, ey⟩ := at_in (xs := zs) r0 r1
      obtain ⟨j, hj, hyj, hjl, _⟩ := atI_get ey
      refine ⟨lf, zs, r, j, y, rfl, rfl, o3.get e2 nfa, by omega, by omega, hj, hyj, ys, ?_, small1000 (by omega), ?_⟩
      · rw [upd_ne (Ne.symm nDf)]
        exact o3.get e1 nDa
      · refine ⟨(p3.put nfa).put nDa, ((o2.trans o3).put ?_).put nHD, ys ++ [y], zs.eraseIdx j, upd_same, ?_, ?_, by rw [List.length_append, hl2]; rfl⟩
        · exact nf
        · rw [upd_ne nDf, upd_same]
        · refine List.Perm.trans ?_ pm
          rw [List.append_assoc]
          refine List.Perm.append_left ys ?_
          exact erase_perm hyj
    · rintro H2 ⟨p2, o2, ys, zs, e1, e2, pm, hl2⟩
      refine qq D ys H2 p2 o2 e1 ?_
      have hz : ys.length + zs.length = xs.length := by
        rw [← List.length_append]
        exact pm.length_eq
      have z0 : zs = [] := List.eq_nil_of_length_eq_zero (by omega)
      rw [z0, List.append_nil] at pm
      exact pm
end
end K13

set_option Elab.async false
set_option linter.all false
set_option maxRecDepth 100000
set_option maxHeartbeats 4000000
namespace K13
open PySem PySem.Spec PyProof.Rows L2 Lw
section
variable {P : Program} {w : World} {K : PySem.W.Frag} {mg : Str → Option Value} {base : Heap} {f : Addr} {fd : FuncData} {fD fW fP : Addr} {fdD fdW fdP : FuncData}
/-! ### what is no list stays -/
def notL (o : HO) : Prop := ∀ ys, o ≠ .lst ys
def TupS (H H' : Hp) : Prop := ∀ b o, notL o → H b = some o → H' b = some o
theorem Same.tups {H H' : Hp} (s : Same H H') : TupS H H' := fun b o _ e => s b o e
theorem TupS.trans {H H1 H2 : Hp} (s : TupS H H1) (t : TupS H1 H2) : TupS H H2 := fun b o n e => t b o n (s b o n e)
theorem TupS.put {H : Hp} {l : Addr} {ys : List V} {o : HO} (h : H l = some (.lst ys)) : TupS H (upd H l o) := fun b u n e => by
  have : b ≠ l := by
    rintro rfl
    rw [h] at e
    exact n ys (Option.some.inj e).symm
  rw [upd_ne this]
  exact e
theorem TupS.off {H H' : Hp} {a : Addr} (p : PotAt H a) (o : Off a H H') : TupS H H' := fun b u n e => by
  obtain ⟨x, y, h, _⟩ := p
  have : b ≠ a := by
    rintro rfl
    rw [h] at e
    exact n _ (Option.some.inj e).symm
  exact o.get e this
theorem num_tups {H H' : Hp} {v : V} {q : Rat} (s : TupS H H') (h : Dq K H v (ofR q)) : Dq K H' v (ofR q) := by
  rcases ofR_cases h with ⟨rfl, _, e⟩ | ⟨t, rfl, hs, e, _⟩
  · rw [e]
    exact .int _
  · rw [e]
    refine .tup ?_ (.cons (.int _) (.cons (.int _) .nil))
    rcases hs with (h | ⟨o, h⟩) | h
    · exact .inl (.inl (s _ _ (fun ys z => nomatch z) h))
    · exact .inl (.inr ⟨o, s _ _ (fun ys z => nomatch z) h⟩)
    · exact .inr h
theorem nums_tups {H H' : Hp} : ∀ {xs : List V} {qs : List Rat}, TupS H H' → DqAll K H xs (qs.map ofR) → DqAll K H' xs (qs.map ofR)
  | [], [], _, _ => .nil
  | [], _ :: _, _, h => nomatch h
  | _ :: _, [], _, h => nomatch h
  | x :: xs, q :: qs, s, h => by
    cases h with
    | cons h1 h2 => exact .cons (num_tups s h1) (nums_tups s h2)
theorem pot_ex {H : Hp} {a : Addr} (p : PotAt H a) : ∃ o, H a = some o := by
  obtain ⟨x, y, e, _⟩ := p
  exact ⟨_, e⟩
theorem neg_mul (r : Rat) : ((-1 : Int) : Rat) * r = -r := by
  have : ((-1 : Int) : Rat) = -1 := rfl
  rw [this]
  grind
theorem last_num {H : Hp} {xs : List V} {qs : List Rat} (d : DqAll K H xs (qs.map ofR)) (b : ∀ q ∈ qs, Bq 100 q) (e : (!xs.isEmpty) = true) : ∃ x r2, atI xs (-1) = some x ∧ Dq K H x (ofR r2) ∧ Bq 100 r2 := by
  have hne : xs ≠ [] := fun z => by
    rw [z] at e
    cases e
  have hx : xs[xs.length - 1]? = some (xs.getLast hne) := by
    rw [List.getLast_eq_getElem]
    exact List.getElem?_eq_getElem _
  obtain ⟨q, hq, dx⟩ := num_get d hx
  refine ⟨_, q, ?_, dx, b q (List.mem_of_getElem? hq)⟩
  have := atI_last xs.dropLast (xs.getLast hne)
  rw [List.dropLast_concat_getLast hne] at this
  exact this
/-! ### drawn -/
def sp_drawn (K : PySem.W.Frag) : Sp := fun vs H Q _ => ∃ (a : Addr) (n : Int), vs = [.ref a, .int n] ∧ PotAt H a ∧ 0 ≤ n ∧ n ≤ 4 ∧
  ∀ (l : Addr) (xs : List V) (qs : List Rat) (H' : Hp), PotAt H' a → Off a H H' → l ≠ a → H l = none → H' l = some (.lst xs) → DqAll K H' xs (qs.map ofR) → ((qs.length : Nat) : Int) = n → (∀ q ∈ qs, Bq 100 q) → Q (.ref l) H'
theorem ok_drawn (F : FnP K "_law_drawn" s_drawn f fd) (T : Tz mg) (O_draw : Own P w K mg base CX0 1 "_law_draw" ["_law_pot_here", "_law_many_here"] sp_draw fD fdD) (O_worth : Own P w K mg base CX0 3 "_law_worth" ["_law_pot_here"] (sp_worth K) fW fdW)
    (O_product : Own P w K mg base CX0 3 "_law_product" ["_law_a", "_law_b"] (sp_two K fun q r => q * r) fP fdP) : FnOk P w K mg base CX0 4 f fd ["_law_pot_here", "_law_many_here"] (sp_drawn K) := by
  refine F.ok sc_drawn (fun vs H Q E h => ?_) (fun cdv A outer s H vs Q E hr h => ?_)
  · obtain ⟨a, n, rfl, _⟩ := h
    rfl
  · obtain ⟨a, n, rfl, hp, n0, n4, qq⟩ := h
    refine ⟨_, PSs.nox (pss_cons (ps_set (i := 2) sc_drawn.nd rfl (Or.inl rfl) (pe_lst pa_nil))
      (pss_cons (ps_for PassesOwn.never rfl (pi_range1 (by rfl) T.z_range (pa_cons (pv 1) pa_nil)) (pg_name (i := 3) sc_drawn.nd rfl (Or.inl rfl)) (pss_cons (ps_set (i := 4) sc_drawn.nd rfl (Or.inl rfl) (pe_lst (pa_cons (pe_own O_worth (hr.mono (by first | decide | omega)) (pa_cons (pv 0) pa_nil)) (pa_cons pe_int (pa_cons (pe_ifExp (pt_cmpR (op_neE hr.units) (pv 2) (pe_lst pa_nil) (nomark _)) (pe_ix ix_list (pv 2) (pe_un un_neg pe_int) (fun _ _ => rfl)) pe_int) pa_nil)))))
      (pss_cons (ps_expr (pe_bm PySem.F.plainAttrs_list PySem.F.slot_list_append PySem.F.type_list_append mt_append (pv 4) (pa_cons (pe_own O_product (hr.mono (by first | decide | omega)) (pa_cons (pe_un un_neg pe_int) (pa_cons (pe_ix ix_list (pv 4) pe_int (fun _ _ => rfl)) pa_nil))) pa_nil)))
      (pss_one (ps_expr (pe_bm PySem.F.plainAttrs_list PySem.F.slot_list_append PySem.F.type_list_append mt_append (pv 2) (pa_cons (pe_ix ix_list (pv 4) (pe_ix ix_list (pe_lst (pa_cons pe_int (pa_cons pe_int (pa_cons pe_int (pa_cons pe_int (pa_cons pe_int (pa_cons pe_int pa_nil))))))) (pe_own O_draw (hr.mono (by first | decide | omega)) (pa_cons (pv 0) (pa_cons pe_int pa_nil))) (fun _ _ => rfl)) (fun _ _ => rfl)) pa_nil)))))))
      (pss_one (ps_ret (pv 2))))), ?_⟩
    refine ⟨Nat.zero_le _, fun l nl => ?_⟩
    have la : l ≠ a := hp.ne nl
    refine ⟨.int n, rfl, n, rfl, by omega, by omega, ?_⟩
    refine for_range (lo := 0) (n := n.toNat) (fun i σ H2 => ∃ (xs : List V) (qs : List Rat) (y3 y4 : Option V), σ = [some (.ref a), some (.int n), some (.ref l), y3, y4] ∧ PotAt H2 a ∧ Off a H H2 ∧ H2 l = some (.lst xs) ∧ DqAll K H2 xs (qs.map ofR) ∧ qs.length = i ∧ ∀ q ∈ qs, Bq 100 q)
      ⟨[], [], _, _, rfl, hp.new nl, Off.new nl, upd_same, .nil, rfl, fun q hq => nomatch hq⟩ ?_ ?_
    · rintro i σ H2 hi ⟨xs, qs, y3, y4, rfl, p2, o2, e2, d2, hl2, b2⟩
      refine ⟨.ref a, rfl, a, rfl, p2, fun v1 r1' H3 b3 d3 p3 o3 => ?_⟩
      refine ⟨.ref l, rfl, Nat.zero_le _, fun m nm => ?_⟩
      have e3 := o3.get e2 la
      have e3' : (upd H3 m (.lst [])) l = some (.lst xs) := by
        rw [upd_ne (ne_of_none e3 nm)]
        exact e3
      refine ⟨l, m, xs, rfl, rfl, .inl (.inl e3'), .inl (.inl upd_same), _, rfl, ?_⟩
      refine ite2 (fun e => ?_) (fun e => ?_)
      · obtain ⟨x, r2, ex, dx0, bx⟩ : ∃ x r2, atI xs (-1) = some x ∧ Dq K H2 x (ofR r2) ∧ Bq 100 r2 := by
          exact last_num d2 b2 e
        have dx : Dq K (upd H3 m (.lst [])) x (ofR r2) := num_tups ((TupS.off p2 o3).trans (Same.tups (same_upd nm))) dx0
        refine ⟨.ref l, rfl, 1, rfl, l, xs, -1, x, rfl, rfl, .inl (.inl e3'), ex, ?_⟩
        refine ⟨by show 3 ≤ sizeLine; decide, fun t nt => ?_⟩
        have e5l : (upd (upd H3 m (.lst [])) t (.lst [v1, .int 0, x])) l = some (.lst xs) := by
          rw [upd_ne (ne_of_none e3' nt)]
          exact e3'
        have e5t : (upd (upd H3 m (.lst [])) t (.lst [v1, .int 0, x])) t = some (.lst [v1, .int 0, x]) := upd_same
        have s5 : Same H3 (upd (upd H3 m (.lst [])) t (.lst [v1, .int 0, x])) := (same_upd nm).trans (same_upd nt)
        have p5 := p3.same s5
        have ta : t ≠ a := (p3.new (o := .lst []) nm).ne nt
        have tl : t ≠ l := (ne_of_none e3' nt).symm
        have nHt : H t = none := (o2.trans o3).free ((same_upd nm).free nt) (pot_ex hp) ta
        have dx5 := Dq.same (same_upd (o := .lst [v1, .int 0, x]) nt) dx
        revert e5l e5t s5 p5 dx5
        generalize upd (upd H3 m (.lst [])) t (.lst [v1, .int 0, x]) = H5
        intro e5l e5t s5 p5 dx5
        refine ⟨.ref t, rfl, .inl ⟨rfl, _, .inl (.inl e5t)⟩, 1, rfl, .ref t, rfl, t, _, 2, _, rfl, rfl, .inl (.inl e5t), rfl, ?_⟩
        refine ⟨.int (-1), x, ((-1 : Int) : Rat), r2, 1, 100, rfl, dq_int, dx5, bq_int (by decide) (by decide), bx, by decide, fun v2 H6 s6 fr6 => ?_⟩
        refine ⟨t, [v1, .int 0, x], v2, rfl, rfl, s6 _ _ e5t, by show 3 < sizeLine; decide, ?_⟩
        have e7l : (upd H6 t (.lst ([v1, .int 0, x] ++ [v2]))) l = some (.lst xs) := by
          rw [upd_ne (Ne.symm tl)]
          exact s6 _ _ e5l
        have e7t : (upd H6 t (.lst ([v1, .int 0, x] ++ [v2]))) t = some (.lst [v1, .int 0, x, v2]) := upd_same
        have p7 : PotAt (upd H6 t (.lst ([v1, .int 0, x] ++ [v2]))) a := (p5.same s6).put ta
        have u7 : TupS H6 (upd H6 t (.lst ([v1, .int 0, x] ++ [v2]))) := TupS.put (s6 _ _ e5t)
        have o7 : Off a H (upd H6 t (.lst ([v1, .int 0, x] ++ [v2]))) := (((o2.trans o3).trans (Off.same s5)).trans (Off.same s6)).put nHt
        have dv2 := num_tups u7 fr6.dq
        have dx7 := num_tups u7 (dx5.same s6)
        have dv1 := num_tups u7 (((Dq.same off_same d3).same s5).same s6)
        have dl7 := nums_tups u7 (nums_tups ((TupS.off p2 o3).trans (Same.tups (s5.trans s6))) d2)
        revert e7l e7t p7 u7 o7 dv2 dx7 dv1 dl7
        generalize upd H6 t (.lst ([v1, .int 0, x] ++ [v2])) = H7
        intro e7l e7t p7 u7 o7 dv2 dx7 dv1 dl7
        refine ⟨.ref l, rfl, .inl ⟨rfl, xs, .inl (.inl e7l)⟩, .ref t, rfl, by show 6 ≤ sizeLine; decide, fun ix nix => ?_⟩
        refine ⟨.ref a, rfl, a, 6, rfl, p7.new nix, by decide, by decide, fun r H9 r0 r1 p9 o9 => ?_⟩
        have ixa : ix ≠ a := p7.ne nix
        have s8 : Same H7 (upd H7 ix (.lst [.int 0, .int 0, .int 0, .int 1, .int 2, .int 3])) := same_upd nix
        obtain ⟨vi, hvi, _, evi⟩ := at_in (xs := ([.int 0, .int 0, .int 0, .int 1, .int 2, .int 3] : List V)) r0 r1
        obtain ⟨k, rfl, k0, k4⟩ : ∃ k : Int, vi = .int k ∧ 0 ≤ k ∧ k < 4 := by
          simp only [List.mem_cons, List.not_mem_nil, or_false] at hvi
          rcases hvi with rfl | rfl | rfl | rfl | rfl | rfl
          all_goals exact ⟨_, rfl, by decide, by decide⟩
        obtain ⟨v, hv, _, ev⟩ := at_in (xs := ([v1, .int 0, x, v2] : List V)) k0 k4
        have u9 : TupS H7 H9 := (Same.tups s8).trans (TupS.off (p7.new nix) o9)
        obtain ⟨qv, dvq, bvq⟩ : ∃ qv, Dq K H9 v (ofR qv) ∧ Bq 100 qv := by
          simp only [List.mem_cons, List.not_mem_nil, or_false] at hv
          rcases hv with rfl | rfl | rfl | rfl
          · exact ⟨r1', num_tups u9 dv1, b3.mono (by decide)⟩
          · exact ⟨((0 : Int) : Rat), dq_int, bq_int (by decide) (by decide)⟩
          · exact ⟨r2, num_tups u9 dx7, bx⟩
          · refine ⟨_, num_tups u9 dv2, ?_⟩
            show Bq 100 (((-1 : Int) : Rat) * _)
            rw [neg_mul]
            exact bq_neg bx
        have e9l : H9 l = some (.lst xs) := o9.get (s8 _ _ e7l) la
        refine ⟨ix, _, r, _, rfl, rfl, .inl (.inl (o9.get upd_same ixa)), evi, t, _, k, v, rfl, rfl, .inl (.inl (o9.get (s8 _ _ e7t) ta)), ev, ?_⟩
        refine ⟨l, xs, v, rfl, rfl, e9l, small1000 (by rw [num_len d2]; omega), ?_⟩
        refine ⟨xs ++ [v], qs ++ [qv], _, _, rfl, p9.put la, ((o7.trans (Off.same s8)).trans o9).put nl, upd_same, ?_, by rw [List.length_append, hl2]; rfl, fun q hq => ?_⟩
        · rw [List.map_append]
          exact dqall_snoc (nums_tups (u9.trans (TupS.put e9l)) dl7) (num_tups (TupS.put e9l) dvq)
        · rcases List.mem_append.mp hq with hq | hq
          · exact b2 q hq
          · cases List.mem_singleton.mp hq
            exact bvq

      · refine ⟨by show 3 ≤ sizeLine; decide, fun t nt => ?_⟩
        have e5l : (upd (upd H3 m (.lst [])) t (.lst [v1, .int 0, .int 1])) l = some (.lst xs) := by
          rw [upd_ne (ne_of_none e3' nt)]
          exact e3'
        have e5t : (upd (upd H3 m (.lst [])) t (.lst [v1, .int 0, .int 1])) t = some (.lst [v1, .int 0, .int 1]) := upd_same
        have s5 : Same H3 (upd (upd H3 m (.lst [])) t (.lst [v1, .int 0, .int 1])) := (same_upd nm).trans (same_upd nt)
        have p5 := p3.same s5
        have ta : t ≠ a := (p3.new (o := .lst []) nm).ne nt
        have tl : t ≠ l := (ne_of_none e3' nt).symm
        have nHt : H t = none := (o2.trans o3).free ((same_upd nm).free nt) (pot_ex hp) ta
        have dx5 := Dq.same (same_upd (o := .lst [v1, .int 0, .int 1]) nt) (dq_int (K := K) (H := upd H3 m (.lst [])) (i := 1))
        revert e5l e5t s5 p5 dx5
        generalize upd (upd H3 m (.lst [])) t (.lst [v1, .int 0, .int 1]) = H5
        intro e5l e5t s5 p5 dx5
        refine ⟨.ref t, rfl, .inl ⟨rfl, _, .inl (.inl e5t)⟩, 1, rfl, .ref t, rfl, t, _, 2, _, rfl, rfl, .inl (.inl e5t), rfl, ?_⟩
        refine ⟨.int (-1), .int 1, ((-1 : Int) : Rat), ((1 : Int) : Rat), 1, 100, rfl, dq_int, dx5, bq_int (by decide) (by decide), (bq_int (k := 100) (i := 1) (by decide +kernel) (by decide)), by decide, fun v2 H6 s6 fr6 => ?_⟩
        refine ⟨t, [v1, .int 0, .int 1], v2, rfl, rfl, s6 _ _ e5t, by show 3 < sizeLine; decide, ?_⟩
        have e7l : (upd H6 t (.lst ([v1, .int 0, .int 1] ++ [v2]))) l = some (.lst xs) := by
          rw [upd_ne (Ne.symm tl)]
          exact s6 _ _ e5l
        have e7t : (upd H6 t (.lst ([v1, .int 0, .int 1] ++ [v2]))) t = some (.lst [v1, .int 0, .int 1, v2]) := upd_same
        have p7 : PotAt (upd H6 t (.lst ([v1, .int 0, .int 1] ++ [v2]))) a := (p5.same s6).put ta
        have u7 : TupS H6 (upd H6 t (.lst ([v1, .int 0, .int 1] ++ [v2]))) := TupS.put (s6 _ _ e5t)
        have o7 : Off a H (upd H6 t (.lst ([v1, .int 0, .int 1] ++ [v2]))) := (((o2.trans o3).trans (Off.same s5)).trans (Off.same s6)).put nHt
        have dv2 := num_tups u7 fr6.dq
        have dx7 := num_tups u7 (dx5.same s6)
        have dv1 := num_tups u7 (((Dq.same off_same d3).same s5).same s6)
        have dl7 := nums_tups u7 (nums_tups ((TupS.off p2 o3).trans (Same.tups (s5.trans s6))) d2)
        revert e7l e7t p7 u7 o7 dv2 dx7 dv1 dl7
        generalize upd H6 t (.lst ([v1, .int 0, .int 1] ++ [v2])) = H7
        intro e7l e7t p7 u7 o7 dv2 dx7 dv1 dl7
        refine ⟨.ref l, rfl, .inl ⟨rfl, xs, .inl (.inl e7l)⟩, .ref t, rfl, by show 6 ≤ sizeLine; decide, fun ix nix => ?_⟩
        refine ⟨.ref a, rfl, a, 6, rfl, p7.new nix, by decide, by decide, fun r H9 r0 r1 p9 o9 => ?_⟩
        have ixa : ix ≠ a := p7.ne nix
        have s8 : Same H7 (upd H7 ix (.lst [.int 0, .int 0, .int 0, .int 1, .int 2, .int 3])) := same_upd nix
        obtain ⟨vi, hvi, _, evi⟩ := at_in (xs := ([.int 0, .int 0, .int 0, .int 1, .int 2, .int 3] : List V)) r0 r1
        obtain ⟨k, rfl, k0, k4⟩ : ∃ k : Int, vi = .int k ∧ 0 ≤ k ∧ k < 4 := by
          simp only [List.mem_cons, List.not_mem_nil, or_false] at hvi
          rcases hvi with rfl | rfl | rfl | rfl | rfl | rfl
          all_goals exact ⟨_, rfl, by decide, by decide⟩
        obtain ⟨v, hv, _, ev⟩ := at_in (xs := ([v1, .int 0, .int 1, v2] : List V)) k0 k4
        have u9 : TupS H7 H9 := (Same.tups s8).trans (TupS.off (p7.new nix) o9)
        obtain ⟨qv, dvq, bvq⟩ : ∃ qv, Dq K H9 v (ofR qv) ∧ Bq 100 qv := by
          simp only [List.mem_cons, List.not_mem_nil, or_false] at hv
          rcases hv with rfl | rfl | rfl | rfl
          · exact ⟨r1', num_tups u9 dv1, b3.mono (by decide)⟩
          · exact ⟨((0 : Int) : Rat), dq_int, bq_int (by decide) (by decide)⟩
          · exact ⟨((1 : Int) : Rat), num_tups u9 dx7, (bq_int (k := 100) (i := 1) (by decide +kernel) (by decide))⟩
          · refine ⟨_, num_tups u9 dv2, ?_⟩
            show Bq 100 (((-1 : Int) : Rat) * _)
            rw [neg_mul]
            exact bq_neg (bq_int (k := 100) (i := 1) (by decide +kernel) (by decide))
        have e9l : H9 l = some (.lst xs) := o9.get (s8 _ _ e7l) la
        refine ⟨ix, _, r, _, rfl, rfl, .inl (.inl (o9.get upd_same ixa)), evi, t, _, k, v, rfl, rfl, .inl (.inl (o9.get (s8 _ _ e7t) ta)), ev, ?_⟩
        refine ⟨l, xs, v, rfl, rfl, e9l, small1000 (by rw [num_len d2]; omega), ?_⟩
        refine ⟨xs ++ [v], qs ++ [qv], _, _, rfl, p9.put la, ((o7.trans (Off.same s8)).trans o9).put nl, upd_same, ?_, by rw [List.length_append, hl2]; rfl, fun q hq => ?_⟩
        · rw [List.map_append]
          exact dqall_snoc (nums_tups (u9.trans (TupS.put e9l)) dl7) (num_tups (TupS.put e9l) dvq)
        · rcases List.mem_append.mp hq with hq | hq
          · exact b2 q hq
          · cases List.mem_singleton.mp hq
            exact bvq

    · rintro σ H2 ⟨xs, qs, y3, y4, rfl, p2, o2, e2, d2, hl2, b2⟩
      exact ⟨.ref l, rfl, qq l xs qs H2 p2 o2 la nl e2 d2 (by omega) b2⟩
end
end K13

set_option Elab.async false
set_option linter.all false
set_option maxRecDepth 100000
set_option maxHeartbeats 4000000
namespace K13
open PySem PySem.Spec PyProof.Rows L2 Lw
/-! ### what is shown -/
def tl (ts : List Str) : Nat := (ts.map fun t => t.length + 2).sum
theorem textFrom_le : ∀ (ts : List Str) (k : Nat) (acc : Str), (textFrom k acc ts).length ≤ acc.length + tl ts
  | [], k, acc => by
    show acc.length ≤ acc.length + _
    omega
  | t :: r, k, acc => by
    have ih := textFrom_le r (k + 1) (acc ++ (if k > 0 then ", " else "" : String) ++ t)
    have e : (acc ++ (if k > 0 then ", " else "" : String) ++ t).length ≤ acc.length + 2 + t.length := by
      rw [strLen_append, strLen_append]
      have : ((if k > 0 then ", " else "" : String) : Str).length ≤ 2 := by
        split <;> decide
      omega
    have e2 : tl (t :: r) = t.length + 2 + tl r := by
      unfold tl
      rw [List.map_cons, List.sum_cons]
    show (textFrom (k + 1) (acc ++ (if k > 0 then ", " else "" : String) ++ t) r).length ≤ _
    omega
theorem len_list (ts : List Str) : (listText ts).length ≤ 2 + tl ts := by
  have h := textFrom_le ts 0 "["
  unfold listText
  rw [strLen_append]
  have e1 : ("[" : Str).length = 1 := rfl
  have e2 : ("]" : Str).length = 1 := rfl
  omega
theorem len_tup2 (a b : Str) : (tupleText [a, b]).length = a.length + b.length + 4 := by
  show (("(" : Str) ++ (a ++ (", " : String) ++ b) ++ (")" : String)).length = _
  simp only [strLen_append]
  show 1 + (a.length + 2 + b.length) + 1 = _
  omega
theorem shown_all : ∀ (ds : List PyData), PyData.shownAll ds = ds.map PyData.shown
  | [] => rfl
  | d :: ds => by
    show d.shown :: PyData.shownAll ds = _
    rw [shown_all ds]
    rfl
theorem small_list {n : Nat} : ∀ {ds : List PyData}, (∀ d ∈ ds, Small n d ∧ d.depth ≤ 8) → Small (2 + ds.length * (n + 2)) (.list ds) := by
  intro ds h
  have h1 : ∀ ds : List PyData, (∀ d ∈ ds, Small n d ∧ d.depth ≤ 8) → PyData.showableAll ds = true ∧ tl (ds.map PyData.shown) ≤ ds.length * (n + 2) ∧ PyData.depthAll ds ≤ 8 := by
    intro ds
    induction ds with
    | nil => exact fun _ => ⟨rfl, Nat.zero_le _, Nat.zero_le _⟩
    | cons d ds ih =>
      intro h
      obtain ⟨i1, i2, i3⟩ := ih fun x hx => h x (List.mem_cons_of_mem _ hx)
      obtain ⟨j1, j2⟩ := h d List.mem_cons_self
      refine ⟨?_, ?_, ?_⟩
      · show (d.showable && PyData.showableAll ds) = true
        rw [j1.sh, i1]
        rfl
      · have e : tl ((d :: ds).map PyData.shown) = d.shown.length + 2 + tl (ds.map PyData.shown) := by
          unfold tl
          rw [List.map_cons, List.map_cons, List.sum_cons]
        have := j1.ln
        rw [e, List.length_cons, Nat.succ_mul]
        omega
      · simp only [PyData.depthAll]
        omega
  obtain ⟨a, b, c⟩ := h1 ds h
  refine ⟨a, ?_, ?_⟩
  · show (listText (PyData.shownAll ds)).length ≤ _
    rw [shown_all]
    have := len_list (ds.map PyData.shown)
    omega
  · simp only [PyData.depth]
    omega
theorem small_tup2 {a b : PyData} {n : Nat} (h1 : Small n a) (h2 : Small n b) (d1 : a.depth ≤ 8) (d2 : b.depth ≤ 8) : Small (2 * n + 4) (.tuple [a, b]) := by
  refine ⟨?_, ?_, ?_⟩
  · have e1 := h1.sh
    have e2 := h2.sh
    simp [PyData.showable, PyData.showableAll, e1, e2]
  · show (tupleText [a.shown, b.shown]).length ≤ _
    rw [len_tup2]
    have e1 := h1.ln
    have e2 := h2.ln
    omega
  · simp only [PyData.depth, PyData.depthAll]
    omega
theorem small_num {q : Rat} (h : Bq 1000 q) : Small 5000 (ofR q) := by
  unfold ofR
  split
  · exact (small_int h.1).mono (by decide)
  · exact (small_tup2 (small_int h.1) (small_int (i := (q.den : Int)) h.2) (by simp [PyData.depth]) (by simp [PyData.depth])).mono (by decide)
/-- data that the law hands about, and shows -/
structure OkS (d : PyData) : Prop where
  ok : Okd d
  sm : Small 5000 d
theorem vr_ofR (q : Rat) : vr (ofR q) = q := by
  unfold ofR
  split
  · rename_i h
    show (q.num : Rat) = q
    have e := q_eq q
    rw [h] at e
    conv => rhs; rw [e]
    have : (((1 : Nat) : Int) : Rat) = 1 := rfl
    rw [this]
    grind
  · show (q.num : Rat) / ((q.den : Int) : Rat) = q
    exact (q_eq q).symm
theorem oks_num {q : Rat} (h : Bq 100 q) : OkS (ofR q) := ⟨⟨hd_num q, fun _ => by rw [vr_ofR]; exact h⟩, small_num (h.mono (by decide))⟩
theorem odds_ok : ∀ d ∈ odds, OkS d := by
  intro d hd
  simp only [odds, odds1, odds2, odds3, List.cons_append, List.nil_append, List.mem_cons, List.not_mem_nil, or_false] at hd
  rcases hd with rfl | rfl | rfl | rfl | rfl | rfl | rfl | rfl | rfl | rfl | rfl | rfl | rfl | rfl | rfl | rfl | rfl | rfl | rfl | rfl | rfl | rfl | rfl | rfl | rfl | rfl | rfl | rfl | rfl
  all_goals
    refine ⟨⟨⟨by decide +kernel, by decide +kernel⟩, fun h => ?_⟩, ⟨by decide +kernel, by decide +kernel, by decide +kernel⟩⟩
    first
      | exact absurd h (by decide +kernel)
      | exact bq_int (by decide +kernel) (by decide)
      | exact bq_low (by decide) (by decide +kernel) (by decide +kernel)
theorem q_bnd {ds : List PyData} (h : badD ds = none) (ok : ∀ d ∈ ds, OkS d) : Bq 100 (q0 ds) ∧ Bq 100 (q1 ds) := by
  have b := bq_all h fun d hd => (ok d hd).ok
  have z : Bq 100 0 := bq_int (i := 0) (by decide) (by decide)
  unfold q0 q1
  constructor
  · rw [List.getD_eq_getElem?_getD]
    cases e : (qsD ds)[0]? with
    | none => exact z
    | some q => exact b q (List.mem_of_getElem? e)
  · rw [List.getD_eq_getElem?_getD]
    cases e : (qsD ds)[1]? with
    | none => exact z
    | some q => exact b q (List.mem_of_getElem? e)
theorem small_due {way : Int} {ds : List PyData} (hl : ds.length ≤ 4) (ok : ∀ d ∈ ds, OkS d) (hz : badD ds = none → zeroB way ds = false → way = 3 → q1 ds ≠ 0) : Small 20000 (dueD way ds) := by
  have s1 : Small 5000 (.str "refused") := ⟨by decide +kernel, by decide +kernel, by decide +kernel⟩
  have s2 : Small 5000 (.bool true) := ⟨by decide +kernel, by decide +kernel, by decide +kernel⟩
  cases hb : badD ds with
  | some d =>
    rw [due_bad hb]
    have hd := ok d (List.mem_of_find?_eq_some hb)
    have dp := hd.ok.hd.dp
    refine (small_list (n := 5000) fun x hx => ?_).mono (by show 2 + 3 * 5002 ≤ 20000; decide)
    simp only [List.mem_cons, List.not_mem_nil, or_false] at hx
    rcases hx with rfl | rfl | rfl
    · exact ⟨s1, by decide +kernel⟩
    · exact ⟨hd.sm, by omega⟩
    · exact ⟨s2, by decide +kernel⟩
  | none =>
    by_cases z : zeroB way ds = true
    · rw [due_zero hb z]
      exact ⟨by decide +kernel, by decide +kernel, by decide +kernel⟩
    · have z0 := Bool.eq_false_iff.mpr z
      rw [due_res hb z0]
      have b := bq_all hb fun d hd => (ok d hd).ok
      obtain ⟨b0, b1⟩ := q_bnd hb ok
      have ql : (qsD ds).length = ds.length := by unfold qsD; rw [List.length_map]
      unfold resD
      split
      · have := bq_rsum (k := 100) (qs := qsD ds) (qsD ds).length b
        rw [List.take_length] at this
        exact (small_num (this.mono (by rw [ql]; omega))).mono (by decide)
      · split
        · have := bq_rprod (k := 100) (qs := qsD ds) (qsD ds).length b
          rw [List.take_length] at this
          exact (small_num (this.mono (by rw [ql]; omega))).mono (by decide)
        · split
          · have e : q0 ds - q1 ds = q0 ds + -q1 ds := by grind
            rw [e]
            exact (small_num ((bq_add b0 (bq_neg b1)).mono (by decide))).mono (by decide)
          · split
            · rename_i h3
              rw [Rat.div_def]
              exact (small_num ((bq_mul b0 (bq_inv b1 (hz hb z0 h3))).mono (by decide))).mono (by decide)
            · refine (?_ : Small 5 _).mono (by decide)
              refine ⟨rfl, len_bool _, ?_⟩
              simp [PyData.depth]
theorem zero_ne {way : Int} {ds : List PyData} (h : zeroB way ds = false) (h3 : way = 3) : q1 ds ≠ 0 := fun z => by
  unfold zeroB at h
  rw [decide_eq_true h3, decide_eq_true z] at h
  cases h
theorem Small.line {n : Nat} {d : PyData} (h : Small n d) (e : n ≤ 100000) : d.showable = true ∧ d.shown.length ≤ sizeLine ∧ d.depth ≤ 60 :=
  ⟨h.sh, Nat.le_trans h.ln (Nat.le_trans e (by decide)), Nat.le_trans h.dp (by decide)⟩
theorem perm_dq {K : PySem.W.Frag} {H : Hp} {xs ys : List V} (p : ys.Perm xs) : ∀ {ds : List PyData}, DqAll K H xs ds → ∃ es, DqAll K H ys es ∧ es.Perm ds := by
  induction p with
  | nil => exact fun h => ⟨_, h, List.Perm.refl _⟩
  | cons x _ ih =>
    intro ds h
    cases h with
    | cons h1 h2 =>
      obtain ⟨es, h3, h4⟩ := ih h2
      exact ⟨_, .cons h1 h3, h4.cons _⟩
  | swap x y l =>
    intro ds h
    cases h with
    | cons h1 h2 =>
      cases h2 with
      | cons h3 h4 => exact ⟨_, .cons h3 (.cons h1 h4), List.Perm.swap _ _ _⟩
  | trans _ _ i1 i2 =>
    intro ds h
    obtain ⟨es, h3, h4⟩ := i2 h
    obtain ⟨fs, h5, h6⟩ := i1 h3
    exact ⟨fs, h5, h6.trans h4⟩
theorem due_perm {way : Int} {ds es : List PyData} (p : es.Perm ds) (h : badD ds = none) (w0 : 0 ≤ way) (w2 : way < 2) : dueD way es = dueD way ds := by
  have hb : badD es = none := bad_none fun x hx => by
    unfold badD at h
    rw [List.find?_eq_none] at h
    have := h x (p.mem_iff.mp hx)
    simpa using this
  have zf : ∀ ds, zeroB way ds = false := fun ds => by
    unfold zeroB
    rw [decide_eq_false (by omega), Bool.false_and]
  rw [due_res hb (zf _), due_res h (zf _)]
  have pm : (qsD es).Perm (qsD ds) := p.map vr
  unfold resD
  by_cases z : way = 0
  · rw [if_pos z, if_pos z, rsum_perm pm]
  · rw [if_neg z, if_neg z, if_pos (by omega), if_pos (by omega), rprod_perm pm]
theorem due_num {way : Int} {ds : List PyData} (h : badD ds = none) (w0 : 0 ≤ way) (w2 : way < 2) : ∃ q, dueD way ds = ofR q := by
  rw [due_res h (by unfold zeroB; rw [decide_eq_false (by omega), Bool.false_and])]
  unfold resD
  by_cases z : way = 0
  · rw [if_pos z]
    exact ⟨_, rfl⟩
  · rw [if_neg z, if_pos (by omega)]
    exact ⟨_, rfl⟩
theorem dqall_set {K : PySem.W.Frag} {H : Hp} {v : V} {d : PyData} : ∀ {xs : List V} {ds : List PyData} {k : Nat}, DqAll K H xs ds → Dq K H v d → DqAll K H (xs.set k v) (ds.set k d)
  | _, _, _, .nil, _ => .nil
  | _, _, 0, .cons _ g, q => .cons q g
  | _, _, k + 1, .cons h g, q => .cons h (dqall_set g q)
theorem lean_num (q : Rat) : Lean_ (ofR q) := lean_slim (hd_num q).sl
end K13

set_option Elab.async false
set_option linter.all false
set_option maxRecDepth 100000
set_option maxHeartbeats 4000000
namespace K13
open PySem PySem.Spec PyProof.Rows L2 Lw
section
variable {P : Program} {w : World} {K : PySem.W.Frag} {mg : Str → Option Value} {base : Heap} {f : Addr} {fd : FuncData}
def sp_right : Sp := fun vs H Q _ => ∃ a : Addr, vs = [.ref a] ∧ PotAt H a ∧ ∀ H', PotAt H' a → Off a H H' → Q (.bl true) H'
theorem off2_tups {H : Hp} {a l : Addr} {ys : List V} (p : PotAt H a) (e : H l = some (.lst ys)) : TupS H (off (off H a) l) := fun b o n h => by
  obtain ⟨x, y, ha, _⟩ := p
  have n1 : b ≠ a := by
    rintro rfl
    rw [ha] at h
    exact n _ (Option.some.inj h).symm
  have n2 : b ≠ l := by
    rintro rfl
    rw [e] at h
    exact n _ (Option.some.inj h).symm
  rw [off_ne n2, off_ne n1]
  exact h
theorem nums_ok {qs : List Rat} (b : ∀ q ∈ qs, Bq 100 q) : ∀ d ∈ qs.map ofR, OkS d := fun d hd => by
  obtain ⟨q, hq, rfl⟩ := List.mem_map.mp hd
  exact oks_num (b q hq)
/-- the list that is handed about, away from the pot -/
structure Lst (K : PySem.W.Frag) (H0 H : Hp) (a l : Addr) (xs : List V) (ds : List PyData) : Prop where
  p : PotAt H a
  o : Off a H0 H
  la : l ≠ a
  nl : H0 l = none
  e : H l = some (.lst xs)
  d : DqAll K (off (off H a) l) xs ds
  ok : ∀ x ∈ ds, OkS x
theorem Lst.draw {H0 H H' : Hp} {a l : Addr} {xs : List V} {ds : List PyData} (L : Lst K H0 H a l xs ds) (p : PotAt H' a) (o : Off a H H') : Lst K H0 H' a l xs ds := by
  refine ⟨p, L.o.trans o, L.la, L.nl, o.get L.e L.la, DqAll.same ?_ L.d, L.ok⟩
  exact off_mono o
theorem Lst.put {H0 H H' : Hp} {a l : Addr} {xs : List V} {ds : List PyData} {k : Nat} {v : V} {d : PyData} (L : Lst K H0 H a l xs ds) (p : PotAt H' a) (o : Off a H H') (h : Dq K (off (off H' a) l) v d) (hd : OkS d) : Lst K H0 (upd H' l (.lst (xs.set k v))) a l (xs.set k v) (ds.set k d) := by
  have L2 := L.draw p o
  refine ⟨p.put L.la, L2.o.put L.nl, L.la, L.nl, upd_same, ?_, fun x hx => ?_⟩
  · rw [off_swap, off_put, ← off_swap]
    exact dqall_set L2.d h
  · rcases List.mem_or_eq_of_mem_set hx with hx | rfl
    · exact L.ok x hx
    · exact hd
theorem Lst.all {H0 H : Hp} {a l : Addr} {xs : List V} {ds : List PyData} (L : Lst K H0 H a l xs ds) : DqAll K H xs ds := DqAll.same off_same (DqAll.same off_same L.d)
theorem ix_nat {n : Nat} {i : Int} (h0 : 0 ≤ i) (h1 : i < n) : ixN n i = some i.toNat := by
  unfold ixN
  rw [if_pos h0, if_pos h1]
theorem ok_right {fD fO fW fM fU fR fN fX : Addr} {fdD fdO fdW fdM fdU fdR fdN fdX : FuncData} (F : FnP K "_law_right" s_right f fd) (T : Tz mg) (B : SysOk base)
    (O_draw : Own P w K mg base CX0 1 "_law_draw" ["_law_pot_here", "_law_many_here"] sp_draw fD fdD)
    (O_odd : Own P w K mg base CX0 2 "_law_odd" ["_law_pot_here"] (sp_oddF K) fO fdO)
    (O_drawn : Own P w K mg base CX0 4 "_law_drawn" ["_law_pot_here", "_law_many_here"] (sp_drawn K) fW fdW)
    (O_told : Own P w K mg base CX0 14 "_law_told" ["_law_way", "_law_some"] (sp_told K) fM fdM)
    (O_due : Own P w K mg base CX0 4 "_law_due" ["_law_way", "_law_some"] (sp_told K) fU fdU)
    (O_is_ratio : Own P w K mg base CX0 2 "_law_is_ratio" ["_law_thing"] (sp_num K) fR fdR)
    (O_is_number : Own P w K mg base CX0 2 "is_number" ["value"] (sp_num K) fN fdN)
    (O_mixed : Own P w K mg base CX0 2 "_law_mixed" ["_law_pot_here", "_law_given"] (sp_mixed K) fX fdX) :
    FnG P w K mg base CX0 15 f fd ["_law_pot_here"] sp_right := by
  refine fn_g F sc_right (fun vs H Q E h => ?_) (fun cdv A outer s H vs Q E hg hr h => ?_)
  · obtain ⟨a, rfl, _⟩ := h
    rfl
  · obtain ⟨a, rfl, hp, q⟩ := h
    refine ⟨_, PSs.nox (pss_cons (ps_set (i := 1) sc_right.nd rfl (Or.inl rfl) (pe_own O_draw (hr.mono (by first | decide | omega)) (pa_cons (pv 0) (pa_cons pe_int pa_nil))))
      (C8.pss_cut (ps_set (i := 2) sc_right.nd rfl (Or.inl rfl) (pe_own O_drawn (hr.mono (by first | decide | omega)) (pa_cons (pv 0) (pa_cons (pe_ifExp (pt_cmpR op_lt (pv 1) pe_int (nomark _)) (pe_own O_draw (hr.mono (by first | decide | omega)) (pa_cons (pv 0) (pa_cons pe_int pa_nil))) pe_int) pa_nil))))
      (C8.pss_cut (ps_if (PW.pt (pw_and (pt_cmpR (op_neE hr.units) (pv 2) (pe_lst pa_nil) (nomark _)) (pw_and1 (pt_cmpR op_eq (pe_own O_draw (hr.mono (by first | decide | omega)) (pa_cons (pv 0) (pa_cons pe_int pa_nil))) pe_int (nomark _))))) (pss_cons (ps_asg (pe_own O_odd (hr.mono (by first | decide | omega)) (pa_cons (pv 0) pa_nil)) (pg_sub (pv 2) (pe_own O_draw (hr.mono (by first | decide | omega)) (pa_cons (pv 0) (pa_cons (pe_callB call_len_seq (by rfl) T.z_len (by decide +kernel) (pa_cons (pv 2) pa_nil)) pa_nil))) set_list))
      (pss_one (ps_asg (pe_own O_odd (hr.mono (by first | decide | omega)) (pa_cons (pv 0) pa_nil)) (pg_sub (pv 2) (pe_own O_draw (hr.mono (by first | decide | omega)) (pa_cons (pv 0) (pa_cons (pe_callB call_len_seq (by rfl) T.z_len (by decide +kernel) (pa_cons (pv 2) pa_nil)) pa_nil))) set_list)))) pss_nil)
      (pss_cons (ps_par (i := 3) (j := 4) (by rfl) sc_right.nd rfl rfl (by decide) rfl rfl (pa_cons (pe_callB (call_repr B hg hr.units) (by rfl) T.z_repr (by decide +kernel) (pa_cons (pv 2) pa_nil)) (pa_cons (pe_callB (call_repr B hg hr.units) (by rfl) T.z_repr (by decide +kernel) (pa_cons (pe_own O_due (hr.mono (by first | decide | omega)) (pa_cons (pv 1) (pa_cons (pv 2) pa_nil))) pa_nil)) pa_nil)) (by rfl))
      (pss_cons (ps_if (PW.pt (pw_or (pt_cmpR op_ne (pe_callB (call_repr B hg hr.units) (by rfl) T.z_repr (by decide +kernel) (pa_cons (pe_own O_told (hr.mono (by first | decide | omega)) (pa_cons (pv 1) (pa_cons (pv 2) pa_nil))) pa_nil)) (pv 4) (nomark _)) (pw_or (pt_cmpR op_ne (pe_callB (call_repr B hg hr.units) (by rfl) T.z_repr (by decide +kernel) (pa_cons (pe_own O_told (hr.mono (by first | decide | omega)) (pa_cons (pv 1) (pa_cons (pv 2) pa_nil))) pa_nil)) (pv 4) (nomark _)) (pw_or1 (pt_cmpR op_ne (pe_callB (call_repr B hg hr.units) (by rfl) T.z_repr (by decide +kernel) (pa_cons (pv 2) pa_nil)) (pv 3) (nomark _)))))) (pss_one (ps_ret pe_bl)) pss_nil)
      (pss_cons (ps_if (PW.pt (pw_and (pt_cmpR op_lt (pv 1) pe_int (nomark _)) (pw_and1 (pt_val (pe_callB (cr_all rfl) (by rfl) T.z_all (by decide +kernel) (pa_cons (pe_lc (own := [("_law_thing", 5)]) (g := gName 5) (tt := tYes) rfl sc_right.nd (pi_list (pv 2)) (blkOk_by (own := [("_law_thing", 5)]) (N := N_right) (sc := defScope s_right) (by decide +kernel)) (fun _ _ _ _ _ => pg_name (i := 5) sc_right.nd rfl (Or.inl rfl)) (fun _ _ _ _ _ => pts_nil) (fun _ _ _ _ _ => (pe_own O_is_ratio (hr.mono (by first | decide | omega)) (pa_cons (pv 5) pa_nil)))) pa_nil)))))) (pss_one (ps_ret (pe_and (pe_cmpR op_eq (pe_callB (call_repr B hg hr.units) (by rfl) T.z_repr (by decide +kernel) (pa_cons (pe_own O_told (hr.mono (by first | decide | omega)) (pa_cons (pv 1) (pa_cons (pe_own O_mixed (hr.mono (by first | decide | omega)) (pa_cons (pv 0) (pa_cons (pv 2) pa_nil))) pa_nil))) pa_nil)) (pv 4) (nomark _)) (pe_one (pe_cmpR op_isB (pe_own O_is_number (hr.mono (by first | decide | omega)) (pa_cons (pe_own O_told (hr.mono (by first | decide | omega)) (pa_cons (pv 1) (pa_cons (pv 2) pa_nil))) pa_nil)) pe_bl (nomark _)))))) pss_nil)
      (pss_one (ps_ret pe_bl)))))))), ?_⟩
    refine ⟨.ref a, rfl, a, 5, rfl, hp, by decide, by decide, fun way H1 w0 w1 p1 o1 => ?_⟩
    have mkL : ∀ {n : Int} {H2 H3 : Hp} {l : Addr} {xs : List V} {qs : List Rat}, n ≤ 4 → Off a H H2 → (2 ≤ way → n = 2) → PotAt H3 a → Off a H2 H3 → l ≠ a → H2 l = none → H3 l = some (.lst xs) → DqAll K H3 xs (qs.map ofR) → ((qs.length : Nat) : Int) = n → (∀ q ∈ qs, Bq 100 q) →
        Lst K H H3 a l xs (qs.map ofR) ∧ xs.length ≤ 4 ∧ (2 ≤ way → xs.length = 2) := by
      intro n H2 H3 l xs qs n4 o2 hn p3 o3 la nl e3 d3 hl b3
      have e := num_len d3
      exact ⟨⟨p3, o2.trans o3, la, o2.free nl (pot_ex hp) la, e3, nums_tups (off2_tups p3 e3) d3, nums_ok b3⟩, by omega, fun hw => by have := hn hw; omega⟩
    refine ⟨fun σ' H' => ∃ l xs ds, σ' = [some (.ref a), some (.int way), some (.ref l), none, none, none] ∧ Lst K H H' a l xs ds ∧ xs.length ≤ 4 ∧ (2 ≤ way → xs.length = 2), ?_, ?_⟩
    · refine ⟨.ref a, rfl, .int way, rfl, _, _, rfl, rfl, _, rfl, ite2 (fun e => ?_) (fun e => ?_)⟩
      · have wl : way < 2 := of_decide_eq_true e
        refine ⟨.ref a, rfl, a, 5, rfl, p1, by decide, by decide, fun n H2 n0 n1 p2 o2 => ?_⟩
        exact ⟨a, n, rfl, p2, n0, by omega, fun l xs qs H3 p3 o3 la nl e3 d3 hl b3 => ⟨l, xs, _, rfl, mkL (by omega) (o1.trans o2) (fun z => absurd wl (by omega)) p3 o3 la nl e3 d3 hl b3⟩⟩
      · exact ⟨a, 2, rfl, p1, by decide, by decide, fun l xs qs H3 p3 o3 la nl e3 d3 hl b3 => ⟨l, xs, _, rfl, mkL (by decide) o1 (fun _ => rfl) p3 o3 la nl e3 d3 hl b3⟩⟩
    rintro σ1 H2 ⟨l, xs, ds, rfl, L2, h4, h2⟩
    refine ⟨fun σ' H' => ∃ xs ds, σ' = [some (.ref a), some (.int way), some (.ref l), none, none, none] ∧ Lst K H H' a l xs ds ∧ xs.length ≤ 4 ∧ (2 ≤ way → xs.length = 2), ?_, ?_⟩
    · refine ⟨.ref l, rfl, Nat.zero_le _, fun m nm => ⟨l, m, xs, rfl, rfl, .inl (.inl ?_), .inl (.inl upd_same), _, rfl, ?_⟩⟩
      · rw [upd_ne (ne_of_none L2.e nm)]
        exact L2.e
      have L3 := L2.draw (L2.p.new (o := .lst []) nm) (Off.new nm)
      revert L3
      generalize upd H2 m (.lst []) = H3
      intro L3
      refine ite2 (fun e => ?_) (fun e => ?_)
      · have hne : 0 < xs.length := by
          cases xs with
          | nil => cases e
          | cons _ _ => show 0 < _ + 1; omega
        refine ⟨.ref a, rfl, a, 4, rfl, L3.p, by decide, by decide, fun r H4 r0 r1 p4 o4 => ⟨rfl, _, rfl, ?_⟩⟩
        have L4 := L3.draw p4 o4
        refine ite2 (fun e => ?_) (fun e => ?_)
        · skip
          refine ⟨.ref a, rfl, a, rfl, L4.p, fun va da Ga hda fra ppa ooa => ?_⟩
          refine ⟨.ref l, rfl, .ref a, rfl, .ref l, rfl, l, xs, rfl, .inl (.inl (.inl (ooa.get L4.e L4.la))), a, (xs).length, rfl, ppa, by omega, by omega, fun ra Fa r0a r1a pqa oqa => ?_⟩
          have Ka := L4.put (k := ra.toNat) pqa (ooa.trans oqa) (Dq.same ((nw_draw (pot_some L4.p) oqa).trans (nw_off2 (pot_some L4.p) (by rw [L4.e]; exact fun z => nomatch z))) fra) (odds_ok da hda)
          refine ⟨l, xs, ra, ra.toNat, rfl, rfl, (ooa.trans oqa).get L4.e L4.la, ix_nat r0a r1a, ?_⟩
          refine ⟨.ref a, rfl, a, rfl, Ka.p, fun vb db Gb hdb frb ppb oob => ?_⟩
          refine ⟨.ref l, rfl, .ref a, rfl, .ref l, rfl, l, xs.set ra.toNat va, rfl, .inl (.inl (.inl (oob.get Ka.e Ka.la))), a, (xs.set ra.toNat va).length, rfl, ppb, by rw [List.length_set]; omega, by rw [List.length_set]; omega, fun rb Fb r0b r1b pqb oqb => ?_⟩
          have Kb := Ka.put (k := rb.toNat) pqb (oob.trans oqb) (Dq.same ((nw_draw (pot_some Ka.p) oqb).trans (nw_off2 (pot_some Ka.p) (by rw [Ka.e]; exact fun z => nomatch z))) frb) (odds_ok db hdb)
          refine ⟨l, xs.set ra.toNat va, rb, rb.toNat, rfl, rfl, (oob.trans oqb).get Ka.e Ka.la, ix_nat r0b r1b, ?_⟩
          exact ⟨_, _, rfl, Kb, by rw [List.length_set, List.length_set]; exact h4, by rw [List.length_set, List.length_set]; exact h2⟩
        · exact ⟨xs, ds, rfl, L4, h4, h2⟩
      · exact ⟨xs, ds, rfl, L3, h4, h2⟩
    clear L2 h4 h2 xs ds
    rintro σ2 H5 ⟨xs, ds, rfl, L, h4, h2⟩
    have hl : ds.length ≤ 4 := by
      rw [← dq_len L.d]
      exact h4
    obtain ⟨y0, y1, y2⟩ := Small.line (small_list (n := 5000) (ds := ds) fun d hd => ⟨(L.ok d hd).sm, by have := (L.ok d hd).ok.hd.dp; omega⟩) (by omega)
    obtain ⟨z0, z1, z2⟩ := Small.line (small_due (way := way) hl L.ok fun _ h h3 => zero_ne h h3) (by decide)
    have okd : ∀ d ∈ ds, Okd d := fun d hd => (L.ok d hd).ok
    have sq : ∀ {G : Hp}, Same H5 G → SqL K G l xs := fun s => .inl (.inl (s _ _ L.e))
    have al : ∀ {G : Hp}, Same H5 G → DqAll K G xs ds := fun s => DqAll.same s L.all
    have s0 := Same.refl H5
    refine ⟨.ref l, rfl, .ref l, .list ds, rfl, .lst (sq s0) (al s0), y0, y1, y2, ?_⟩
    refine ⟨.int way, rfl, .ref l, rfl, way, l, xs, ds, rfl, sq s0, al s0, w0, w1, h4, h2, okd, fun v1 H6 s6 d1 => ⟨v1, _, rfl, d1, z0, z1, z2, _, _, rfl, ?_⟩⟩
    refine ⟨.int way, rfl, .ref l, rfl, way, l, xs, ds, rfl, sq s6, al s6, w0, w1, h4, h2, okd, fun v2 H7 s7 d2 => ⟨v2, _, rfl, d2, z0, z1, z2, _, rfl, rfl, _, rfl, ?_⟩⟩
    rw [decide_eq_true rfl]
    have t7 := s6.trans s7
    refine iteF ⟨.int way, rfl, .ref l, rfl, way, l, xs, ds, rfl, sq t7, al t7, w0, w1, h4, h2, okd, fun v3 H8 s8 d3 => ⟨v3, _, rfl, d3, z0, z1, z2, _, rfl, rfl, _, rfl, ?_⟩⟩
    rw [decide_eq_true rfl]
    have t8 := t7.trans s8
    refine iteF ⟨.ref l, rfl, .ref l, .list ds, rfl, .lst (sq t8) (al t8), y0, y1, y2, _, rfl, rfl, _, rfl, ?_⟩
    rw [decide_eq_true rfl]
    refine iteF ?_
    have fin : ∀ {G : Hp}, Same H5 G → Q (.bl true) G := fun s => q _ (L.p.same s) (L.o.trans (Off.same s))
    refine ⟨.int way, rfl, _, _, rfl, rfl, _, rfl, ite2 (fun e => ?_) (fun e => ?_)⟩
    · have wl : way < 2 := of_decide_eq_true e
      refine ⟨.ref l, rfl, l, rfl, ⟨xs, sq t8⟩, fun D nD => ?_⟩
      refine lc_list (K := K) (a := l) (xs := xs) (fun i H9 => Same H8 H9 ∧ H9 D = some (.lst (((ds.take i).map numD).map V.bl))) ⟨same_upd nD, upd_same⟩ (fun i H9 _ p => sq (t8.trans p.1)) ?_ ?_
      · rintro i x H9 hx ⟨s9, e9⟩
        obtain ⟨d, hi, dx⟩ := dq_get (al (t8.trans s9)) hx
        have hil := (List.getElem?_eq_some_iff.mp hi).1
        refine ⟨rfl, x, rfl, x, d, rfl, dx, lean_slim (okd d (List.mem_of_getElem? hi)).hd.sl, fun H10 s10 => ⟨_, s10 _ _ e9, ?_, fun b o e => ?_, ?_⟩⟩
        · rw [List.length_map, List.length_map, List.length_take]
          exact small1000 (by omega)
        · rw [upd_ne (ne_of_none e nD)]
          exact s10 _ _ (s9 _ _ e)
        · rw [upd_same, take_map hi, List.map_append]
          rfl
      · rintro H9 ⟨s9, e9⟩
        have t9 := t8.trans s9
        rw [dq_len L.d, List.take_length] at e9
        refine ⟨D, _, rfl, .inl (.inl e9), _, rfl, ?_⟩
        by_cases hb : (ds.map numD).all id = true
        · rw [hb]
          have bn : badD ds = none := bad_none fun x hx => by
            rw [List.all_map, List.all_eq_true] at hb
            exact hb x hx
          have sqo : ∀ {G : Hp}, Same H5 G → SqL K (off G a) l xs := fun s => .inl (.inl (by rw [off_ne L.la]; exact s _ _ L.e))
          refine iteT ⟨.int way, rfl, .ref a, rfl, .ref l, rfl, a, l, xs, rfl, L.p.same t9, sq t9, sqo t9, h4, fun m ys H10 p10 o10 e10 pm => ?_⟩
          have da : DqAll K (off H9 a) xs ds := DqAll.same ((off_same).trans (off_mono t9)) L.d
          have d10 : DqAll K H10 xs ds := DqAll.same off_same (DqAll.same o10 da)
          obtain ⟨es, de, pe⟩ := perm_dq pm d10
          have okE : ∀ d ∈ es, Okd d := fun d hd => okd d (pe.mem_iff.mp hd)
          refine ⟨way, m, ys, es, rfl, .inl (.inl e10), de, w0, w1, by rw [pm.length_eq]; exact h4, fun z => absurd wl (by omega), okE, fun v4 H11 s11 d4 => ?_⟩
          rw [due_perm pe bn w0 wl] at d4
          refine ⟨v4, _, rfl, d4, z0, z1, z2, _, rfl, rfl, _, rfl, ?_⟩
          rw [decide_eq_true rfl]
          have sq11 : SqL K H11 l xs := .inl (.inl (s11 _ _ (o10.get (t9 _ _ L.e) L.la)))
          refine iteT ⟨.int way, rfl, .ref l, rfl, way, l, xs, ds, rfl, sq11, DqAll.same s11 d10, w0, w1, h4, h2, okd, fun v5 H12 s12 d5 => ?_⟩
          obtain ⟨qd, eq⟩ := due_num (way := way) bn w0 wl
          rw [eq] at d5
          refine ⟨v5, _, rfl, d5, lean_num qd, fun H13 s13 => ?_⟩
          rw [ofR_num]
          refine ⟨true, true, rfl, rfl, ?_⟩
          exact q _ (((p10.same s11).same s12).same s13) ((((L.o.trans (Off.same t9)).trans o10).trans (Off.same s11)).trans (Off.same (s12.trans s13)))
        · rw [Bool.eq_false_iff.mpr hb]
          exact iteF (fin t9)
    · exact fin t8
end
end K13

set_option Elab.async false
set_option linter.all false
set_option maxRecDepth 100000
set_option maxHeartbeats 4000000
namespace K13
open PySem PySem.Spec PyProof.Rows L2 Lw
section
variable {P : Program} {w : World} {K : PySem.W.Frag} {mg : Str → Option Value} {base : Heap} {f : Addr} {fd : FuncData} {C C2 : Addr}
theorem no_bad {q r : Rat} {H : Hp} {E : XK} {A : Addr} : ∀ d, badD [ofR q, ofR r] = some d → Out K A H d E := fun d e => by
  rw [bad2] at e
  cases e
theorem minus_ok {x y : V} {q r : Rat} {k : Nat} {H : Hp} {Q : VK} {E : XK} (hx : Dq K H x (ofR q)) (hy : Dq K H y (ofR r)) (b1 : Bq k q) (b2 : Bq k r) (k0 : 0 < k) (hk : k ≤ 300) (h : ∀ v H', Same H H' → Fresh K H H' v (ofR (q - r)) → Q v H') : sp_minus K C [x, y] H Q E :=
  ⟨x, y, _, _, rfl, hx, hy, hd_num q, hd_num r, no_bad, fun _ => ⟨q, r, k, rfl, rfl, b1, b2, k0, hk, h⟩⟩
theorem div_ok {x y : V} {q r : Rat} {k : Nat} {H : Hp} {Q : VK} {E : XK} (hx : Dq K H x (ofR q)) (hy : Dq K H y (ofR r)) (b1 : Bq k q) (b2 : Bq k r) (k0 : 0 < k) (hk : k ≤ 300) (hr : r ≠ 0) (h : ∀ v H', Same H H' → Fresh K H H' v (ofR (q / r)) → Q v H') : sp_div K C C2 [x, y] H Q E :=
  ⟨x, y, _, _, rfl, hx, hy, hd_num q, hd_num r, no_bad, fun _ => ⟨q, r, k, rfl, rfl, b1, b2, k0, hk, fun z => absurd z hr, fun _ => h⟩⟩
theorem less_ok {x y : V} {q r : Rat} {k : Nat} {H : Hp} {Q : VK} {E : XK} (hx : Dq K H x (ofR q)) (hy : Dq K H y (ofR r)) (b1 : Bq k q) (b2 : Bq k r) (hk : k ≤ 300) (h : ∀ H', Same H H' → Q (.bl (decide (q < r))) H') : sp_less K C [x, y] H Q E :=
  ⟨x, y, _, _, rfl, hx, hy, hd_num q, hd_num r, no_bad, fun _ => ⟨q, r, k, rfl, rfl, b1, b2, hk, h⟩⟩
theorem sum_two (q r : Rat) : rsum [q, r] = q + r := by
  show (0 + q) + r = q + r
  grind
theorem bq_sub {q r : Rat} {k : Nat} (b1 : Bq k q) (b2 : Bq k r) : Bq (k + k + 1) (q - r) := by
  have e : q - r = q + -r := by grind
  rw [e]
  exact bq_add b1 (bq_neg b2)
theorem count3 (q r : Rat) : ([decide (q < r), decide (r < q), decide (q = r)].countP fun b => b == true) = 1 := by
  by_cases h1 : q < r
  · have h2 : ¬ r < q := by grind
    have h3 : q ≠ r := by grind
    rw [decide_eq_true h1, decide_eq_false h2, decide_eq_false h3]
    rfl
  · by_cases h2 : r < q
    · have h3 : q ≠ r := by grind
      rw [decide_eq_false h1, decide_eq_true h2, decide_eq_false h3]
      rfl
    · have h3 : q = r := by grind
      rw [decide_eq_false h1, decide_eq_false h2, decide_eq_true h3]
      rfl
theorem small_nums {qs : List Rat} (h : ∀ q ∈ qs, Bq 1000 q) (hl : qs.length ≤ 4) : (PyData.list (qs.map ofR)).showable = true ∧ (PyData.list (qs.map ofR)).shown.length ≤ sizeLine ∧ (PyData.list (qs.map ofR)).depth ≤ 60 := by
  refine Small.line (small_list (n := 5000) fun d hd => ?_) ?_
  · obtain ⟨q, hq, rfl⟩ := List.mem_map.mp hd
    exact ⟨small_num (h q hq), by have := (hd_num q).dp; omega⟩
  · rw [List.length_map]
    omega
theorem ok_undone {fW fS fPr fP fT fQ fD fL : Addr} {fdW fdS fdPr fdQ fdD fdL : FuncData} {g1 g2 g3 : List Value → List Value → List Value} (F : FnP K "_law_undone_right" s_undone_right f fd) (T : Tz mg) (B : SysOk base)
    (O_worth : Own P w K mg base CX0 3 "_law_worth" ["_law_pot_here"] (sp_worth K) fW fdW)
    (O_sum : Own P w K mg base CX0 3 "_law_sum" ["_law_a", "_law_b"] (sp_two K fun q r => q + r) fS fdS) (O_product : Own P w K mg base CX0 3 "_law_product" ["_law_a", "_law_b"] (sp_two K fun q r => q * r) fPr fdPr)
    (O_plus : OwnR P w K mg base 11 "plus" (sp_many K C rsum) fP) (O_times : OwnR P w K mg base 11 "times" (sp_many K C rprod) fT) (O_minus : OwnR P w K mg base 12 "minus" (sp_minus K C) fQ) (O_divided : OwnR P w K mg base 12 "divided" (sp_div K C C2) fD) (O_is_less : OwnR P w K mg base 12 "is_less" (sp_less K C) fL)
    (X_minus : OwnX P w K mg base 12 "minus" ["first", "second"] (sp_minus K C) fQ fdQ) (O_minus_kw : KBn K fdQ ["first", "second"] 0 ["second", "first"] g1 (fun _ zs => flip2 zs))
    (X_divided : OwnX P w K mg base 12 "divided" ["first", "second"] (sp_div K C C2) fD fdD) (O_divided_kw : KBn K fdD ["first", "second"] 0 ["second", "first"] g2 (fun _ zs => flip2 zs))
    (X_is_less : OwnX P w K mg base 12 "is_less" ["first", "second"] (sp_less K C) fL fdL) (O_is_less_kw : KBn K fdL ["first", "second"] 0 ["second", "first"] g3 (fun _ zs => flip2 zs)) :
    FnG P w K mg base CX0 15 f fd ["_law_pot_here"] sp_right := by
  refine fn_g F sc_undone_right (fun vs H Q E h => ?_) (fun cdv A outer s H vs Q E hg hr h => ?_)
  · obtain ⟨a, rfl, _⟩ := h
    rfl
  · obtain ⟨a, rfl, hp, qq⟩ := h
    refine ⟨_, PSs.nox (pss_cons (ps_par (i := 1) (j := 2) (by rfl) sc_undone_right.nd rfl rfl (by decide) rfl rfl (pa_cons (pe_own O_worth (hr.mono (by first | decide | omega)) (pa_cons (pv 0) pa_nil)) (pa_cons (pe_own O_worth (hr.mono (by first | decide | omega)) (pa_cons (pv 0) pa_nil)) pa_nil)) (by rfl))
      (pss_cons (ps_set (i := 3) sc_undone_right.nd rfl (Or.inl rfl) (pe_lst (pa_cons (pe_ownF O_plus (hr.mono (by first | decide | omega)) (pa_cons (pe_ownF O_minus (hr.mono (by first | decide | omega)) (pa_cons (pv 1) (pa_cons (pv 2) pa_nil))) (pa_cons (pv 2) pa_nil))) (pa_cons (pe_ownF O_minus (hr.mono (by first | decide | omega)) (pa_cons (pe_ownF O_plus (hr.mono (by first | decide | omega)) (pa_cons (pv 1) (pa_cons (pv 2) pa_nil))) (pa_cons (pv 2) pa_nil))) (pa_cons (pe_ownXW X_minus O_minus_kw (hr.mono (by first | decide | omega)) (pk_cons (pv 2) (pk_cons (pv 1) pk_nil))) pa_nil)))))
      (pss_cons (ps_if (pt_cmpR op_ne (pe_callB (call_repr B hg hr.units) (by rfl) T.z_repr (by decide +kernel) (pa_cons (pv 3) pa_nil)) (pe_callB (call_repr B hg hr.units) (by rfl) T.z_repr (by decide +kernel) (pa_cons (pe_lst (pa_cons (pv 1) (pa_cons (pv 1) (pa_cons (pe_own O_sum (hr.mono (by first | decide | omega)) (pa_cons (pv 1) (pa_cons (pe_own O_product (hr.mono (by first | decide | omega)) (pa_cons (pe_un un_neg pe_int) (pa_cons (pv 2) pa_nil))) pa_nil))) pa_nil)))) pa_nil)) (nomark _)) (pss_one (ps_ret pe_bl)) pss_nil)
      (pss_cons (ps_if (pt_cmpR (op_neD hr.units) (pe_bm PySem.F.plainAttrs_list PySem.F.slot_list_count PySem.F.type_list_count (mt_countB hr.units) (pe_lst (pa_cons (pe_ownF O_is_less (hr.mono (by first | decide | omega)) (pa_cons (pv 1) (pa_cons (pv 2) pa_nil))) (pa_cons (pe_ownXW X_is_less O_is_less_kw (hr.mono (by first | decide | omega)) (pk_cons (pv 1) (pk_cons (pv 2) pk_nil))) (pa_cons (pe_cmpR (op_eqD hr.units) (pv 1) (pv 2) (nomark _)) pa_nil)))) (pa_cons pe_bl pa_nil)) pe_int (nomark _)) (pss_one (ps_ret pe_bl)) pss_nil)
      (pss_cons (ps_if (pt_cmpR (op_eqD hr.units) (pv 2) pe_int (nomark _)) (pss_one (ps_ret pe_bl)) pss_nil)
      (pss_cons (ps_set (i := 4) sc_undone_right.nd rfl (Or.inl rfl) (pe_lst (pa_cons (pe_ownF O_times (hr.mono (by first | decide | omega)) (pa_cons (pe_ownF O_divided (hr.mono (by first | decide | omega)) (pa_cons (pv 1) (pa_cons (pv 2) pa_nil))) (pa_cons (pv 2) pa_nil))) (pa_cons (pe_ownXW X_divided O_divided_kw (hr.mono (by first | decide | omega)) (pk_cons (pv 2) (pk_cons (pe_ownF O_times (hr.mono (by first | decide | omega)) (pa_cons (pv 1) (pa_cons (pv 2) pa_nil))) pk_nil))) pa_nil))))
      (pss_one (ps_ret (pe_cmpR op_eq (pe_callB (call_repr B hg hr.units) (by rfl) T.z_repr (by decide +kernel) (pa_cons (pv 4) pa_nil)) (pe_callB (call_repr B hg hr.units) (by rfl) T.z_repr (by decide +kernel) (pa_cons (pe_lst (pa_cons (pv 1) (pa_cons (pv 1) pa_nil))) pa_nil)) (nomark _)))))))))), ?_⟩
    refine ⟨.ref a, rfl, a, rfl, hp, fun x q H1 b1 d1 p1 o1 => ⟨.ref a, rfl, a, rfl, p1, fun y r H2 b2 d2 p2 o2 => ⟨_, _, rfl, ?_⟩⟩⟩
    have hx : Dq K H2 x (ofR q) := Dq.same off_same (Dq.same o2 d1)
    have hy : Dq K H2 y (ofR r) := Dq.same off_same d2
    have o12 := o1.trans o2
    -- plus(minus(x, y), y)
    refine ⟨x, rfl, y, rfl, ?_⟩
    refine minus_ok (k := 97) hx hy b1 b2 (by decide) (by decide) fun v1 H3 s3 f3 => ?_
    refine ⟨y, rfl, ?_⟩
    refine two_ok (k := 195) f3.dq (hy.same s3) (bq_sub b1 b2) (b2.mono (by decide)) (by decide) fun v2 H4 s4 f4 => ?_
    have e1 : rsum [q - r, r] = q := by
      rw [sum_two]
      grind
    rw [e1] at f4
    have t4 := s3.trans s4
    -- minus(plus(x, y), y)
    refine ⟨x, rfl, y, rfl, ?_⟩
    refine two_ok (k := 97) (hx.same t4) (hy.same t4) b1 b2 (by decide) fun v3 H5 s5 f5 => ?_
    rw [sum_two] at f5
    refine ⟨y, rfl, ?_⟩
    refine minus_ok (k := 195) f5.dq (hy.same (t4.trans s5)) (bq_add b1 b2) (b2.mono (by decide)) (by decide) (by decide) fun v4 H6 s6 f6 => ?_
    have e2 : q + r - r = q := by grind
    rw [e2] at f6
    have t6 := (t4.trans s5).trans s6
    -- minus(second = y, first = x)
    refine ⟨y, rfl, x, rfl, rfl, rfl, ?_⟩
    refine minus_ok (k := 97) (hx.same t6) (hy.same t6) b1 b2 (by decide) (by decide) fun v5 H7 s7 f7 => ?_
    have t7 := t6.trans s7
    refine ⟨by show 3 ≤ sizeLine; decide, fun l nl => ?_⟩
    have u8 : Same H7 (upd H7 l (.lst [v2, v4, v5])) := same_upd nl
    have told : Dq K (upd H7 l (.lst [v2, v4, v5])) (.ref l) (.list ([q, q, q - r].map ofR)) :=
      .lst (.inl (.inl upd_same)) (.cons (f4.dq.same ((s5.trans s6).trans (s7.trans u8))) (.cons (f6.dq.same (s7.trans u8)) (.cons (f7.dq.same u8) .nil)))
    have t8 := t7.trans u8
    revert u8 told t8
    generalize upd H7 l (.lst [v2, v4, v5]) = H8
    intro u8 told t8
    obtain ⟨y0, y1, y2⟩ := small_nums (qs := [q, q, q - r]) (fun z hz => by
      simp only [List.mem_cons, List.not_mem_nil, or_false] at hz
      rcases hz with rfl | rfl | rfl
      · exact b1.mono (by decide)
      · exact b1.mono (by decide)
      · exact (bq_sub b1 b2).mono (by decide)) (by show 3 ≤ 4; decide)
    refine ⟨.ref l, rfl, .ref l, _, rfl, told, y0, y1, y2, ?_⟩
    refine ⟨x, rfl, x, rfl, x, rfl, 1, rfl, y, rfl, ?_⟩
    refine ⟨.int (-1), y, ((-1 : Int) : Rat), r, 1, 97, rfl, dq_int, hy.same t8, bq_int (by decide) (by decide), b2, by decide, fun v6 H9 s9 f9 => ?_⟩
    have e3 : (fun q r : Rat => q * r) ((-1 : Int) : Rat) r = -r := neg_mul r
    rw [e3] at f9
    refine ⟨x, v6, q, -r, 97, 97, rfl, hx.same (t8.trans s9), f9.dq, b1, bq_neg b2, by decide, fun v7 H10 s10 f10 => ?_⟩
    have e4 : (fun q r : Rat => q + r) q (-r) = q - r := by
      show q + -r = q - r
      grind
    rw [e4] at f10
    refine ⟨by show 3 ≤ sizeLine; decide, fun l2 nl2 => ?_⟩
    have t10 := (t8.trans s9).trans s10
    have u11 : Same H10 (upd H10 l2 (.lst [x, x, v7])) := same_upd nl2
    refine ⟨.ref l2, _, rfl, (.lst (.inl (.inl upd_same)) (.cons (hx.same (t10.trans u11)) (.cons (hx.same (t10.trans u11)) (.cons (f10.dq.same u11) .nil))) : Dq K _ _ (.list ([q, q, q - r].map ofR))), y0, y1, y2, rfl, _, rfl, ?_⟩
    rw [decide_eq_true rfl]
    have t11 := t10.trans u11
    revert u11 t11
    generalize upd H10 l2 (.lst [x, x, v7]) = H11
    intro u11 t11
    refine iteF ?_
    -- exactly one of less, greater, equal
    refine ⟨x, rfl, y, rfl, ?_⟩
    refine ⟨x, y, _, _, rfl, hx.same t11, hy.same t11, hd_num q, hd_num r, no_bad, fun _ => ⟨q, r, 97, rfl, rfl, b1, b2, by decide, fun H12 s12 => ?_⟩⟩
    refine ⟨x, rfl, y, rfl, rfl, rfl, ?_⟩
    refine ⟨y, x, _, _, rfl, hy.same (t11.trans s12), hx.same (t11.trans s12), hd_num r, hd_num q, no_bad, fun _ => ⟨r, q, 97, rfl, rfl, b2, b1, by decide, fun H13 s13 => ?_⟩⟩
    have t13 := (t11.trans s12).trans s13
    refine ⟨x, rfl, y, rfl, ofR q, ofR r, dp_num (hx.same t13), dp_num (hy.same t13), shaped_num q, shaped_num r, ?_⟩
    rw [eqv_num]
    refine ⟨by show 3 ≤ sizeLine; decide, fun l3 nl3 => ?_⟩
    have u14 : Same H13 (upd H13 l3 (.lst [.bl (decide (q < r)), .bl (decide (r < q)), .bl (decide (q = r))])) := same_upd nl3
    have e14 : (upd H13 l3 (.lst [.bl (decide (q < r)), .bl (decide (r < q)), .bl (decide (q = r))])) l3 = some (.lst ([decide (q < r), decide (r < q), decide (q = r)].map V.bl)) := upd_same
    have t14 := t13.trans u14
    revert u14 e14 t14
    generalize upd H13 l3 (.lst [.bl (decide (q < r)), .bl (decide (r < q)), .bl (decide (q = r))]) = H14
    intro u14 e14 t14
    refine ⟨.inl ⟨rfl, _, .inl (.inl e14)⟩, l3, _, true, rfl, rfl, .inl (.inl e14), ?_⟩
    rw [count3]
    refine ⟨.int 1, .int 1, .int 1, .int 1, rfl, rfl, _, rfl, ?_⟩
    refine iteF ?_
    have fin : ∀ {G : Hp}, Same H2 G → Q (.bl true) G := fun s => qq _ (p2.same s) (o12.trans (Off.same s))
    refine ⟨y, rfl, ofR r, .int 0, dp_num (hy.same t14), .int 0, shaped_num r, rfl, _, rfl, ?_⟩
    rw [eqv_zero]
    by_cases z : r = ((0 : Int) : Rat)
    · rw [decide_eq_true z]
      exact iteT (fin t14)
    · rw [decide_eq_false z]
      refine iteF ?_
      -- times(divided(x, y), y)
      refine ⟨x, rfl, y, rfl, ?_⟩
      refine div_ok (k := 97) (hx.same t14) (hy.same t14) b1 b2 (by decide) (by decide) z fun v8 H15 s15 f15 => ?_
      refine ⟨y, rfl, ?_⟩
      have bd : Bq 195 (q / r) := by
        rw [Rat.div_def]
        exact (bq_mul b1 (bq_inv b2 z)).mono (by decide)
      refine two_ok (k := 195) f15.dq (hy.same (t14.trans s15)) bd (b2.mono (by decide)) (by decide) fun v9 H16 s16 f16 => ?_
      have z' : r ≠ 0 := z
      have e5 : rprod [q / r, r] = q := by
        rw [prod_two]
        grind
      rw [e5] at f16
      have t16 := (t14.trans s15).trans s16
      -- divided(second = y, first = times(x, y))
      refine ⟨y, rfl, x, rfl, y, rfl, ?_⟩
      refine two_ok (k := 97) (hx.same t16) (hy.same t16) b1 b2 (by decide) fun v10 H17 s17 f17 => ?_
      rw [prod_two] at f17
      refine ⟨rfl, rfl, ?_⟩
      refine div_ok (k := 195) f17.dq (hy.same (t16.trans s17)) ((bq_mul b1 b2).mono (by decide)) (b2.mono (by decide)) (by decide) (by decide) z fun v11 H18 s18 f18 => ?_
      have e6 : q * r / r = q := by grind
      rw [e6] at f18
      have t18 := (t16.trans s17).trans s18
      refine ⟨by show 2 ≤ sizeLine; decide, fun l4 nl4 => ?_⟩
      have u19 : Same H18 (upd H18 l4 (.lst [v9, v11])) := same_upd nl4
      obtain ⟨w0, w1, w2⟩ := small_nums (qs := [q, q]) (fun z hz => by
        simp only [List.mem_cons, List.not_mem_nil, or_false] at hz
        rcases hz with rfl | rfl
        · exact b1.mono (by decide)
        · exact b1.mono (by decide)) (by show 2 ≤ 4; decide)
      refine ⟨_, rfl, .ref l4, _, rfl, (.lst (.inl (.inl upd_same)) (.cons (f16.dq.same ((s17.trans s18).trans u19)) (.cons (f18.dq.same u19) .nil)) : Dq K _ _ (.list ([q, q].map ofR))), w0, w1, w2, ?_⟩
      have t19 := t18.trans u19
      revert t19
      generalize upd H18 l4 (.lst [v9, v11]) = H19
      intro t19
      refine ⟨x, rfl, x, rfl, by show 2 ≤ sizeLine; decide, fun l5 nl5 => ?_⟩
      have u20 : Same H19 (upd H19 l5 (.lst [x, x])) := same_upd nl5
      refine ⟨.ref l5, _, rfl, (.lst (.inl (.inl upd_same)) (.cons (hx.same (t19.trans u20)) (.cons (hx.same (t19.trans u20)) .nil)) : Dq K _ _ (.list ([q, q].map ofR))), w0, w1, w2, rfl, ?_⟩
      rw [decide_eq_true rfl]
      exact fin (t19.trans u20)
end
end K13

set_option Elab.async false
set_option linter.all false
set_option maxRecDepth 100000
set_option maxHeartbeats 4000000
namespace K13
open PySem PySem.Spec PyProof.Rows L2 Lw
section
variable {P : Program} {w : World} {K : PySem.W.Frag} {mg : Str → Option Value} {base : Heap} {f : Addr} {fd : FuncData} {C C2 : Addr}
theorem many_ok {g : List Rat → Rat} {xs : List V} {qs : List Rat} {k : Nat} {H : Hp} {Q : VK} {E : XK} (hd : DqAll K H xs (qs.map ofR)) (hl : qs.length ≤ 9) (hb : ∀ q ∈ qs, Bq k q) (hk : 1 + qs.length * (k + 1) + k ≤ 998) (h : ∀ v H', Same H H' → Fresh K H H' v (ofR (g qs)) → Q v H') : sp_many K C g xs H Q E := by
  have nb : badD (qs.map ofR) = none := bad_none fun x hx => by
    obtain ⟨q, _, rfl⟩ := List.mem_map.mp hx
    exact ofR_num q
  refine ⟨qs.map ofR, hd, by rw [List.length_map]; exact hl, fun d hd => ?_, fun d e => ?_, fun _ => ⟨qs, k, rfl, hb, hk, h⟩⟩
  · obtain ⟨q, _, rfl⟩ := List.mem_map.mp hd
    exact hd_num q
  · rw [nb] at e
    cases e
theorem nine_sum (q r u : Rat) : rsum [q, r, u, ((1 : Int) : Rat), ((0 : Int) : Rat), q, ((-2 : Int) : Rat), r, ((3 : Int) : Rat)] = rsum [q, r, u, q, r, ((2 : Int) : Rat)] := by
  have c0 : ((0 : Int) : Rat) = 0 := rfl
  have c1 : ((1 : Int) : Rat) = 1 := rfl
  have c2 : ((2 : Int) : Rat) = 2 := rfl
  have c3 : ((3 : Int) : Rat) = 3 := rfl
  have c4 : ((-2 : Int) : Rat) = -2 := rfl
  show 0 + q + r + u + ((1 : Int) : Rat) + ((0 : Int) : Rat) + q + ((-2 : Int) : Rat) + r + ((3 : Int) : Rat) = 0 + q + r + u + q + r + ((2 : Int) : Rat)
  rw [c0, c1, c2, c3, c4]
  grind
theorem nine_prod (q r : Rat) : rprod [((1 : Int) : Rat), ((2 : Int) : Rat), q, ((1 : Int) : Rat), ((-1 : Int) : Rat), r, ((1 : Int) : Rat), ((3 : Int) : Rat), ((1 : Int) : Rat)] = ((-6 : Int) : Rat) * q * r := by
  have c1 : ((1 : Int) : Rat) = 1 := rfl
  have c2 : ((2 : Int) : Rat) = 2 := rfl
  have c3 : ((3 : Int) : Rat) = 3 := rfl
  have c4 : ((-1 : Int) : Rat) = -1 := rfl
  have c5 : ((-6 : Int) : Rat) = -6 := rfl
  show 1 * ((1 : Int) : Rat) * ((2 : Int) : Rat) * q * ((1 : Int) : Rat) * ((-1 : Int) : Rat) * r * ((1 : Int) : Rat) * ((3 : Int) : Rat) * ((1 : Int) : Rat) = ((-6 : Int) : Rat) * q * r
  rw [c1, c2, c3, c4, c5]
  grind
theorem ok_nine {fW fS fPr fP fT : Addr} {fdW fdS fdPr : FuncData} (F : FnP K "_law_nine_right" s_nine_right f fd) (T : Tz mg) (B : SysOk base)
    (O_worth : Own P w K mg base CX0 3 "_law_worth" ["_law_pot_here"] (sp_worth K) fW fdW)
    (O_total : Own P w K mg base CX0 4 "_law_total" ["_law_ratios"] (sp_total K) fS fdS) (O_product : Own P w K mg base CX0 3 "_law_product" ["_law_a", "_law_b"] (sp_two K fun q r => q * r) fPr fdPr)
    (O_plus : OwnR P w K mg base 11 "plus" (sp_many K C rsum) fP) (O_times : OwnR P w K mg base 11 "times" (sp_many K C rprod) fT) :
    FnG P w K mg base CX0 15 f fd ["_law_pot_here"] sp_right := by
  refine fn_g F sc_nine_right (fun vs H Q E h => ?_) (fun cdv A outer s H vs Q E hg hr h => ?_)
  · obtain ⟨a, rfl, _⟩ := h
    rfl
  · obtain ⟨a, rfl, hp, qq⟩ := h
    refine ⟨_, PSs.nox (pss_cons (ps_par3 (i := 1) (j := 2) (l := 3) (by rfl) sc_nine_right.nd rfl rfl rfl (by decide) (by decide) (by decide) rfl rfl rfl (pa_cons (pe_own O_worth (hr.mono (by first | decide | omega)) (pa_cons (pv 0) pa_nil)) (pa_cons (pe_own O_worth (hr.mono (by first | decide | omega)) (pa_cons (pv 0) pa_nil)) (pa_cons (pe_own O_worth (hr.mono (by first | decide | omega)) (pa_cons (pv 0) pa_nil)) pa_nil))) (by rfl))
      (pss_cons (ps_set (i := 4) sc_nine_right.nd rfl (Or.inl rfl) (pe_lst (pa_cons (pe_ownF O_plus (hr.mono (by first | decide | omega)) (pa_cons (pv 1) (pa_cons (pv 2) (pa_cons (pv 3) (pa_cons pe_int (pa_cons pe_int (pa_cons (pv 1) (pa_cons (pe_un un_neg pe_int) (pa_cons (pv 2) (pa_cons pe_int pa_nil)))))))))) (pa_cons (pe_ownF O_times (hr.mono (by first | decide | omega)) (pa_cons pe_int (pa_cons pe_int (pa_cons (pv 1) (pa_cons pe_int (pa_cons (pe_un un_neg pe_int) (pa_cons (pv 2) (pa_cons pe_int (pa_cons pe_int (pa_cons pe_int pa_nil)))))))))) pa_nil))))
      (pss_one (ps_ret (pe_cmpR op_eq (pe_callB (call_repr B hg hr.units) (by rfl) T.z_repr (by decide +kernel) (pa_cons (pv 4) pa_nil)) (pe_callB (call_repr B hg hr.units) (by rfl) T.z_repr (by decide +kernel) (pa_cons (pe_lst (pa_cons (pe_own O_total (hr.mono (by first | decide | omega)) (pa_cons (pe_lst (pa_cons (pv 1) (pa_cons (pv 2) (pa_cons (pv 3) (pa_cons (pv 1) (pa_cons (pv 2) (pa_cons pe_int pa_nil))))))) pa_nil)) (pa_cons (pe_own O_product (hr.mono (by first | decide | omega)) (pa_cons (pe_own O_product (hr.mono (by first | decide | omega)) (pa_cons (pe_un un_neg pe_int) (pa_cons (pv 1) pa_nil))) (pa_cons (pv 2) pa_nil))) pa_nil))) pa_nil)) (nomark _)))))), ?_⟩
    refine ⟨.ref a, rfl, a, rfl, hp, fun x q H1 b1 d1 p1 o1 => ⟨.ref a, rfl, a, rfl, p1, fun y r H2 b2 d2 p2 o2 => ⟨.ref a, rfl, a, rfl, p2, fun z u H3 b3 d3 p3 o3 => ⟨_, _, _, rfl, ?_⟩⟩⟩⟩
    have hx : Dq K H3 x (ofR q) := Dq.same off_same (Dq.same o3 (Dq.same o2 d1))
    have hy : Dq K H3 y (ofR r) := Dq.same off_same (Dq.same o3 d2)
    have hz : Dq K H3 z (ofR u) := Dq.same off_same d3
    have o13 := (o1.trans o2).trans o3
    have bi : ∀ {i : Int}, i.natAbs < 2 ^ 3 → Bq 97 (i : Rat) := fun h => bq_int (Nat.lt_of_lt_of_le h (by decide)) (by decide)
    have nb : ∀ t ∈ [q, r, u, ((1 : Int) : Rat), ((0 : Int) : Rat), q, ((-2 : Int) : Rat), r, ((3 : Int) : Rat)], Bq 97 t := fun t ht => by
      simp only [List.mem_cons, List.not_mem_nil, or_false] at ht
      rcases ht with rfl | rfl | rfl | rfl | rfl | rfl | rfl | rfl | rfl
      · exact b1
      · exact b2
      · exact b3
      · exact bi (by decide)
      · exact bi (by decide)
      · exact b1
      · exact bi (by decide)
      · exact b2
      · exact bi (by decide)
    have mb : ∀ t ∈ [((1 : Int) : Rat), ((2 : Int) : Rat), q, ((1 : Int) : Rat), ((-1 : Int) : Rat), r, ((1 : Int) : Rat), ((3 : Int) : Rat), ((1 : Int) : Rat)], Bq 97 t := fun t ht => by
      simp only [List.mem_cons, List.not_mem_nil, or_false] at ht
      rcases ht with rfl | rfl | rfl | rfl | rfl | rfl | rfl | rfl | rfl
      · exact bi (by decide)
      · exact bi (by decide)
      · exact b1
      · exact bi (by decide)
      · exact bi (by decide)
      · exact b2
      · exact bi (by decide)
      · exact bi (by decide)
      · exact bi (by decide)
    refine ⟨x, rfl, y, rfl, z, rfl, x, rfl, 2, rfl, y, rfl, ?_⟩
    refine many_ok (k := 97) (qs := [q, r, u, ((1 : Int) : Rat), ((0 : Int) : Rat), q, ((-2 : Int) : Rat), r, ((3 : Int) : Rat)]) (.cons hx (.cons hy (.cons hz (.cons dq_int (.cons dq_int (.cons hx (.cons dq_int (.cons hy (.cons dq_int .nil)))))))))
      (by show 9 ≤ 9; decide) nb (by show 1 + 9 * 98 + 97 ≤ 998; decide) fun v1 H4 s4 f4 => ?_
    refine ⟨x, rfl, 1, rfl, y, rfl, ?_⟩
    refine many_ok (k := 97) (qs := [((1 : Int) : Rat), ((2 : Int) : Rat), q, ((1 : Int) : Rat), ((-1 : Int) : Rat), r, ((1 : Int) : Rat), ((3 : Int) : Rat), ((1 : Int) : Rat)])
      (.cons dq_int (.cons dq_int (.cons (hx.same s4) (.cons dq_int (.cons dq_int (.cons (hy.same s4) (.cons dq_int (.cons dq_int (.cons dq_int .nil)))))))))
      (by show 9 ≤ 9; decide) mb (by show 1 + 9 * 98 + 97 ≤ 998; decide) fun v2 H5 s5 f5 => ?_
    have B4 := bq_rsum 9 nb
    have B5 := bq_rprod 9 mb
    rw [show [q, r, u, ((1 : Int) : Rat), ((0 : Int) : Rat), q, ((-2 : Int) : Rat), r, ((3 : Int) : Rat)].take 9 = [q, r, u, ((1 : Int) : Rat), ((0 : Int) : Rat), q, ((-2 : Int) : Rat), r, ((3 : Int) : Rat)] from rfl, nine_sum] at B4
    rw [show [((1 : Int) : Rat), ((2 : Int) : Rat), q, ((1 : Int) : Rat), ((-1 : Int) : Rat), r, ((1 : Int) : Rat), ((3 : Int) : Rat), ((1 : Int) : Rat)].take 9 = [((1 : Int) : Rat), ((2 : Int) : Rat), q, ((1 : Int) : Rat), ((-1 : Int) : Rat), r, ((1 : Int) : Rat), ((3 : Int) : Rat), ((1 : Int) : Rat)] from rfl, nine_prod] at B5
    rw [nine_sum] at f4
    rw [nine_prod] at f5
    have t5 := s4.trans s5
    generalize eS : rsum [q, r, u, q, r, ((2 : Int) : Rat)] = S at f4 B4
    generalize eP : ((-6 : Int) : Rat) * q * r = M at f5 B5
    obtain ⟨y0, y1, y2⟩ := small_nums (qs := [S, M]) (fun t ht => by
      simp only [List.mem_cons, List.not_mem_nil, or_false] at ht
      rcases ht with rfl | rfl
      · exact B4.mono (by decide)
      · exact B5.mono (by decide)) (by show 2 ≤ 4; decide)
    refine ⟨by show 2 ≤ sizeLine; decide, fun l nl => ?_⟩
    have u6 : Same H5 (upd H5 l (.lst [v1, v2])) := same_upd nl
    refine ⟨_, rfl, .ref l, _, rfl, (.lst (.inl (.inl upd_same)) (.cons (f4.dq.same (s5.trans u6)) (.cons (f5.dq.same u6) .nil)) : Dq K _ _ (.list ([S, M].map ofR))), y0, y1, y2, ?_⟩
    have t6 := t5.trans u6
    revert t6
    generalize upd H5 l (.lst [v1, v2]) = H6
    intro t6
    refine ⟨x, rfl, y, rfl, z, rfl, x, rfl, y, rfl, by show 6 ≤ sizeLine; decide, fun m nm => ?_⟩
    have u7 : Same H6 (upd H6 m (.lst [x, y, z, x, y, .int 2])) := same_upd nm
    have t7 := t6.trans u7
    refine ⟨m, _, [q, r, u, q, r, ((2 : Int) : Rat)], rfl, .inl (.inl upd_same), .cons (hx.same t7) (.cons (hy.same t7) (.cons (hz.same t7) (.cons (hx.same t7) (.cons (hy.same t7) (.cons dq_int .nil))))), fun t ht => ?_, by show 6 ≤ 8; decide, fun v3 H8 s8 f8 => ?_⟩
    · simp only [List.mem_cons, List.not_mem_nil, or_false] at ht
      rcases ht with rfl | rfl | rfl | rfl | rfl | rfl
      · exact b1.mono (by decide)
      · exact b2.mono (by decide)
      · exact b3.mono (by decide)
      · exact b1.mono (by decide)
      · exact b2.mono (by decide)
      · exact (bi (by decide)).mono (by decide)
    rw [eS] at f8
    have t8 := t7.trans s8
    refine ⟨6, rfl, x, rfl, ?_⟩
    refine ⟨.int (-6), x, ((-6 : Int) : Rat), q, 3, 97, rfl, dq_int, hx.same t8, bq_int (by decide) (by decide), b1, by decide, fun v4 H9 s9 f9 => ?_⟩
    refine ⟨y, rfl, v4, y, ((-6 : Int) : Rat) * q, r, 100, 97, rfl, f9.dq, hy.same (t8.trans s9), bq_mul (j := 3) (k := 97) (bq_int (by decide) (by decide)) b1, b2, by decide, fun v5 H10 s10 f10 => ?_⟩
    have e10 : (fun q r : Rat => q * r) (((-6 : Int) : Rat) * q) r = M := eP
    rw [e10] at f10
    have t10 := (t8.trans s9).trans s10
    refine ⟨by show 2 ≤ sizeLine; decide, fun l2 nl2 => ?_⟩
    have u11 : Same H10 (upd H10 l2 (.lst [v3, v5])) := same_upd nl2
    refine ⟨.ref l2, _, rfl, (.lst (.inl (.inl upd_same)) (.cons (f8.dq.same ((s9.trans s10).trans u11)) (.cons (f10.dq.same u11) .nil)) : Dq K _ _ (.list ([S, M].map ofR))), y0, y1, y2, rfl, ?_⟩
    rw [decide_eq_true rfl]
    exact qq _ (p3.same (t10.trans u11)) (o13.trans (Off.same (t10.trans u11)))
/-! ### the law -/
theorem off_new {K : PySem.W.Frag} {H : Hp} {p s : Addr} {o : HO} {xs : List V} (h : SqL K H s xs) (n : H p = none) : SqL K (off (upd H p o) p) s xs := by
  refine Same.seq (fun b u e => ?_) h
  rw [off_ne (ne_of_none e n), upd_ne (ne_of_none e n)]
  exact e
def sp_law (K : PySem.W.Frag) : Sp := fun vs H Q _ => ∃ (s : Addr) (ns : List Int), vs = [.ref s] ∧ SqL K H s (ns.map V.int) ∧ ns.length ≤ 63 ∧ ∀ H', Q (.bl true) H'
theorem okd_int {i : Int} (h : i.natAbs < 2 ^ 3) : Okd (.int i) := ⟨⟨by simp [PyData.depth], rfl⟩, fun _ => bq_int (Nat.lt_of_lt_of_le h (by decide +kernel)) (by decide)⟩
theorem due_last : dueD 3 [.int 1, .int 0] = .list [.str "zero", .int 0, .bool true] := due_zero (bad_none fun x hx => by
  simp only [List.mem_cons, List.not_mem_nil, or_false] at hx
  rcases hx with rfl | rfl <;> rfl) (by rw [zero_three]; exact decide_eq_true rfl)
theorem ok_law {fP fR fU fN fM fS fT : Addr} {fdP fdR fdU fdN fdM : FuncData} (F : FnP K "law" s_law f fd) (T : Tz mg) (B : SysOk base)
    (O_pot : Own P w K mg base CX0 1 "_law_pot" ["_law_script", "_law_k"] (sp_pot K) fP fdP)
    (O_right : OwnG P w K mg base CX0 15 "_law_right" ["_law_pot_here"] sp_right fR fdR)
    (O_undone_right : OwnG P w K mg base CX0 15 "_law_undone_right" ["_law_pot_here"] sp_right fU fdU)
    (O_nine_right : OwnG P w K mg base CX0 15 "_law_nine_right" ["_law_pot_here"] sp_right fN fdN)
    (O_told : Own P w K mg base CX0 14 "_law_told" ["_law_way", "_law_some"] (sp_told K) fM fdM)
    (O_plus : OwnR P w K mg base 11 "plus" (sp_many K C rsum) fS) (O_times : OwnR P w K mg base 11 "times" (sp_many K C rprod) fT) :
    FnG P w K mg base CX0 16 f fd ["_law_script"] (sp_law K) := by
  refine fn_g F sc_law (fun vs H Q E h => ?_) (fun cdv A outer s H vs Q E hg hr h => ?_)
  · obtain ⟨a, ns, rfl, _⟩ := h
    rfl
  · obtain ⟨sc, ns, rfl, hS, hl, q⟩ := h
    refine ⟨_, PSs.nox (pss_cons (ps_for PassesOwn.never rfl (pi_range1 (by rfl) T.z_range (pa_cons (pe_callB (call_max2 rfl) (by rfl) T.z_max (by decide +kernel) (pa_cons pe_int (pa_cons (pe_callB (call_min2 rfl) (by rfl) T.z_min (by decide +kernel) (pa_cons pe_int (pa_cons (pe_callB call_len_seq (by rfl) T.z_len (by decide +kernel) (pa_cons (pv 0) pa_nil)) pa_nil))) pa_nil))) pa_nil)) (pg_name (i := 1) sc_law.nd rfl (Or.inl rfl)) (pss_cons (ps_set (i := 2) sc_law.nd rfl (Or.inr rfl) (pe_own O_pot (hr.mono (by first | decide | omega)) (pa_cons (pv 0) (pa_cons (pv 1) pa_nil))))
      (pss_one (ps_if (PW.pt (pw_or (pt_not (pt_val (pe_callB (cr_all rfl) (by rfl) T.z_all (by decide +kernel) (pa_cons (pe_lc (own := [("_law_turn", 3)]) (g := gName 3) (tt := tYes) rfl sc_law.nd (pi_range1 (by rfl) T.z_range (pa_cons pe_int pa_nil)) (blkOk_by (own := [("_law_turn", 3)]) (N := N_law) (sc := defScope s_law) (by decide +kernel)) (fun _ _ _ _ _ => pg_name (i := 3) sc_law.nd rfl (Or.inl rfl)) (fun _ _ _ _ _ => pts_nil) (fun _ _ _ _ _ => (pe_owng O_right hg (hr.mono (by first | decide | omega)) (pa_cons (pv 2) pa_nil)))) pa_nil)))) (pw_or (pt_not (pt_truth (pe_owng O_undone_right hg (hr.mono (by first | decide | omega)) (pa_cons (pv 2) pa_nil)) (by intro _; rfl))) (pw_or1 (pt_not (pt_truth (pe_owng O_nine_right hg (hr.mono (by first | decide | omega)) (pa_cons (pv 2) pa_nil)) (by intro _; rfl))))))) (pss_one (ps_ret pe_bl)) pss_nil))))
      (pss_one (ps_ret (pe_cmpR op_eq (pe_callB (call_repr B hg hr.units) (by rfl) T.z_repr (by decide +kernel) (pa_cons (pe_lst (pa_cons (pe_ownF0 O_plus (hr.mono (by first | decide | omega))) (pa_cons (pe_ownF0 O_times (hr.mono (by first | decide | omega))) (pa_cons (pe_own O_told (hr.mono (by first | decide | omega)) (pa_cons pe_int (pa_cons (pe_lst (pa_cons pe_int (pa_cons pe_int pa_nil))) pa_nil))) pa_nil)))) pa_nil)) (pe_callB (call_repr B hg hr.units) (by rfl) T.z_repr (by decide +kernel) (pa_cons (pe_lst (pa_cons pe_int (pa_cons pe_int (pa_cons (pe_lst (pa_cons pe_str (pa_cons pe_int (pa_cons pe_bl pa_nil)))) pa_nil)))) pa_nil)) (nomark _))))), ?_⟩
    refine ⟨.ref sc, rfl, sc, _, rfl, .inl hS, _, _, rfl, _, _, rfl, _, rfl, ?_, ?_, ?_⟩
    · split <;> split <;> omega
    · rw [List.length_map]
      split <;> split <;> omega
    refine for_range (lo := 0) (n := _) (fun _ σ H1 => ∃ x1 x2 x3, σ = [some (.ref sc), x1, x2, x3] ∧ SqL K H1 sc (ns.map V.int)) ⟨none, none, none, rfl, hS⟩ ?_ ?_
    · rintro i σ H1 hi ⟨x1, x2, x3, rfl, hS1⟩
      have hi1 : i < 1000 := by
        refine Nat.lt_of_lt_of_le hi ?_
        rw [List.length_map]
        split <;> split <;> omega
      refine ⟨.ref sc, rfl, .int i, by show some (some (V.int (0 + i))) = _; rw [Int.zero_add], sc, ns, i, rfl, hS1, hi1, fun a u v na v0 v1 => ?_⟩
      have pa : PotAt (upd H1 a (.lst [.int u, .int v])) a := ⟨u, v, upd_same, v0, v1⟩
      have sa := off_new (o := .lst [.int u, .int v]) hS1 na
      revert pa sa
      generalize upd H1 a (.lst [.int u, .int v]) = H2
      intro pa sa
      refine ⟨10, rfl, by decide, by decide, fun D nD => ?_⟩
      have nDa : D ≠ a := pa.ne nD
      refine lc_range (lo := 0) (n := 10) (fun j H3 => PotAt H3 a ∧ Off a H2 H3 ∧ H3 D = some (.lst ((List.replicate j true).map V.bl))) ⟨pa.put nDa, Off.refl.put nD, upd_same⟩ ?_ ?_
      · rintro j H3 hj ⟨p3, o3, e3⟩
        refine ⟨rfl, .ref a, rfl, a, rfl, p3, fun H4 p4 o4 => ?_⟩
        refine ⟨_, o4.get e3 nDa, ?_, p4.put nDa, (o3.trans o4).put nD, ?_⟩
        · rw [List.length_map, List.length_replicate]
          exact small1000 (by omega)
        · rw [upd_same, List.replicate_succ', List.map_append]
          rfl
      · rintro H3 ⟨p3, o3, e3⟩
        refine ⟨D, _, rfl, .inl (.inl e3), _, rfl, ?_⟩
        refine iteF ⟨.ref a, rfl, a, rfl, p3, fun H4 p4 o4 => ⟨_, rfl, ?_⟩⟩
        refine iteF ⟨.ref a, rfl, a, rfl, p4, fun H5 p5 o5 => ⟨_, rfl, ?_⟩⟩
        refine iteF ⟨_, _, _, rfl, ?_⟩
        exact off_same.seq ((o3.trans (o4.trans o5)).seq sa)
    · rintro σ H1 ⟨x1, x2, x3, rfl, hS1⟩
      refine many_ok (k := 1) (qs := []) .nil (Nat.zero_le _) (fun q hq => nomatch hq) (by decide) fun v1 H2 s2 f2 => ?_
      refine many_ok (k := 1) (qs := []) .nil (Nat.zero_le _) (fun q hq => nomatch hq) (by decide) fun v2 H3 s3 f3 => ?_
      have g2 : Dq K H2 v1 (.int 0) := by
        have := f2.dq
        rw [show rsum [] = ((0 : Int) : Rat) from rfl, ofR_int] at this
        exact this
      have g3 : Dq K H3 v2 (.int 1) := by
        have := f3.dq
        rw [show rprod [] = ((1 : Int) : Rat) from rfl, ofR_int] at this
        exact this
      refine ⟨by show 2 ≤ sizeLine; decide, fun l nl => ?_⟩
      have u4 : Same H3 (upd H3 l (.lst [.int 1, .int 0])) := same_upd nl
      refine ⟨3, l, [.int 1, .int 0], [.int 1, .int 0], rfl, .inl (.inl upd_same), .cons (.int 1) (.cons (.int 0) .nil), by decide, by decide, by show 2 ≤ 4; decide, fun _ => rfl, fun d hd => ?_, fun v3 H4 s4 d4 => ?_⟩
      · simp only [List.mem_cons, List.not_mem_nil, or_false] at hd
        rcases hd with rfl | rfl
        · exact okd_int (by decide)
        · exact okd_int (by decide)
      rw [due_last] at d4
      refine ⟨by show 3 ≤ sizeLine; decide, fun l2 nl2 => ?_⟩
      have u5 : Same H4 (upd H4 l2 (.lst [v1, v2, v3])) := same_upd nl2
      have t5 := (u4.trans s4).trans u5
      refine ⟨.ref l2, .list [.int 0, .int 1, .list [.str "zero", .int 0, .bool true]], rfl, .lst (.inl (.inl upd_same)) (.cons (g2.same (s3.trans t5)) (.cons (g3.same t5) (.cons (d4.same u5) .nil))), by decide +kernel, by decide +kernel, by decide +kernel, ?_⟩
      refine ⟨by show 3 ≤ sizeLine; decide, fun l3 nl3 => ⟨by show 3 ≤ sizeLine; decide, fun l4 nl4 => ?_⟩⟩
      have u7 := same_upd (o := .lst [.int 0, .int 1, .ref l3]) nl4
      refine ⟨.ref l4, .list [.int 0, .int 1, .list [.str "zero", .int 0, .bool true]], rfl, .lst (.inl (.inl upd_same)) (.cons (.int 0) (.cons (.int 1) (.cons (.lst (.inl (.inl (u7 _ _ upd_same))) (.cons (.str _) (.cons (.int 0) (.cons (.bl true) .nil)))) .nil))), by decide +kernel, by decide +kernel, by decide +kernel, rfl, ?_⟩
      rw [decide_eq_true rfl]
      exact q _
end
end K13

set_option Elab.async false
set_option linter.all false
set_option maxRecDepth 100000
set_option maxHeartbeats 0
namespace K13
open PySem PySem.Spec PyProof.Rows L2 Lw
def dd (x : Str) (st : Stmt) : He.DefD := ⟨(x, none), x, x, defArgs st, defBody st, defScope st, [], []⟩
def fn : List He.DefD := [dd "kept" s_kept, dd "is_integer" s_is_integer, dd "common_divisor" s_common_divisor, dd "is_number" s_is_number, dd "check_numbers" s_check_numbers, dd "parts_of" s_parts_of, dd "lowest" s_lowest, dd "plus" s_plus, dd "times" s_times, dd "minus" s_minus, dd "divided" s_divided, dd "is_less" s_is_less,
  dd "_law_pot" s_pot, dd "_law_draw" s_draw, dd "_law_mixed" s_mixed, dd "_law_split" s_split, dd "_law_common" s_common, dd "_law_ratio" s_ratio, dd "_law_sum" s_sum, dd "_law_product" s_product, dd "_law_quotient" s_quotient, dd "_law_total" s_total, dd "_law_worth" s_worth, dd "_law_odd" s_odd, dd "_law_is_ratio" s_is_ratio,
  dd "_law_many" s_many, dd "_law_called" s_called, dd "_law_told" s_told, dd "_law_due" s_due, dd "_law_drawn" s_drawn, dd "_law_right" s_right, dd "_law_undone_right" s_undone_right, dd "_law_nine_right" s_nine_right, dd "law" s_law]
def nm : List Str := (["kept", "is_integer", "common_divisor", "is_number", "check_numbers", "parts_of", "lowest", "plus", "times", "minus", "divided", "is_less"] : List Str) ++ ([
  "_law_pot", "_law_draw", "_law_mixed", "_law_split", "_law_common", "_law_ratio", "_law_sum", "_law_product", "_law_quotient", "_law_total", "_law_worth", "_law_odd", "_law_is_ratio"] : List Str) ++ ([
  "_law_many", "_law_called", "_law_told", "_law_due", "_law_drawn", "_law_right", "_law_undone_right", "_law_nine_right", "law"] : List Str)
def fr : List Str := ["isinstance", "list", "tuple", "dict", "int", "bool", "len", "all", "repr", "range", "max", "min", "abs", "divmod", "ValueError", "ArithmeticError", "super"]
def cl : List Str := ["InvalidNumber", "NoQuotient", "LastheldError", "LimitError", "MissingError", "StateError", "TooMany"]
def fa : List He.Fa := nm.map He.Fa.glo ++ fr.map He.Fa.free ++ cl.map He.Fa.glo
def iD : IniD := ⟨"InvalidNumber", W_ini, "ValueError", "ValueError.__new__", "ValueError.__init__"⟩
def iQ : IniD := ⟨"NoQuotient", W_iniQ, "ArithmeticError", "ArithmeticError.__new__", "ArithmeticError.__init__"⟩
def ex (K : PySem.W.Frag) : Bool :=
  decide (PySem.W.exmOne K (.ref (He.ga K "InvalidNumber")) (.ref (He.ga K "InvalidNumber")) = some true) && (decide (PySem.W.exmOne K (.ref (He.ga K "NoQuotient")) (.ref (He.ga K "InvalidNumber")) = some false) && (decide (PySem.W.exmOne K (.ref (He.ga K "NoQuotient")) (.ref (He.ga K "NoQuotient")) = some true) &&
  (excB K (He.ga K "InvalidNumber") && (excB K (He.ga K "NoQuotient") && (xfB K (He.ga K "InvalidNumber") && (xfB K (He.ga K "NoQuotient") && (He.eqO (PySem.W.findIn K (.ref (He.ga K "InvalidNumber")) "value") (some none) && (He.eqO (PySem.W.findIn K (.ref (He.ga K "NoQuotient")) "value") (some none) &&
  (decide (PySem.W.kitAny K (.ref (He.ga K "InvalidNumber")) [.ref (He.ga K "LimitError"), .ref (He.ga K "MissingError"), .ref (He.ga K "StateError")] = some false) && (decide (PySem.W.kitOne K (.ref (He.ga K "InvalidNumber")) (.ref (He.ga K "LastheldError")) = some true) &&
  (decide (PySem.W.kitAny K (.ref (He.ga K "NoQuotient")) [.ref (He.ga K "LastheldError"), .ref (He.ga K "MissingError"), .ref (He.ga K "StateError"), .ref (He.ga K "TooMany")] = some false) && (decide (PySem.W.kitOne K (.ref (He.ga K "NoQuotient")) (.ref (He.ga K "LimitError")) = some true) &&
  decide (PySem.W.kitOne K (.ref (He.ga K "NoQuotient")) (.type "ArithmeticError") = some true)))))))))))))
abbrev R : PySem.W.OpenRow := PySem.W.OpenLaw.row PySem.Challenge.rw_lastheld_k13_whole_sums_products_quotien
abbrev hk : PySem.W.Hook := hookW 6 (R.prog.main.file : Str) fa fn [iD, iQ] ex
def ob (s : PySem.W.SharedT) : AlW := obsWG 6 (R.prog.main.file : Str) fa fn [iD, iQ] ex (HandSHeadRun.getT s)
theorem ob_eq (s : PySem.W.SharedT) : ob s = hk.obs s.abs := obsWG_eq (HandSHeadRun.getT_eq s)
abbrev names : List Str := (["kept", "LastheldError", "InvalidNumber", "MissingError", "StateError", "LimitError", "TooMany", "NoQuotient", "is_integer", "common_divisor", "is_number", "check_numbers", "parts_of", "lowest", "plus", "times", "minus", "divided", "is_less"] : List Str) ++ ([
  "_law_pot", "_law_draw", "_law_mixed", "_law_split", "_law_common", "_law_ratio", "_law_sum", "_law_product", "_law_quotient", "_law_total", "_law_worth", "_law_odd", "_law_is_ratio"] : List Str) ++ ([
  "_law_many", "_law_called", "_law_told", "_law_due", "_law_drawn", "_law_right", "_law_undone_right", "_law_nine_right"] : List Str)
theorem run (w : World) : HandSHeadRun.RunEq R (PySem.W.view R.prog [44]) hk ob 6000 names w := by
  intro os
  kernel_rfl
end K13

set_option Elab.async false
set_option linter.all false
set_option maxRecDepth 100000
set_option maxHeartbeats 0
namespace K13
open PySem PySem.Spec PyProof.Rows L2 Lw
theorem iniF : IniF R.prog iD := ⟨by kernel_rfl, by kernel_rfl, by kernel_rfl, by kernel_rfl, by kernel_rfl, by kernel_rfl⟩
theorem iniFQ : IniF R.prog iQ := ⟨by kernel_rfl, by kernel_rfl, by kernel_rfl, by kernel_rfl, by kernel_rfl, by kernel_rfl⟩
theorem facts {w : World} {K : PySem.W.Frag} {h : Heap} {mg : Str → Option Value} {f : Addr} (X : K.In h) (G : h.Ns mainGlobals mg) (hfa : mg ("law" : Str) = some (.ref f)) (cw : SaysW (R.prog.main.file : Str) fa fn [iD, iQ] ex K) :
    ∃ fd : FuncData, (∀ (s : Shared) (v : Value), BindsTo s fd ⟨[v], []⟩ [("_law_script", v)]) ∧ ∀ base : Heap, K.In base → base.Ns mainGlobals mg → SysOk base → FnG R.prog w K mg base CX0 16 f fd ["_law_script"] (sp_law K) := by
  have c := cw.d
  obtain ⟨fd0, F0⟩ := c.def_ 0 (d := dd "kept" s_kept) rfl
  have m0 := He.glo_ok X G (c.fact 0 (f := .glo "kept") rfl)
  obtain ⟨fd1, F1⟩ := c.def_ 1 (d := dd "is_integer" s_is_integer) rfl
  have m1 := He.glo_ok X G (c.fact 1 (f := .glo "is_integer") rfl)
  obtain ⟨fd2, F2⟩ := c.def_ 2 (d := dd "common_divisor" s_common_divisor) rfl
  have m2 := He.glo_ok X G (c.fact 2 (f := .glo "common_divisor") rfl)
  obtain ⟨fd3, F3⟩ := c.def_ 3 (d := dd "is_number" s_is_number) rfl
  have m3 := He.glo_ok X G (c.fact 3 (f := .glo "is_number") rfl)
  obtain ⟨fd4, F4⟩ := c.def_ 4 (d := dd "check_numbers" s_check_numbers) rfl
  have m4 := He.glo_ok X G (c.fact 4 (f := .glo "check_numbers") rfl)
  obtain ⟨fd5, F5⟩ := c.def_ 5 (d := dd "parts_of" s_parts_of) rfl
  have m5 := He.glo_ok X G (c.fact 5 (f := .glo "parts_of") rfl)
  obtain ⟨fd6, F6⟩ := c.def_ 6 (d := dd "lowest" s_lowest) rfl
  have m6 := He.glo_ok X G (c.fact 6 (f := .glo "lowest") rfl)
  obtain ⟨fd7, F7⟩ := c.def_ 7 (d := dd "plus" s_plus) rfl
  have m7 := He.glo_ok X G (c.fact 7 (f := .glo "plus") rfl)
  obtain ⟨fd8, F8⟩ := c.def_ 8 (d := dd "times" s_times) rfl
  have m8 := He.glo_ok X G (c.fact 8 (f := .glo "times") rfl)
  obtain ⟨fd9, F9⟩ := c.def_ 9 (d := dd "minus" s_minus) rfl
  have m9 := He.glo_ok X G (c.fact 9 (f := .glo "minus") rfl)
  obtain ⟨fd10, F10⟩ := c.def_ 10 (d := dd "divided" s_divided) rfl
  have m10 := He.glo_ok X G (c.fact 10 (f := .glo "divided") rfl)
  obtain ⟨fd11, F11⟩ := c.def_ 11 (d := dd "is_less" s_is_less) rfl
  have m11 := He.glo_ok X G (c.fact 11 (f := .glo "is_less") rfl)
  obtain ⟨fd12, F12⟩ := c.def_ 12 (d := dd "_law_pot" s_pot) rfl
  have m12 := He.glo_ok X G (c.fact 12 (f := .glo "_law_pot") rfl)
  obtain ⟨fd13, F13⟩ := c.def_ 13 (d := dd "_law_draw" s_draw) rfl
  have m13 := He.glo_ok X G (c.fact 13 (f := .glo "_law_draw") rfl)
  obtain ⟨fd14, F14⟩ := c.def_ 14 (d := dd "_law_mixed" s_mixed) rfl
  have m14 := He.glo_ok X G (c.fact 14 (f := .glo "_law_mixed") rfl)
  obtain ⟨fd15, F15⟩ := c.def_ 15 (d := dd "_law_split" s_split) rfl
  have m15 := He.glo_ok X G (c.fact 15 (f := .glo "_law_split") rfl)
  obtain ⟨fd16, F16⟩ := c.def_ 16 (d := dd "_law_common" s_common) rfl
  have m16 := He.glo_ok X G (c.fact 16 (f := .glo "_law_common") rfl)
  obtain ⟨fd17, F17⟩ := c.def_ 17 (d := dd "_law_ratio" s_ratio) rfl
  have m17 := He.glo_ok X G (c.fact 17 (f := .glo "_law_ratio") rfl)
  obtain ⟨fd18, F18⟩ := c.def_ 18 (d := dd "_law_sum" s_sum) rfl
  have m18 := He.glo_ok X G (c.fact 18 (f := .glo "_law_sum") rfl)
  obtain ⟨fd19, F19⟩ := c.def_ 19 (d := dd "_law_product" s_product) rfl
  have m19 := He.glo_ok X G (c.fact 19 (f := .glo "_law_product") rfl)
  obtain ⟨fd20, F20⟩ := c.def_ 20 (d := dd "_law_quotient" s_quotient) rfl
  have m20 := He.glo_ok X G (c.fact 20 (f := .glo "_law_quotient") rfl)
  obtain ⟨fd21, F21⟩ := c.def_ 21 (d := dd "_law_total" s_total) rfl
  have m21 := He.glo_ok X G (c.fact 21 (f := .glo "_law_total") rfl)
  obtain ⟨fd22, F22⟩ := c.def_ 22 (d := dd "_law_worth" s_worth) rfl
  have m22 := He.glo_ok X G (c.fact 22 (f := .glo "_law_worth") rfl)
  obtain ⟨fd23, F23⟩ := c.def_ 23 (d := dd "_law_odd" s_odd) rfl
  have m23 := He.glo_ok X G (c.fact 23 (f := .glo "_law_odd") rfl)
  obtain ⟨fd24, F24⟩ := c.def_ 24 (d := dd "_law_is_ratio" s_is_ratio) rfl
  have m24 := He.glo_ok X G (c.fact 24 (f := .glo "_law_is_ratio") rfl)
  obtain ⟨fd25, F25⟩ := c.def_ 25 (d := dd "_law_many" s_many) rfl
  have m25 := He.glo_ok X G (c.fact 25 (f := .glo "_law_many") rfl)
  obtain ⟨fd26, F26⟩ := c.def_ 26 (d := dd "_law_called" s_called) rfl
  have m26 := He.glo_ok X G (c.fact 26 (f := .glo "_law_called") rfl)
  obtain ⟨fd27, F27⟩ := c.def_ 27 (d := dd "_law_told" s_told) rfl
  have m27 := He.glo_ok X G (c.fact 27 (f := .glo "_law_told") rfl)
  obtain ⟨fd28, F28⟩ := c.def_ 28 (d := dd "_law_due" s_due) rfl
  have m28 := He.glo_ok X G (c.fact 28 (f := .glo "_law_due") rfl)
  obtain ⟨fd29, F29⟩ := c.def_ 29 (d := dd "_law_drawn" s_drawn) rfl
  have m29 := He.glo_ok X G (c.fact 29 (f := .glo "_law_drawn") rfl)
  obtain ⟨fd30, F30⟩ := c.def_ 30 (d := dd "_law_right" s_right) rfl
  have m30 := He.glo_ok X G (c.fact 30 (f := .glo "_law_right") rfl)
  obtain ⟨fd31, F31⟩ := c.def_ 31 (d := dd "_law_undone_right" s_undone_right) rfl
  have m31 := He.glo_ok X G (c.fact 31 (f := .glo "_law_undone_right") rfl)
  obtain ⟨fd32, F32⟩ := c.def_ 32 (d := dd "_law_nine_right" s_nine_right) rfl
  have m32 := He.glo_ok X G (c.fact 32 (f := .glo "_law_nine_right") rfl)
  obtain ⟨fd33, F33⟩ := c.def_ 33 (d := dd "law" s_law) rfl
  have m33 := He.glo_ok X G (c.fact 33 (f := .glo "law") rfl)
  have e := hfa.symm.trans m33
  cases e
  have T : Tz mg := ⟨He.free_ok X G (c.fact 34 rfl), He.free_ok X G (c.fact 35 rfl), He.free_ok X G (c.fact 36 rfl), He.free_ok X G (c.fact 37 rfl), He.free_ok X G (c.fact 38 rfl), He.free_ok X G (c.fact 39 rfl), He.free_ok X G (c.fact 40 rfl), He.free_ok X G (c.fact 41 rfl), He.free_ok X G (c.fact 42 rfl), He.free_ok X G (c.fact 43 rfl), He.free_ok X G (c.fact 44 rfl), He.free_ok X G (c.fact 45 rfl), He.free_ok X G (c.fact 46 rfl), He.free_ok X G (c.fact 47 rfl), He.free_ok X G (c.fact 48 rfl), He.free_ok X G (c.fact 49 rfl), He.free_ok X G (c.fact 50 rfl)⟩
  have k0 := He.glo_ok X G (c.fact 51 (f := .glo "InvalidNumber") rfl)
  have k1 := He.glo_ok X G (c.fact 52 (f := .glo "NoQuotient") rfl)
  have k2 := He.glo_ok X G (c.fact 53 (f := .glo "LastheldError") rfl)
  have k3 := He.glo_ok X G (c.fact 54 (f := .glo "LimitError") rfl)
  have k4 := He.glo_ok X G (c.fact 55 (f := .glo "MissingError") rfl)
  have k5 := He.glo_ok X G (c.fact 56 (f := .glo "StateError") rfl)
  have k6 := He.glo_ok X G (c.fact 57 (f := .glo "TooMany") rfl)
  obtain ⟨fdI, RI⟩ := ini_of (d := iD) X G T.z_super iniF (cw.i iD (List.mem_cons_self ..)).2 (cw.i iD (List.mem_cons_self ..)).1
  obtain ⟨fdJ, RJ⟩ := ini_of (d := iQ) X G T.z_super iniFQ (cw.i iQ (List.mem_cons_of_mem _ (List.mem_singleton.mpr rfl))).2 (cw.i iQ (List.mem_cons_of_mem _ (List.mem_singleton.mpr rfl))).1
  have cx := cw.ex
  unfold ex at cx
  simp only [Bool.and_eq_true] at cx
  obtain ⟨x1, x2, x3, x4, x5, x6, x7, x8, x9, x10, x11, x12, x13, x14⟩ := cx
  have TC : Tc K mg (He.ga K "InvalidNumber") (He.ga K "NoQuotient") (He.ga K "LastheldError") (He.ga K "LimitError") (He.ga K "MissingError") (He.ga K "StateError") (He.ga K "TooMany") :=
    ⟨k0, k1, k2, k3, k4, k5, k6, of_decide_eq_true x1, of_decide_eq_true x2, of_decide_eq_true x3, excB_ok x4, excB_ok x5, xfB_ok x6, xfB_ok x7, He.eqO_ok x8, He.eqO_ok x9, of_decide_eq_true x10, of_decide_eq_true x11, of_decide_eq_true x12, of_decide_eq_true x13, of_decide_eq_true x14⟩
  have b := FunD.bindsA (ps := ["_law_script"]) F33 fun _ _ _ _ _ _ us hl => match us, hl with | [_], _ => rfl
  refine ⟨fd33, fun s v => b s [v] rfl, fun base _ _ B => ?_⟩
  have O0 : ∀ n, Own R.prog w K mg base CX0 (n + 1) "kept" ["value"] (sp_kept K n) _ fd0 := fun n => ⟨ok_kept F0 T m0 n, m0, F0.kp, F0.bindsN fun _ _ _ _ _ _ us hl => match us, hl with | [_], _ => rfl⟩
  have O1 : Own R.prog w K mg base CX0 1 "is_integer" ["value"] (sp_int K) _ fd1 := ⟨ok_is_integer F1 T, m1, F1.kp, F1.bindsN fun _ _ _ _ _ _ us hl => match us, hl with | [_], _ => rfl⟩
  have O2 : Own R.prog w K mg base CX0 1 "common_divisor" ["first", "second"] sp_gcd _ fd2 := ⟨ok_common_divisor F2 T, m2, F2.kp, F2.bindsN fun _ _ _ _ _ _ us hl => match us, hl with | [_, _], _ => rfl⟩
  have O3 : Own R.prog w K mg base CX0 2 "is_number" ["value"] (sp_num K) _ fd3 := ⟨ok_is_number F3 T O1 O2, m3, F3.kp, F3.bindsN fun _ _ _ _ _ _ us hl => match us, hl with | [_], _ => rfl⟩
  have O5 : Own R.prog w K mg base CX0 1 "parts_of" ["value"] (sp_parts K) _ fd5 := ⟨ok_parts_of F5 T, m5, F5.kp, F5.bindsN fun _ _ _ _ _ _ us hl => match us, hl with | [_], _ => rfl⟩
  have O6 : Own R.prog w K mg base CX0 2 "lowest" ["numerator", "denominator"] (sp_lowest K) _ fd6 := ⟨ok_lowest F6 T O2, m6, F6.kp, F6.bindsN fun _ _ _ _ _ _ us hl => match us, hl with | [_, _], _ => rfl⟩
  obtain ⟨cc, cda, SI⟩ := RI.s
  have EI : OwnE R.prog w K mg base 8 "InvalidNumber" ["self", "value"] (sp_ini K (He.ga K "InvalidNumber") 5) (He.ga K "InvalidNumber") (iniAt K iD) fdI (tlOf "ValueError") "ValueError.__new__" :=
    ⟨RI.t, RI.i, RI.ti, ok_ini (n := 5) RI.t SI TC.hno RI.lk (O0 6), RI.binds fun _ _ _ _ _ us hl => match us, hl with | [_, _], _ => rfl, RI.m⟩
  obtain ⟨cc2, cda2, SJ⟩ := RJ.s
  have EJ : OwnE R.prog w K mg base 8 "NoQuotient" ["self", "value"] (sp_ini K (He.ga K "NoQuotient") 5) (He.ga K "NoQuotient") (iniAt K iQ) fdJ (tlOf "ArithmeticError") "ArithmeticError.__new__" :=
    ⟨RJ.t, RJ.i, RJ.ti, ok_iniQ (n := 5) RJ.t SJ TC.hno2 RJ.lk (O0 6), RJ.binds fun _ _ _ _ _ us hl => match us, hl with | [_, _], _ => rfl, RJ.m⟩
  have K4 : FnOk R.prog w K mg base (L2.CX R.prog w) 10 _ fd4 ["values"] (sp_check K (He.ga K "InvalidNumber")) := ok_check_numbers F4 T EI O3
  have O4 : OwnR R.prog w K mg base 10 "check_numbers" (sp_check K (He.ga K "InvalidNumber")) _ := ownR_of K4 (F4.bindsN fun _ _ _ _ _ _ us hl => match us, hl with | [_], _ => rfl) m4 F4.kp
  have O7 : OwnR R.prog w K mg base 11 "plus" (sp_many K (He.ga K "InvalidNumber") rsum) _ := ⟨ok_plus F7 T O4 O5 O6, m7, F7.kp⟩
  have O8 : OwnR R.prog w K mg base 11 "times" (sp_many K (He.ga K "InvalidNumber") rprod) _ := ⟨ok_times F8 T O4 O5 O6, m8, F8.kp⟩
  have K9 : FnOk R.prog w K mg base (L2.CX R.prog w) 12 _ fd9 ["first", "second"] (sp_minus K (He.ga K "InvalidNumber")) := ok_minus F9 T O4 O7 O8
  have O9 : OwnR R.prog w K mg base 12 "minus" (sp_minus K (He.ga K "InvalidNumber")) _ := ownR_of K9 (F9.bindsN fun _ _ _ _ _ _ us hl => match us, hl with | [_, _], _ => rfl) m9 F9.kp
  have K10 : FnOk R.prog w K mg base (L2.CX R.prog w) 12 _ fd10 ["first", "second"] (sp_div K (He.ga K "InvalidNumber") (He.ga K "NoQuotient")) := ok_divided F10 T O4 O8 O5 O6 EJ
  have O10 : OwnR R.prog w K mg base 12 "divided" (sp_div K (He.ga K "InvalidNumber") (He.ga K "NoQuotient")) _ := ownR_of K10 (F10.bindsN fun _ _ _ _ _ _ us hl => match us, hl with | [_, _], _ => rfl) m10 F10.kp
  have K11 : FnOk R.prog w K mg base (L2.CX R.prog w) 12 _ fd11 ["first", "second"] (sp_less K (He.ga K "InvalidNumber")) := ok_is_less F11 T O4 O5
  have O11 : OwnR R.prog w K mg base 12 "is_less" (sp_less K (He.ga K "InvalidNumber")) _ := ownR_of K11 (F11.bindsN fun _ _ _ _ _ _ us hl => match us, hl with | [_, _], _ => rfl) m11 F11.kp
  have O12 : Own R.prog w K mg base CX0 1 "_law_pot" ["_law_script", "_law_k"] (sp_pot K) _ fd12 := ⟨ok_pot F12 T, m12, F12.kp, F12.bindsN fun _ _ _ _ _ _ us hl => match us, hl with | [_, _], _ => rfl⟩
  have O13 : Own R.prog w K mg base CX0 1 "_law_draw" ["_law_pot_here", "_law_many_here"] sp_draw _ fd13 := ⟨ok_draw F13 T, m13, F13.kp, F13.bindsN fun _ _ _ _ _ _ us hl => match us, hl with | [_, _], _ => rfl⟩
  have O14 : Own R.prog w K mg base CX0 2 "_law_mixed" ["_law_pot_here", "_law_given"] (sp_mixed K) _ fd14 := ⟨ok_mixed F14 T O13, m14, F14.kp, F14.bindsN fun _ _ _ _ _ _ us hl => match us, hl with | [_, _], _ => rfl⟩
  have O15 : Own R.prog w K mg base CX0 1 "_law_split" ["_law_ratio_here"] (sp_parts K) _ fd15 := ⟨ok_split F15 T, m15, F15.kp, F15.bindsN fun _ _ _ _ _ _ us hl => match us, hl with | [_], _ => rfl⟩
  have O16 : Own R.prog w K mg base CX0 1 "_law_common" ["_law_a", "_law_b"] sp_gcd _ fd16 := ⟨ok_common F16 T, m16, F16.kp, F16.bindsN fun _ _ _ _ _ _ us hl => match us, hl with | [_, _], _ => rfl⟩
  have O17 : Own R.prog w K mg base CX0 2 "_law_ratio" ["_law_top", "_law_low"] (sp_lowest K) _ fd17 := ⟨ok_ratio F17 T O16, m17, F17.kp, F17.bindsN fun _ _ _ _ _ _ us hl => match us, hl with | [_, _], _ => rfl⟩
  have O18 : Own R.prog w K mg base CX0 3 "_law_sum" ["_law_a", "_law_b"] (sp_two K fun q r => q + r) _ fd18 := ⟨ok_sum F18 T O15 O17, m18, F18.kp, F18.bindsN fun _ _ _ _ _ _ us hl => match us, hl with | [_, _], _ => rfl⟩
  have O19 : Own R.prog w K mg base CX0 3 "_law_product" ["_law_a", "_law_b"] (sp_two K fun q r => q * r) _ fd19 := ⟨ok_product F19 T O15 O17, m19, F19.kp, F19.bindsN fun _ _ _ _ _ _ us hl => match us, hl with | [_, _], _ => rfl⟩
  have O20 : Own R.prog w K mg base CX0 3 "_law_quotient" ["_law_a", "_law_b"] (sp_quo K) _ fd20 := ⟨ok_quotient F20 T O15 O17, m20, F20.kp, F20.bindsN fun _ _ _ _ _ _ us hl => match us, hl with | [_, _], _ => rfl⟩
  have O21 : Own R.prog w K mg base CX0 4 "_law_total" ["_law_ratios"] (sp_total K) _ fd21 := ⟨ok_total F21 T O18, m21, F21.kp, F21.bindsN fun _ _ _ _ _ _ us hl => match us, hl with | [_], _ => rfl⟩
  have O22 : Own R.prog w K mg base CX0 3 "_law_worth" ["_law_pot_here"] (sp_worth K) _ fd22 := ⟨ok_worth F22 T O13 O17, m22, F22.kp, F22.bindsN fun _ _ _ _ _ _ us hl => match us, hl with | [_], _ => rfl⟩
  have O23 : Own R.prog w K mg base CX0 2 "_law_odd" ["_law_pot_here"] (sp_oddF K) _ fd23 := ⟨ok_oddF F23 T O13, m23, F23.kp, F23.bindsN fun _ _ _ _ _ _ us hl => match us, hl with | [_], _ => rfl⟩
  have O24 : Own R.prog w K mg base CX0 2 "_law_is_ratio" ["_law_thing"] (sp_num K) _ fd24 := ⟨ok_is_ratio F24 T O16, m24, F24.kp, F24.bindsN fun _ _ _ _ _ _ us hl => match us, hl with | [_], _ => rfl⟩
  have K25 : FnOk R.prog w K mg base (L2.CX R.prog w) 12 _ fd25 ["_law_way", "_law_some"] (sp_lmany K (He.ga K "InvalidNumber")) := ok_many F25 T O7 O8
  have O25 : OwnR R.prog w K mg base 12 "_law_many" (sp_lmany K (He.ga K "InvalidNumber")) _ := ownR_of K25 (F25.bindsN fun _ _ _ _ _ _ us hl => match us, hl with | [_, _], _ => rfl) m25 F25.kp
  have K26 : FnOk R.prog w K mg base (L2.CX R.prog w) 13 _ fd26 ["_law_way", "_law_some"] (sp_called K (He.ga K "InvalidNumber") (He.ga K "NoQuotient")) := ok_called F26 T O25 O9 O10 O11
  have O26 : OwnR R.prog w K mg base 13 "_law_called" (sp_called K (He.ga K "InvalidNumber") (He.ga K "NoQuotient")) _ := ownR_of K26 (F26.bindsN fun _ _ _ _ _ _ us hl => match us, hl with | [_, _], _ => rfl) m26 F26.kp
  have O27 : Own R.prog w K mg base CX0 14 "_law_told" ["_law_way", "_law_some"] (sp_told K) _ fd27 := ⟨ok_told F27 T TC O26, m27, F27.kp, F27.bindsN fun _ _ _ _ _ _ us hl => match us, hl with | [_, _], _ => rfl⟩
  have O28 : Own R.prog w K mg base CX0 4 "_law_due" ["_law_way", "_law_some"] (sp_told K) _ fd28 := ⟨ok_due F28 T O24 O15 O18 O19 O20, m28, F28.kp, F28.bindsN fun _ _ _ _ _ _ us hl => match us, hl with | [_, _], _ => rfl⟩
  have O29 : Own R.prog w K mg base CX0 4 "_law_drawn" ["_law_pot_here", "_law_many_here"] (sp_drawn K) _ fd29 := ⟨ok_drawn F29 T O13 O22 O19, m29, F29.kp, F29.bindsN fun _ _ _ _ _ _ us hl => match us, hl with | [_, _], _ => rfl⟩
  have O30 : OwnG R.prog w K mg base CX0 15 "_law_right" ["_law_pot_here"] sp_right _ fd30 := ⟨ok_right F30 T B O13 O23 O29 O27 O28 O24 O3 O14, m30, F30.kp, F30.bindsN fun _ _ _ _ _ _ us hl => match us, hl with | [_], _ => rfl⟩
  have X9 : OwnX R.prog w K mg base 12 "minus" ["first", "second"] (sp_minus K (He.ga K "InvalidNumber")) _ fd9 := ⟨K9, m9, F9.kp⟩
  have W9 := kb2 (a := "first") (b := "second") F9 fun _ _ _ _ _ _ _ _ => rfl
  have X10 : OwnX R.prog w K mg base 12 "divided" ["first", "second"] (sp_div K (He.ga K "InvalidNumber") (He.ga K "NoQuotient")) _ fd10 := ⟨K10, m10, F10.kp⟩
  have W10 := kb2 (a := "first") (b := "second") F10 fun _ _ _ _ _ _ _ _ => rfl
  have X11 : OwnX R.prog w K mg base 12 "is_less" ["first", "second"] (sp_less K (He.ga K "InvalidNumber")) _ fd11 := ⟨K11, m11, F11.kp⟩
  have W11 := kb2 (a := "first") (b := "second") F11 fun _ _ _ _ _ _ _ _ => rfl
  have O31 : OwnG R.prog w K mg base CX0 15 "_law_undone_right" ["_law_pot_here"] sp_right _ fd31 := ⟨ok_undone F31 T B O22 O18 O19 O7 O8 O9 O10 O11 X9 W9 X10 W10 X11 W11, m31, F31.kp, F31.bindsN fun _ _ _ _ _ _ us hl => match us, hl with | [_], _ => rfl⟩
  have O32 : OwnG R.prog w K mg base CX0 15 "_law_nine_right" ["_law_pot_here"] sp_right _ fd32 := ⟨ok_nine F32 T B O22 O21 O19 O7 O8, m32, F32.kp, F32.bindsN fun _ _ _ _ _ _ us hl => match us, hl with | [_], _ => rfl⟩
  exact ok_law F33 T B O12 O30 O31 O32 O27 O7 O8
end K13
open PySem PySem.W PySem.Calls PyProof.Rows
theorem PySem.Challenge.cw_lastheld_k13_whole_sums_products_quotien_holds : PySem.Challenge.rw_lastheld_k13_whole_sums_products_quotien.Holds := by
  w_on; o_law
  refine HandSHeadRun.head_any (r := OpenLaw.row PySem.Challenge.rw_lastheld_k13_whole_sums_products_quotien) (q := view (OpenLaw.row PySem.Challenge.rw_lastheld_k13_whole_sums_products_quotien).prog [44]) (H := K13.hk) (ob := K13.ob) (M := 6000) (loose := K13.names)
    (d := HandSHeadRun.topDef (OpenLaw.row PySem.Challenge.rw_lastheld_k13_whole_sums_products_quotien).prog 44) (kwd := []) K13.ob_eq
    (by kernel_rfl) (fun s => by kernel_rfl) K13.run (by kernel_rfl) (by kernel_rfl) (by kernel_rfl) (by rfl) (by first | assumption | decide +kernel) (by decide +kernel) ⟨rfl, rfl, rfl, rfl, rfl, by decide +kernel⟩ ?hw ?hc
  case hw => w_witness2
  case hc =>
    refine Lw.walk_g (l := PySem.Challenge.rw_lastheld_k13_whole_sums_products_quotien) (n := 63) (k := 16) (x := "_law_script") (CX := L2.CX0) rfl (by decide) (by kernel_rfl) (by kernel_rfl) ⟨rfl, by decide, by decide⟩ ?F (fun _ _ _ _ z => z)
    intro w mg fa h Y G hmg0
    obtain ⟨K, KX, c⟩ := Y
    have hmg : mg ("law" : PySem.Str) = some (.ref fa) := by
      have e : (HandSHeadRun.topDef (OpenLaw.row PySem.Challenge.rw_lastheld_k13_whole_sums_products_quotien).prog 44).name = ("law" : PySem.Str) := by kernel_rfl
      rw [← e]
      exact hmg0
    obtain ⟨fd, hb, hF⟩ := K13.facts (w := w) KX G hmg c
    exact ⟨K, fd, K13.sp_law K, KX, hb, fun H a ns hl _ hS => ⟨a, ns, rfl, hS, hl, fun _ => rfl⟩, hF⟩


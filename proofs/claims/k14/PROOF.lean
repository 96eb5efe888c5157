import PyProof.Rows.All
import Wide.All
import OpenK.AllK
import Wide.FinOn
import PyProof.ReprRoads
import PyProof.StrBlock2
import HandS.ForMost
import HandS.Walk
import HandS.IsInst
import HandS.Defaults
import HandS.Flow
import HandS.Wide
import HandS.HeadEnd
import HandS.ForExc
import HandS.ExcInit
import HandS.ExcIs
import HandS.ExcField
import HandS.NestedK
import KE.KExcSuper
import HandS.StrMore
import HandS.Style
import KE.IntTextText
import PyProof.StrLawsChain
import HandS.Head0
import HandS.Head1
import HandS.Head2
import HandS.HeadHook1
import HandS.HeadHook2
import HandS.Star
import HandS.CallSlots
import HandS.MakeKw
import HandS.DictComp
import HandS.WideBits
import PySem.Challenge.RW_lastheld_k14_number_texts
set_option Elab.async false
set_option linter.all false
set_option maxRecDepth 100000
set_option maxHeartbeats 2000000
namespace Lw
open PySem PySem.Spec PyProof.Rows L2

/-! ## data with empty dicts, and repr -/
mutual
inductive Dq (K : PySem.W.Frag) (H : Hp) : V → PyData → Prop
  | non : Dq K H .non .none
  | bl (b : Bool) : Dq K H (.bl b) (.bool b)
  | int (i : Int) : Dq K H (.int i) (.int i)
  | str (x : Str) : Dq K H (.str x) (.str x)
  | lst {a : Addr} {xs : List V} {ds : List PyData} (h : SqL K H a xs) (g : DqAll K H xs ds) : Dq K H (.ref a) (.list ds)
  | tup {a : Addr} {xs : List V} {ds : List PyData} (h : SqT K H a xs) (g : DqAll K H xs ds) : Dq K H (.ref a) (.tuple ds)
  | dic {a : Addr} (h : H a = some (.dK [])) : Dq K H (.ref a) (.dict [])
inductive DqAll (K : PySem.W.Frag) (H : Hp) : List V → List PyData → Prop
  | nil : DqAll K H [] []
  | cons {v : V} {vs : List V} {d : PyData} {ds : List PyData} (h : Dq K H v d) (g : DqAll K H vs ds) : DqAll K H (v :: vs) (d :: ds)
end

theorem same_t {K : PySem.W.Frag} {H H' : Hp} {a : Addr} {xs : List V} (e : Same H H') (h : SqT K H a xs) : SqT K H' a xs := by
  rcases h with (h | ⟨o, h⟩) | h
  · exact .inl (.inl (e _ _ h))
  · exact .inl (.inr ⟨o, e _ _ h⟩)
  · exact .inr h
theorem same_upd {H : Hp} {p : Addr} {o : HO} (h : H p = none) : Same H (upd H p o) := fun b x e => by
  rw [upd_ne (ne_of_none e h)]
  exact e
mutual
theorem Dq.same {K : PySem.W.Frag} {H H' : Hp} (e : Same H H') : ∀ {v : V} {d : PyData}, Dq K H v d → Dq K H' v d
  | _, _, .non => .non
  | _, _, .bl b => .bl b
  | _, _, .int i => .int i
  | _, _, .str x => .str x
  | _, _, .lst h g => .lst (e.seq h) (DqAll.same e g)
  | _, _, .tup h g => .tup (same_t e h) (DqAll.same e g)
  | _, _, .dic h => .dic (e _ _ h)
theorem DqAll.same {K : PySem.W.Frag} {H H' : Hp} (e : Same H H') : ∀ {v : List V} {d : List PyData}, DqAll K H v d → DqAll K H' v d
  | _, _, .nil => .nil
  | _, _, .cons h g => .cons (Dq.same e h) (DqAll.same e g)
end

/-- the table of modules stands, and is a dict -/
def SysOk (h : Heap) : Prop := ∃ o es ep, h.get? sysModules = some o ∧ o.data = Data.dict es ep

section
variable {X : Cx} {pins : List (Addr × Obj)} {σ : L2.St} {H : Hp} {s : Shared}
theorem no_sys (B : SysOk X.base) (I : Inv X pins σ H s) {a : Addr} {o : Obj} {vs : Array Value} {n : Nat} (h : s.heap.get? a = some o) (hd : o.data = .seq vs n) : sysModules ≠ a := by
  obtain ⟨o', es, ep, e1, e2⟩ := B
  intro z
  have e3 := I.bk _ _ e1
  rw [z, h] at e3
  cases e3
  rw [hd] at e2
  cases e2
theorem dict0 (I : Inv X pins σ H s) {a : Addr} (h : H a = some (.dK [])) : ∃ o es ep, s.heap.get? a = some o ∧ o.cls = .type "dict" ∧ o.data = Data.dict es ep ∧ es.toList = [] ∧ sysModules ≠ a := by
  obtain ⟨_, h1, vs, kv, o, es, ep, e1, e2, e3, _, e5, _⟩ := (show ObjOk X.prog X.w H s.heap a (.dK []) from I.hok a _ h)
  have e6 : vs = [] := by
    have := Paired.length kv
    cases vs with
    | nil => rfl
    | cons _ _ => simp at this
  subst e6
  refine ⟨o, es, ep, e1, e2.1, e3, ?_, fun z => ?_⟩
  · generalize es.toList = l at e5
    cases e5
    rfl
  · rw [← z] at h1
    exact absurd h1 (by decide)
mutual
theorem Dq.reads (B : SysOk X.base) (I : Inv X pins σ H s) : ∀ (d : PyData) (v : V) (u : Value), Dq X.K H v d → RelV v u → ∃ as, Reads s.heap u d as ∧ sysModules ∉ as
  | .none, _, _, h, r => by
    cases h
    cases r
    exact ⟨_, Reads.none, by simp⟩
  | .bool b, _, _, h, r => by
    cases h
    cases r
    exact ⟨_, Reads.bool b, by simp⟩
  | .int i, _, _, h, r => by
    cases h
    obtain ⟨t, rfl⟩ := r
    exact ⟨_, Reads.int i t, by simp⟩
  | .str x, _, _, h, r => by
    cases h
    obtain ⟨t, rfl⟩ := r
    exact ⟨_, Reads.str x t, by simp⟩
  | .list ds, _, _, h, r => by
    cases h with
    | lst hs ha =>
      cases r
      obtain ⟨its, rv, ⟨o, n, ho, hc, _, hd⟩, _⟩ := I.list hs
      obtain ⟨as, hr, hn⟩ := DqAll.reads B I ds _ its ha rv
      refine ⟨_, Reads.list ho hc hd hr, fun z => ?_⟩
      rcases List.mem_cons.mp z with z | z
      · exact no_sys B I ho hd z
      · exact hn z
  | .tuple ds, _, _, h, r => by
    cases h with
    | tup hs ha =>
      cases r
      obtain ⟨its, rv, ⟨o, ho, hc, n, hd⟩, _⟩ := I.tuple hs
      obtain ⟨as, hr, hn⟩ := DqAll.reads B I ds _ its ha rv
      exact ⟨_, Reads.tuple ho hc hd hr, hn⟩
  | .dict kvs, _, _, h, r => by
    cases h with
    | dic h =>
      cases r
      obtain ⟨o, es, ep, e1, e2, e3, e4, e5⟩ := dict0 I h
      refine ⟨_, Reads.dict (as := []) (bs := []) e1 e2 e3 ?_ ?_, fun z => ?_⟩
      · rw [e4]
        exact .nil
      · rw [e4]
        exact .nil
      · rcases List.mem_cons.mp z with z | z
        · exact e5 z
        · simp at z
theorem DqAll.reads (B : SysOk X.base) (I : Inv X pins σ H s) : ∀ (ds : List PyData) (vs : List V) (us : List Value), DqAll X.K H vs ds → Vals vs us → ∃ as, ReadsAll s.heap us ds as ∧ sysModules ∉ as
  | [], _, _, h, r => by
    cases h
    cases r
    exact ⟨_, ReadsAll.nil, by simp⟩
  | d :: ds, _, _, h, r => by
    cases h with
    | cons h1 h2 =>
      cases r with
      | cons r1 r2 =>
        obtain ⟨as, q1, n1⟩ := Dq.reads B I d _ _ h1 r1
        obtain ⟨bs, q2, n2⟩ := DqAll.reads B I ds _ _ h2 r2
        refine ⟨_, ReadsAll.cons q1 q2, fun z => ?_⟩
        rcases List.mem_append.mp z with z | z
        · exact n1 z
        · exact n2 z
end
end

/-- repr(x) of data: its text -/
def rRepr (K : PySem.W.Frag) : List V → Hp → VK → Prop := fun xs H Q =>
  ∃ (v : V) (d : PyData), xs = [v] ∧ Dq K H v d ∧ d.showable = true ∧ d.shown.length ≤ sizeLine ∧ d.depth ≤ 60 ∧ Q (.str d.shown) H
section
variable {X : Cx}
theorem call_repr (B : SysOk X.base) (hg : X.A.guards = some []) (hu : X.A.units + 64 < cLine) : CallR X (.builtin "repr") (rRepr X.K) := by
  intro pins s σ H xs us Q I r h
  obtain ⟨v, d, rfl, hd, hs, hz, hp, q⟩ := h
  obtain ⟨u, rfl, ru⟩ := vals1 r
  obtain ⟨as, r1, ns⟩ := Dq.reads B I d v u hd ru
  cases r1 with
  | none => exact PySem.P.repr_of_none ⟨.str _, H, I.tok _, ⟨_, rfl⟩, q⟩
  | bool b => exact PySem.P.repr_of_bool ⟨.str _, H, I.tok _, ⟨_, rfl⟩, q⟩
  | int i t => exact PySem.P.repr_of_int (by simpa [PyData.showable] using hs) ⟨.str _, H, I.tok _, ⟨_, rfl⟩, q⟩
  | str x t => exact PySem.P.repr_of_str ⟨.str _, H, I.tok _, ⟨_, rfl⟩, q⟩ hz
  | list h1 h2 h3 h4 => exact repr_of_reads' (Reads.list h1 h2 h3 h4) hs (fun _ => ns) hg (by omega) (fun _ _ e => e) (fun h' u tk hk => ⟨.str _, H, I.kept hk, ⟨_, rfl⟩, q⟩) hz
  | tuple h1 h2 h3 h4 => exact repr_of_reads' (Reads.tuple h1 h2 h3 h4) hs (fun _ => ns) hg (by omega) (fun _ _ e => e) (fun h' u tk hk => ⟨.str _, H, I.kept hk, ⟨_, rfl⟩, q⟩) hz
  | dict h1 h2 h3 h4 h5 => exact repr_of_reads' (Reads.dict h1 h2 h3 h4 h5) hs (fun _ => ns) hg (by omega) (fun _ _ e => e) (fun h' u tk hk => ⟨.str _, H, I.kept hk, ⟨_, rfl⟩, q⟩) hz
/-- text * int -/
def rMulS : R2 := fun x y H Q => ∃ (z : Str) (n : Int), x = .str z ∧ y = .int n ∧ MulOk z n ∧ Q (.str (Txt.mul z n)) H
theorem op_mulS : OpR X (binaryOp .Mult) rMulS := by
  intro pins s σ H x y v u Q I rx ry h
  obtain ⟨z, n, rfl, rfl, ok, q⟩ := h
  obtain ⟨t, rfl⟩ := rx
  obtain ⟨t', rfl⟩ := ry
  exact PySem.SB.mul ok fun t k => ⟨.str _, H, I.tok _, ⟨_, rfl⟩, q⟩
end

/-! ## calls by keywords alone -/
section
variable {X : Cx} {CX : CXT} {k n : Nat} {f : Addr} {fd : FuncData} {ps ks : List Str} {sp : Sp} {E : XK} {x : Str} {p pos : Pos} {kws : List Keyword} {tk : TA} {g : List Value → List Value → List Value} {gV : List V → List V → List V}
theorem pe_callW (F : FnOk X.prog X.w X.K X.mg X.base CX k f fd ps sp) (hr : Room k X.A) (hg : Gl X x) (hm : X.mg x = some (.ref f)) (hk : PySem.W.keepIn X.K (.ref f) = true) (hb : KBn X.K fd ps 0 ks g gV)
    (hx : Passes CX X E) (hkw : PK X kws tk)
    (hall : (backToKw pos (keywordEach kws X.env)).all (fun q => q.1.isSome) = true := by rfl)
    (hks : (backToKw pos (keywordEach kws X.env)).filterMap (fun q => q.1) = ks := by rfl)
    (hdb : (x == ("__debug__" : Str)) = false := by decide)
    (hpl : ((backTo pos (starEach [] X.env)).any (fun q => q.1) || (backToKw pos (keywordEach kws X.env)).any (fun q => q.1.isNone)) = false := by rfl) :
    PE X (.Call (.Name x p) [] kws pos) (tCallN 0 ks.length sp gV E tNil tk) := by
  constructor
  intro pins s σ H Q I h
  refine wpAny_Call_Name_kw (ld_glob I hg hm ?_ hdb)
  refine PySem.W.callWith_KW0 (h₀ := X.base) I.ok.mod.kin hk hall ?_ hpl
  refine thn (hkw.run pos pins s σ H _ I h) fun ws s2 hq => ?_
  obtain ⟨zs, H2, I2, rz, l1, l2, q2⟩ := hq
  refine ⟨I2.kIn, ?_⟩
  rw [hks]
  exact run_fnN (us := []) (vs := []) F hr hb hx I2 .nil rz rfl l2 q2
/-- one keyword for the one parameter -/
theorem kb1 {K : PySem.W.Frag} {y qual : Str} {params : Arguments} {body : List Stmt} {scope : Scope} {kw : List (Str × V)} {f : Addr} {fd : FuncData} {a : Str} (F : FunD K y qual params body scope [] kw f fd)
    (h : ∀ (kV doc pm : Value) (an : Option Addr) (cdv ct v : Value), bindArgs (PySem.W.fnOf y qual params body scope .none kV doc pm an cdv ct) ⟨[], [(a, v)]⟩ = pure [(a, v)]) :
    KBn K fd [a] 0 [a] (fun _ ws => ws) (fun _ zs => zs) := by
  obtain ⟨oc, od, dV, kV, doc, pm, an, cdv, ct, osl, rfl, lk, hcd, hD, hK⟩ := F.ex
  rcases hD with ⟨_, rfl⟩ | ⟨e, _⟩
  · refine ⟨fun s us ws X l1 l2 => ?_, fun _ r => r⟩
    match us, ws, l1, l2 with
    | [], [v], _, _ => exact .of_eq (h kV doc pm an cdv ct v)
  · exact absurd rfl e
end

/-! ## defs that are called where no repr is under way -/
structure FnG (P : Program) (w : World) (K : PySem.W.Frag) (mg : Str → Option Value) (base : Heap) (CX : CXT) (k : Nat) (f : Addr) (fd : FuncData) (ps : List Str) (sp : Sp) : Prop where
  len : ∀ vs H Q E, sp vs H Q E → vs.length = ps.length
  run : ∀ (A : Around) (outer : List Env) (s : Shared) (H : Hp) (args : Args) (us : List Value) (vs : List V) (Q : VK) (E : XK),
    A.guards = some [] → Room k A → Env0 P w K mg base A outer s H → BindsTo s fd args (ps.zip us) → Vals vs us → sp vs H Q E →
      codeAny (model P w) A (.call (.ref f) args) (CR CX outer P w H s Q E) s
section
variable {P : Program} {w : World} {K : PySem.W.Frag} {mg : Str → Option Value} {base : Heap} {x qual : Str} {params : Arguments} {body : List Stmt} {scope : Scope} {dvs : List V} {kws : List (Str × V)} {f : Addr} {fd : FuncData}
theorem fn_g {CX : CXT} {N ps : List Str} {k : Nat} {sp : Sp} (F : FunD K x qual params body scope dvs kws f fd) (S : FnScope N ps scope) (len : ∀ vs H Q E, sp vs H Q E → vs.length = ps.length)
    (hbody : ∀ (cdv : Value) (A : Around) (outer : List Env) (s : Shared) (H : Hp) (vs : List V) (Q : VK) (E : XK),
      A.guards = some [] → Room k (A.deeper (envOfC qual scope s.heap.objs.size f cdv)) → sp vs H Q E →
      ∃ t, PSs (cxOf CX P w K mg base N qual scope f cdv A outer s H E) body t ∧ t { nx := fun _ H' => Q .non H', rt := Q } (start N vs) H) :
    FnG P w K mg base CX (k + 1) f fd ps sp := by
  obtain ⟨oc, od, dV, kV, doc, pm, an, cdv, ct, osl, rfl, lk, hcd, _, _⟩ := F.ex
  refine ⟨len, fun A outer s H args us vs Q E hg hr e0 hb r hsp => ?_⟩
  have hk := fun b o e => (e0.bs b o e).1
  have KX : K.In s.heap := e0.mod.kin.keeps hk
  have lim : s.heap.NoLimit := e0.mod.nolimit.keeps hk
  have hkind : ∀ y ∈ ps.zip us, scope.names.lookup y.1 = some .local ∨ (scope.names.lookup y.1 = some .cell ∧ ((cellsFrom (s.heap.objs.size + 1) scope.names []).lookup y.1).isSome = true) := by
    rintro ⟨n, v⟩ hy
    exact (S.par n (List.of_mem_zip hy).1).imp (fun q => q) fun q => ⟨q, PySem.W.cellsFrom_some _ _ _ (.inl q)⟩
  refine codeAny_call_function hr.depth (KX _ _ lk) rfl S.co S.gen rfl (PySem.W.codeRec_of KX hcd) (hb _ _ _ _ ?_)
  refine wpAny_newFunctionEnv_cells S.kind hkind fun env he s1 y => ?_
  subst he
  obtain ⟨t, ht, hq⟩ := hbody cdv A outer s H vs Q E hg (hr.deeper _) hsp
  have I := inv_start (CX := CX) (E := E) S hr.hd e0 (len _ _ _ _ hsp) r y
  refine ⟨lim.keeps y.toInCall.keep, codeAny_func (wpAny_mono (ht.run [] s1 (start N vs) H _ I hq) (fun fl s' hs => ?_) fun e s' hs => hs)⟩
  cases fl with
  | ret u =>
    obtain ⟨v, σ', H', J, rv, q⟩ := hs
    exact ⟨v, H', J.os, J.bare, J.base, J.hok, rv, q⟩
  | next =>
    obtain ⟨σ', H', J, q⟩ := hs
    exact ⟨V.non, H', J.os, J.bare, J.base, J.hok, rfl, q⟩
  | brk => exact hs.elim fun _ z => z.elim fun _ z => z.2.elim
  | cont => exact hs.elim fun _ z => z.elim fun _ z => z.2.elim
end
section
variable {X : Cx} {CX : CXT} {k : Nat} {f : Addr} {fd : FuncData} {ps : List Str} {sp : Sp} {dvs : List V} {ds : List Value} {E : XK} {x : Str} {p pos : Pos} {e : Expr} {es : List Expr} {t : TA}
theorem run_g {pins : List (Addr × Obj)} {σ : L2.St} {H : Hp} {s : Shared} {Q : VK} {us : List Value} {vs : List V} (F : FnG X.prog X.w X.K X.mg X.base CX k f fd ps sp) (hgd : X.A.guards = some []) (hr : Room k X.A) (hb : Binds X.K fd ps ds) (hd : Vals dvs ds) (hx : Passes CX X E)
    (I : Inv X pins σ H s) (r : Vals vs us) (h : sp (vs ++ dvs) H Q E) : wpAny (model X.prog X.w) X.A (call (.ref f) us) (EP X pins σ Q) X.xe s := by
  have r2 : Vals (vs ++ dvs) (us ++ ds) := r.append hd
  have hl : (us ++ ds).length = ps.length := r2.length.symm.trans (F.len _ _ _ _ h)
  refine wpAny_call (codeAny_mono (F.run X.A X.stack s H ⟨us, []⟩ _ _ Q E hgd hr I.env0 (hb s us I.kIn hl) r2 h) fun r s' hq => ?_)
  match r, hq with
  | .error e, hq => exact hx pins σ H s e s' I hq
  | .ok (.ret u), hq => exact I.after hq
  | .ok .next, hq => exact False.elim hq
  | .ok .brk, hq => exact False.elim hq
  | .ok .cont, hq => exact False.elim hq
theorem pe_callg (F : FnG X.prog X.w X.K X.mg X.base CX k f fd ps sp) (hgd : X.A.guards = some []) (hr : Room k X.A) (hg : Gl X x) (hm : X.mg x = some (.ref f)) (hk : PySem.W.keepIn X.K (.ref f) = true) (hb : Binds X.K fd ps ds) (hd : Vals dvs ds) (hx : Passes CX X E)
    (ha : PA X (e :: es) t) (hdb : (x == ("__debug__" : Str)) = false := by decide) (he : starEach (e :: es) X.env = (false, eval e X.env) :: starEach es X.env := by rfl)
    (hpl : (backTo pos (starEach es X.env)).any (fun q => q.1) = false := by rfl) : PE X (.Call (.Name x p) (e :: es) [] pos) (tCall sp dvs E t) := by
  constructor
  intro pins s σ H Q I h
  refine wpAny_Call_Name_kw (ld_glob I hg hm (PySem.W.callWith_K (h₀ := X.base) I.ok.mod.kin hk ?_ he hpl) hdb)
  exact thn (ha.run pos pins s σ H _ I h) fun us s1 ⟨vs, H1, I1, r, q⟩ => ⟨I1.kIn, run_g F hgd hr hb hd hx I1 r q⟩
theorem pe_callg0 (F : FnG X.prog X.w X.K X.mg X.base CX k f fd ps sp) (hgd : X.A.guards = some []) (hr : Room k X.A) (hg : Gl X x) (hm : X.mg x = some (.ref f)) (hk : PySem.W.keepIn X.K (.ref f) = true) (hb : Binds X.K fd ps ds) (hd : Vals dvs ds) (hx : Passes CX X E)
    (hdb : (x == ("__debug__" : Str)) = false := by decide) : PE X (.Call (.Name x p) [] [] pos) (tCall sp dvs E tNil) := by
  constructor
  intro pins s σ H Q I h
  exact wpAny_Call_Name_kw (ld_glob I hg hm (PySem.W.callWith_K0 I.kIn hk (run_g (us := []) F hgd hr hb hd hx I .nil h)) hdb)
end

/-! ## the law's own call -/
theorem law_g {P : Program} {w : World} {K : PySem.W.Frag} {mg mb : Str → Option Value} {CX : CXT} {k : Nat} {fa a : Addr} {fd : FuncData} {x : Str} {sp : Sp} {s₁ : Shared} {vs : List Value} {ns : List Int}
    (KX : K.In s₁.heap) (hns : s₁.heap.Ns mainGlobals mg) (hb : s₁.heap.Ns builtinsNs mb) (hbb : ∀ x : Str, x ≠ "__name__" → mb x = bootBuiltins x) (hlim : s₁.heap.NoLimit) (hsy : SysOk s₁.heap) (hg : s₁.gens = #[])
    (ha : s₁.heap.get? a = some { cls := .type "list", data := .seq vs.toArray }) (hi : IntsAre vs ns) (hl : ns.length ≤ sizeLine) (hr : Room k callerA)
    (F : ∀ base : Heap, K.In base → base.Ns mainGlobals mg → SysOk base → FnG P w K mg base CX k fa fd [x] sp) (hbind : ∀ (s : Shared) (u : Value), BindsTo s fd ⟨[u], []⟩ [(x, u)])
    (hsp : ∀ H : Hp, Only H → SqL K H a (ns.map V.int) → sp [.ref a] H (fun v _ => v = .bl true) fun _ _ _ => False)
    (hCX : ∀ H e s', CX [] H s₁ (fun _ _ _ => False) e s' → False) :
    codeAny (model P w) callerA (.call (.ref fa) ⟨[.ref a], []⟩) (fun r s' => r = .ok (.ret (.bool true)) ∧ OldK s₁.heap s'.heap ∧ s'.os = s₁.os ∧ AllBare s'.gens) s₁ := by
  have rv := vals_ints hi
  have core : ∀ H : Hp, Only H → SqL K H a (ns.map V.int) → HOk P w H s₁.heap → (∀ b, H b ≠ none → b = a) → (H a ≠ none → K.lookup a = none) →
      codeAny (model P w) callerA (.call (.ref fa) ⟨[.ref a], []⟩) (fun r s' => r = .ok (.ret (.bool true)) ∧ OldK s₁.heap s'.heap ∧ s'.os = s₁.os ∧ AllBare s'.gens) s₁ := by
    intro H hO hS hok hA hK
    -- a dict is not the script: it is not tracked
    have noA : ∀ {b : Addr} {o : Obj} {es : Array DictEntry} {ep : Nat}, s₁.heap.get? b = some o → o.data = Data.dict es ep → H b = none := by
      intro b o es ep e d
      refine Classical.byContradiction fun z => ?_
      have e' := hA b z
      subst e'
      rw [ha] at e
      cases e
      cases d
    have nsK : ∀ {b : Addr} {m : Str → Option Value}, s₁.heap.Ns b m → (hidT s₁.heap H).Ns b m := by
      rintro b m ⟨o, es, ep, e, d, r⟩
      exact ⟨o, es, ep, hidT_get e (noA e d), d, r⟩
    have hKb : K.In (hidT s₁.heap H) := by
      intro b o e
      refine hidT_get (KX b o e) (Classical.byContradiction fun z => ?_)
      have e' := hA b z
      subst e'
      rw [hK z] at e
      cases e
    have hM : Mod K mg (hidT s₁.heap H) := by
      obtain ⟨mc, h1, h2⟩ := hlim
      exact ⟨hKb, nsK hns, ⟨mb, nsK hb, hbb⟩, ⟨mc, nsK h1, h2⟩⟩
    have hB : SysOk (hidT s₁.heap H) := by
      obtain ⟨o, es, ep, e1, e2⟩ := hsy
      exact ⟨o, es, ep, hidT_get e1 (noA e1 e2), e2⟩
    have e0 : Env0 P w K mg (hidT s₁.heap H) callerA [] s₁ H := ⟨rfl, hM, fun b o e => of_hidT e, Nat.le_of_eq (hidT_size _ _), trivial, fun b hb => absurd (show b ∈ ([] : List Addr) from hb) (by simp), hok, .of_eq hg⟩
    have run := (F _ hKb (nsK hns) hB).run callerA [] s₁ H ⟨[.ref a], []⟩ [.ref a] [.ref a] _ _ rfl hr e0 (hbind s₁ (.ref a)) (.cons rfl .nil) (hsp H hO hS)
    refine codeAny_mono run fun r s' h => ?_
    match r, h with
    | .error e, h => exact (hCX H e s' h).elim
    | .ok .next, h => exact False.elim h
    | .ok .brk, h => exact False.elim h
    | .ok .cont, h => exact False.elim h
    | .ok (.ret u), h =>
      obtain ⟨v, H', os, bare, un, hok', r', q⟩ := h
      cases (show v = .bl true from q)
      cases (show u = Value.bool true from r')
      refine ⟨rfl, OldK.of_keep fun b o e => ?_, os, bare⟩
      rcases hO b with z | ⟨ob, xs, z⟩
      · exact un.keep b o e z (by intro y; exact absurd (show b ∈ ([] : List Addr) from y) (by simp)) (by simp)
      · have e1 := (hok b _ z).1
        rw [e] at e1
        cases e1
        exact (hok' b _ (un.frzs b _ _ z)).1
  cases hk : K.lookup a with
  | some o =>
    have e := KX a o hk
    rw [ha] at e
    cases e
    refine core (fun _ => none) (fun _ => .inl rfl) (.inr ⟨_, vs.toArray, _, hk, rfl, rfl, rfl, ?_, ?_⟩) (fun b u z => nomatch z) (fun b z => absurd rfl z) fun z => absurd rfl z
    · rw [List.size_toArray, hi.length]
      exact hl
    · simpa using rv
  | none =>
    refine core (upd (fun _ => none) a (.frz { cls := .type "list", data := .seq vs.toArray } (.lst (ns.map V.int)))) (fun b => ?_) (.inl (.inr ⟨_, upd_same⟩)) (fun b u z => ?_) (fun b z => ?_) fun _ => hk
    · by_cases hb : b = a
      · exact .inr ⟨_, _, by rw [hb]; exact upd_same⟩
      · exact .inl (by rw [upd_ne hb])
    · by_cases hb : b = a
      · subst hb
        rw [upd_same] at z
        cases z
        exact ⟨ha, by rw [List.length_map]; exact hl, vs, _, rv, ha⟩
      · rw [upd_ne hb] at z
        cases z
    · exact Classical.byContradiction fun hb => z (by rw [upd_ne hb])

theorem walk_g {l : PySem.W.OpenLaw} {n k : Nat} {q : Program} {loose : List Str} {XP : (Str → Option Value) → Heap → Prop} {YP : World → Heap → Prop} {d : DefRec} {CX : CXT} {x : Str}
    (hn : l.most = some n) (hn2 : n ≤ sizeLine) (hdf : d.params.defaults = []) (hi : importsNone q = true) (hr : Room k callerA)
    (F : ∀ (w : World) (mg : Str → Option Value) (fa : Addr) (h : Heap), YP w h → h.Ns mainGlobals mg → mg d.name = some (.ref fa) →
      ∃ (K : PySem.W.Frag) (fd : FuncData) (sp : Sp), K.In h ∧ (∀ (s : Shared) (u : Value), BindsTo s fd ⟨[u], []⟩ [(x, u)]) ∧
        (∀ (H : Hp) (a : Addr) (ns : List Int), ns.length ≤ n → Only H → SqL K H a (ns.map V.int) → sp [.ref a] H (fun v _ => v = .bl true) fun _ _ _ => False) ∧
        ∀ base : Heap, K.In base → base.Ns mainGlobals mg → SysOk base → FnG l.prog w K mg base CX k fa fd [x] sp)
    (hCX : ∀ (H : Hp) (s : Shared) (e : Value) (s' : Shared), CX [] H s (fun _ _ _ => False) e s' → False) :
    PySem.W.WalkO q loose XP YP l.row.toRowW d [] (fun f vs => PySem.call f vs) := by
  refine Att.attach_call hn hdf fun w s₀ s₁ mg mb fa o pm cd doc a vs ns G Y ho hd hcd hmg hobj hints hlen hg => ?_
  obtain ⟨K, fd, sp, KX, hb, hsp, hF⟩ := F w mg fa _ Y G.T.g hmg
  have hsy : SysOk s₁.heap := by
    obtain ⟨mm, ⟨o, es, ep, e1, e2, _⟩, _⟩ := (G.T.seer hi).mods
    exact ⟨o, es, ep, e1, e2⟩
  exact law_g KX G.T.g G.T.b G.T.builtins G.T.nolimit hsy hg hobj hints (Nat.le_trans hlen hn2) hr hF hb (fun H hO hS => hsp H a ns hlen hO hS) fun H e s' => hCX H s₁ e s'
end Lw

set_option Elab.async false
set_option linter.all false
set_option maxRecDepth 100000
set_option maxHeartbeats 2000000
namespace Lw
open PySem PySem.Spec PyProof.Rows L2

/-! ## the heap without one object -/
def off (H : Hp) (a : Addr) : Hp := fun b => if b = a then none else H b
theorem off_ne {H : Hp} {a b : Addr} (h : b ≠ a) : off H a b = H b := by
  unfold off
  rw [if_neg h]
theorem off_self {H : Hp} {a : Addr} : off H a a = none := by
  unfold off
  rw [if_pos rfl]
theorem off_get {H : Hp} {a b : Addr} {o : HO} (h : off H a b = some o) : b ≠ a ∧ H b = some o := by
  by_cases e : b = a
  · rw [e, off_self] at h
    cases h
  · exact ⟨e, (off_ne e).symm.trans h⟩
theorem off_same {H : Hp} {a : Addr} : Same (off H a) H := fun _ _ h => (off_get h).2
/-- all but a is as it was -/
def Off (a : Addr) (H H' : Hp) : Prop := Same (off H a) (off H' a)
theorem Off.refl {a : Addr} {H : Hp} : Off a H H := fun _ _ h => h
theorem Off.trans {a : Addr} {H H1 H2 : Hp} (x : Off a H H1) (y : Off a H1 H2) : Off a H H2 := fun b o h => y b o (x b o h)
theorem Off.get {a b : Addr} {H H' : Hp} {o : HO} (x : Off a H H') (h : H b = some o) (n : b ≠ a) : H' b = some o := by
  have e := x b o ((off_ne n).trans h)
  exact (off_get e).2
theorem Off.at {a : Addr} {H : Hp} {o : HO} : Off a H (upd H a o) := by
  intro b u h
  obtain ⟨n, e⟩ := off_get h
  rw [off_ne n, upd_ne n]
  exact e
theorem Off.new {a p : Addr} {H : Hp} {o : HO} (h : H p = none) : Off a H (upd H p o) := by
  intro b u g
  obtain ⟨n, e⟩ := off_get g
  rw [off_ne n, upd_ne (ne_of_none e h)]
  exact e
theorem Off.same {a : Addr} {H H' : Hp} (x : Same H H') : Off a H H' := by
  intro b u g
  obtain ⟨n, e⟩ := off_get g
  rw [off_ne n]
  exact x _ _ e
theorem Off.free {a p : Addr} {H H' : Hp} (x : Off a H H') (h : H' p = none) (ha : ∃ o, H a = some o) (n : p ≠ a) : H p = none := by
  cases e : H p with
  | none => rfl
  | some o =>
    rw [x.get e n] at h
    cases h

/-! ## the pot -/
def PotAt (H : Hp) (a : Addr) : Prop := ∃ p q : Int, H a = some (.lst [.int p, .int q]) ∧ 0 ≤ q ∧ q < 2147483648
theorem PotAt.new {H : Hp} {a p : Addr} {o : HO} (h : PotAt H a) (n : H p = none) : PotAt (upd H p o) a := by
  obtain ⟨x, y, e, r⟩ := h
  exact ⟨x, y, by rw [upd_ne (ne_of_none e n)]; exact e, r⟩
theorem PotAt.same {H H' : Hp} {a : Addr} (h : PotAt H a) (s : Same H H') : PotAt H' a := by
  obtain ⟨x, y, e, r⟩ := h
  exact ⟨x, y, s _ _ e, r⟩
theorem PotAt.ne {H : Hp} {a p : Addr} (h : PotAt H a) (n : H p = none) : p ≠ a := by
  obtain ⟨x, y, e, r⟩ := h
  exact (ne_of_none e n).symm

/-! ## data: kinds -/
def tyD : PyData → String
  | .none => "NoneType"
  | .bool _ => "bool"
  | .int _ => "int"
  | .str _ => "str"
  | .list _ => "list"
  | .tuple _ => "tuple"
  | .dict _ => "dict"
theorem Dq.ty {K : PySem.W.Frag} {H : Hp} {v : V} {d : PyData} (h : Dq K H v d) : TyX K H v (.type (tyD d)) := by
  cases h with
  | non => exact .base .non
  | bl b => exact .base (.bl b)
  | int i => exact .base (.int i)
  | str x => exact .base (.str x)
  | lst h _ =>
    rcases h with (h | ⟨o, h⟩) | ⟨o, xs, n, h1, h2, _⟩
    · exact .base (.lst h)
    · exact .base (.frz h)
    · exact .kList h1 h2
  | tup h _ =>
    rcases h with (h | ⟨o, h⟩) | ⟨o, xs, n, h1, h2, _⟩
    · exact .base (.tup h)
    · exact .fTuple h
    · exact .kTuple h1 h2
  | dic h => exact .base (.dK h)
/-- isinstance of data and a built-in class -/
theorem isi_ty {K : PySem.W.Frag} {H : Hp} {v : V} {d : PyData} {T : String} {b : Bool} {Q : VK} (h : Dq K H v d) (e : kitB (tyD d) T = some b) (q : Q (.bl b) H) : rIsi K [v, .ty T] H Q :=
  ⟨v, .ty T, .type (tyD d), .type T, b, rfl, .ty T, h.ty, kit_ty e, q⟩

/-! ## data: sizes -/
theorem len_list2 (a b : Str) : (listText [a, b]).length = a.length + b.length + 4 := by
  show (((("[" : Str) ++ ("" : String) ++ a) ++ (", " : String) ++ b) ++ ("]" : Str)).length = _
  simp only [strLen_append]
  show 1 + 0 + a.length + 2 + b.length + 1 = _
  omega
theorem len_list3 (a b c : Str) : (listText [a, b, c]).length = a.length + b.length + c.length + 6 := by
  show ((((("[" : Str) ++ ("" : String) ++ a) ++ (", " : String) ++ b) ++ (", " : String) ++ c) ++ ("]" : Str)).length = _
  simp only [strLen_append]
  show 1 + 0 + a.length + 2 + b.length + 2 + c.length + 1 = _
  omega
theorem len_bool (b : Bool) : (PyData.bool b).shown.length ≤ 5 := by cases b <;> decide
/-- data that can be shown in a row -/
structure Small (n : Nat) (d : PyData) : Prop where
  sh : d.showable = true
  ln : d.shown.length ≤ n
  dp : d.depth ≤ 10
theorem Small.mono {n m : Nat} {d : PyData} (h : Small n d) (e : n ≤ m) : Small m d := ⟨h.sh, Nat.le_trans h.ln e, h.dp⟩

/-! ## texts of single signs -/
def Bytes (z : Str) : Prop := ∀ c ∈ z.cps.toList, c < 256
theorem small_text {z : Str} {n : Nat} (h : Bytes z) (l : z.length ≤ n) : Small (10 * n + 2) (.str z) := by
  refine ⟨rfl, ?_, ?_⟩
  · have e := StrLaws.reprText_len z fun c hc => Nat.lt_trans (h c hc) (by decide)
    show (reprText z).length ≤ _
    omega
  · simp [PyData.depth]
theorem bytes_join : ∀ (ys : List Str), (∀ y ∈ ys, y.length = 1 ∧ Bytes y) → (Str.join "" ys).length = ys.length ∧ Bytes (Str.join "" ys)
  | [], _ => ⟨rfl, fun c hc => by cases hc⟩
  | [x], h => ⟨(h x (by simp)).1, (h x (by simp)).2⟩
  | x :: y :: r, h => by
    obtain ⟨h1, h2⟩ := bytes_join (y :: r) fun z hz => h z (List.mem_cons_of_mem _ hz)
    obtain ⟨h3, h4⟩ := h x (by simp)
    have e : Str.join "" (x :: y :: r) = x ++ ("" : Str) ++ Str.join "" (y :: r) := rfl
    constructor
    · rw [e, strLen_append, strLen_append, h1, h3]
      show 1 + 0 + (y :: r).length = (y :: r).length + 1
      omega
    · intro c hc
      rw [e] at hc
      have hc' : c ∈ x.cps.toList ++ ([] : List Nat) ++ (Str.join "" (y :: r)).cps.toList := by
        have : (x ++ ("" : Str) ++ Str.join "" (y :: r)).cps.toList = x.cps.toList ++ ([] : List Nat) ++ (Str.join "" (y :: r)).cps.toList := by
          show ((x.cps ++ #[]) ++ (Str.join "" (y :: r)).cps).toList = _
          simp
        rw [← this]
        exact hc
      simp only [List.append_nil, List.mem_append] at hc'
      rcases hc' with q | q
      · exact h4 c q
      · exact h2 c q
theorem sum_ones {ys : List Str} (h : ∀ y ∈ ys, y.length = 1 ∧ Bytes y) : (ys.map fun y => y.length).sum = ys.length := by
  induction ys with
  | nil => rfl
  | cons y r ih =>
    rw [List.map_cons, List.sum_cons, ih fun z hz => h z (List.mem_cons_of_mem _ hz), (h y (by simp)).1, List.length_cons]
    omega
/-- an item of a list, at a place that is told -/
theorem at_in {α : Type} {xs : List α} {i : Int} (h0 : 0 ≤ i) (h1 : i < xs.length) : ∃ v, v ∈ xs ∧ xs[i.toNat]? = some v ∧ atI xs i = some v := by
  have h2 : i.toNat < xs.length := by omega
  refine ⟨xs[i.toNat], List.getElem_mem h2, List.getElem?_eq_getElem h2, ?_⟩
  have q := atI_nat (xs := xs) (j := i.toNat) (List.getElem?_eq_getElem h2)
  rw [Int.toNat_of_nonneg h0] at q
  exact q

/-! ## an own def, with all that a call wants -/
structure Own (P : Program) (w : World) (K : PySem.W.Frag) (mg : Str → Option Value) (base : Heap) (CX : CXT) (k : Nat) (x : Str) (ps : List Str) (sp : Sp) (f : Addr) (fd : FuncData) : Prop where
  ok : FnOk P w K mg base CX k f fd ps sp
  m : mg x = some (.ref f)
  kp : PySem.W.keepIn K (.ref f) = true
  b : Binds K fd ps []
structure OwnG (P : Program) (w : World) (K : PySem.W.Frag) (mg : Str → Option Value) (base : Heap) (CX : CXT) (k : Nat) (x : Str) (ps : List Str) (sp : Sp) (f : Addr) (fd : FuncData) : Prop where
  ok : FnG P w K mg base CX k f fd ps sp
  m : mg x = some (.ref f)
  kp : PySem.W.keepIn K (.ref f) = true
  b : Binds K fd ps []
section
variable {X : Cx} {CX : CXT} {k : Nat} {f : Addr} {fd : FuncData} {ps ks : List Str} {sp : Sp} {x : Str} {p pos : Pos} {e : Expr} {es : List Expr} {t tk : TA} {kws : List Keyword} {g : List Value → List Value → List Value} {gV : List V → List V → List V}
theorem pe_own (O : Own X.prog X.w X.K X.mg X.base CX0 k x ps sp f fd) (hr : Room k X.A) (ha : PA X (e :: es) t) (hg : Gl X x := by rfl) (hdb : (x == ("__debug__" : Str)) = false := by decide)
    (he : starEach (e :: es) X.env = (false, eval e X.env) :: starEach es X.env := by rfl) (hpl : (backTo pos (starEach es X.env)).any (fun q => q.1) = false := by rfl) :
    PE X (.Call (.Name x p) (e :: es) [] pos) (tCall sp [] E0 t) := pe_call O.ok hr hg O.m O.kp O.b .nil pass0 ha hdb he hpl
theorem pe_own0 (O : Own X.prog X.w X.K X.mg X.base CX0 k x ps sp f fd) (hr : Room k X.A) (hg : Gl X x := by rfl) (hdb : (x == ("__debug__" : Str)) = false := by decide) :
    PE X (.Call (.Name x p) [] [] pos) (tCall sp [] E0 tNil) := pe_call0 O.ok hr hg O.m O.kp O.b .nil pass0 hdb
theorem pe_owng (O : OwnG X.prog X.w X.K X.mg X.base CX0 k x ps sp f fd) (hgd : X.A.guards = some []) (hr : Room k X.A) (ha : PA X (e :: es) t) (hg : Gl X x := by rfl) (hdb : (x == ("__debug__" : Str)) = false := by decide)
    (he : starEach (e :: es) X.env = (false, eval e X.env) :: starEach es X.env := by rfl) (hpl : (backTo pos (starEach es X.env)).any (fun q => q.1) = false := by rfl) :
    PE X (.Call (.Name x p) (e :: es) [] pos) (tCall sp [] E0 t) := pe_callg O.ok hgd hr hg O.m O.kp O.b .nil pass0 ha hdb he hpl
theorem pe_owng0 (O : OwnG X.prog X.w X.K X.mg X.base CX0 k x ps sp f fd) (hgd : X.A.guards = some []) (hr : Room k X.A) (hg : Gl X x := by rfl) (hdb : (x == ("__debug__" : Str)) = false := by decide) :
    PE X (.Call (.Name x p) [] [] pos) (tCall sp [] E0 tNil) := pe_callg0 O.ok hgd hr hg O.m O.kp O.b .nil pass0 hdb
theorem pe_ownW (O : Own X.prog X.w X.K X.mg X.base CX0 k x ps sp f fd) (hb : KBn X.K fd ps 0 ks g gV) (hr : Room k X.A) (hkw : PK X kws tk) (hg : Gl X x := by rfl)
    (hall : (backToKw pos (keywordEach kws X.env)).all (fun q => q.1.isSome) = true := by rfl)
    (hks : (backToKw pos (keywordEach kws X.env)).filterMap (fun q => q.1) = ks := by rfl)
    (hdb : (x == ("__debug__" : Str)) = false := by decide)
    (hpl : ((backTo pos (starEach [] X.env)).any (fun q => q.1) || (backToKw pos (keywordEach kws X.env)).any (fun q => q.1.isNone)) = false := by rfl) :
    PE X (.Call (.Name x p) [] kws pos) (tCallN 0 ks.length sp gV E0 tNil tk) := pe_callW O.ok hr hg O.m O.kp hb pass0 hkw hall hks hdb hpl
/-- a constant of the module -/
theorem pe_gi {i : Int} (h : ∃ t, X.mg x = some (.int i t)) (hg : Gl X x := by rfl) (hd : (x == ("__debug__" : Str)) = false := by decide) : PE X (.Name x pos) (tC (.int i)) :=
  h.elim fun t e => pe_glob hg e ⟨t, rfl⟩ hd
theorem pe_gs {z : Str} (h : ∃ t, X.mg x = some (.str z t)) (hg : Gl X x := by rfl) (hd : (x == ("__debug__" : Str)) = false := by decide) : PE X (.Name x pos) (tC (.str z)) :=
  h.elim fun t e => pe_glob hg e ⟨t, rfl⟩ hd
end
end Lw
namespace Lw
open PySem PySem.Spec PyProof.Rows L2
theorem Off.put {a D : Addr} {H H' : Hp} {o : HO} (x : Off a H H') (h : H D = none) : Off a H (upd H' D o) := by
  intro b u g
  obtain ⟨n, e⟩ := off_get g
  rw [off_ne n, upd_ne (ne_of_none e h)]
  exact x.get e n
theorem PotAt.put {H : Hp} {a D : Addr} {o : HO} (h : PotAt H a) (n : D ≠ a) : PotAt (upd H D o) a := by
  obtain ⟨x, y, e, r⟩ := h
  exact ⟨x, y, by rw [upd_ne n.symm]; exact e, r⟩
theorem small_int {i : Int} (h : i.natAbs < 2 ^ 1000) : Small 2000 (.int i) := by
  have h1 : i.natAbs.log2 < 1920 := Nat.lt_of_lt_of_le (PySem.Flt.log2_lt_of (by decide) h) (by decide)
  refine ⟨?_, ?_, ?_⟩
  · show decide (i.natAbs.log2 < 1920) = true
    exact decide_eq_true h1
  · have e := int_text_len_1921 h1
    show (Str.ofString (toString i)).length ≤ 2000
    omega
  · simp [PyData.depth]

/-! ## displays of data -/
def Mk (K : PySem.W.Frag) (te : TE) (d : PyData) : Prop := ∀ σ H (Q : VK), (∀ v H', Same H H' → (∀ a, H a ≠ none → Dq K (off H' a) v d) → Q v H') → te σ H Q
def MkA (K : PySem.W.Frag) (ta : TA) (ds : List PyData) : Prop := ∀ σ H (Q : List V → Hp → Prop), (∀ vs H', Same H H' → vs.length = ds.length → (∀ a, H a ≠ none → DqAll K (off H' a) vs ds) → Q vs H') → ta σ H Q
theorem off_mono {H H' : Hp} {a : Addr} (s : Same H H') : Same (off H a) (off H' a) := Off.same s
theorem same_some {H H' : Hp} {a : Addr} (s : Same H H') (h : H a ≠ none) : H' a ≠ none := by
  cases e : H a with
  | none => exact absurd e h
  | some o =>
    rw [s _ _ e]
    exact fun z => nomatch z
section
variable {K : PySem.W.Frag}
theorem Mk.non : Mk K (tC .non) .none := fun _ H Q h => h _ H (Same.refl H) fun _ _ => .non
theorem Mk.bl {b : Bool} : Mk K (tC (.bl b)) (.bool b) := fun _ H Q h => h _ H (Same.refl H) fun _ _ => .bl b
theorem Mk.int {i : Int} : Mk K (tC (.int i)) (.int i) := fun _ H Q h => h _ H (Same.refl H) fun _ _ => .int i
theorem Mk.str {x : Str} : Mk K (tC (.str x)) (.str x) := fun _ H Q h => h _ H (Same.refl H) fun _ _ => .str x
theorem Mk.neg {i : Int} : Mk K (tUn (rU fun i => .int (-i)) (tC (.int i))) (.int (-i)) := fun _ H Q h => ⟨i, rfl, h _ H (Same.refl H) fun _ _ => .int _⟩
theorem MkA.nil : MkA K tNil [] := fun _ H Q h => h _ H (Same.refl H) rfl fun _ _ => .nil
theorem MkA.cons {te : TE} {ta : TA} {d : PyData} {ds : List PyData} (h1 : Mk K te d) (h2 : MkA K ta ds) : MkA K (tCons te ta) (d :: ds) := by
  intro σ H Q h
  refine h1 σ H _ fun v H1 s1 q1 => h2 σ H1 _ fun vs H2 s2 l2 q2 => h _ H2 (s1.trans s2) (congrArg Nat.succ l2) fun a ha => ?_
  exact .cons (Dq.same (off_mono s2) (q1 a ha)) (q2 a (same_some s1 ha))
theorem mk_new {H : Hp} {p a : Addr} {o : HO} (hp : H p = none) (ha : H a ≠ none) : off (upd H p o) a p = some o := by
  have n : p ≠ a := fun e => ha (e ▸ hp)
  rw [off_ne n, upd_same]
theorem Mk.tup {ta : TA} {ds : List PyData} (h1 : MkA K ta ds) (hl : ds.length ≤ 1000 := by decide) : Mk K (tTup ta) (.tuple ds) := by
  intro σ H Q h
  refine h1 σ H _ fun vs H1 s1 l1 q1 => ⟨?_, fun p hp => h _ _ (s1.trans (same_upd hp)) fun a ha => ?_⟩
  · rw [l1]
    exact Nat.le_of_lt (small1000 hl)
  · exact .tup (.inl (.inl (mk_new hp (same_some s1 ha)))) (DqAll.same (off_mono (same_upd hp)) (q1 a ha))
theorem Mk.lst {ta : TA} {ds : List PyData} (h1 : MkA K ta ds) (hl : ds.length ≤ 1000 := by decide) : Mk K (tLst ta) (.list ds) := by
  intro σ H Q h
  refine h1 σ H _ fun vs H1 s1 l1 q1 => ⟨?_, fun p hp => h _ _ (s1.trans (same_upd hp)) fun a ha => ?_⟩
  · rw [l1]
    exact Nat.le_of_lt (small1000 hl)
  · exact .lst (.inl (.inl (mk_new hp (same_some s1 ha)))) (DqAll.same (off_mono (same_upd hp)) (q1 a ha))
theorem Mk.dict : Mk K tDNewK (.dict []) := by
  intro σ H Q h
  intro p hp
  exact h _ _ (same_upd hp) fun a ha => .dic (mk_new hp ha)
theorem dq_at {H : Hp} : ∀ {vs : List V} {ds : List PyData}, DqAll K H vs ds → ∀ v ∈ vs, ∃ d ∈ ds, Dq K H v d
  | _, _, .nil, v, h => nomatch h
  | _, _, .cons h g, v, hv => by
    rcases List.mem_cons.mp hv with rfl | hv
    · exact ⟨_, List.mem_cons_self .., h⟩
    · obtain ⟨d, hd, e⟩ := dq_at g v hv
      exact ⟨d, List.mem_cons_of_mem _ hd, e⟩
theorem dq_app {H : Hp} : ∀ {vs ws : List V} {ds es : List PyData}, DqAll K H vs ds → DqAll K H ws es → DqAll K H (vs ++ ws) (ds ++ es)
  | _, _, _, _, .nil, q => q
  | _, _, _, _, .cons h g, q => .cons h (dq_app g q)
end
end Lw
namespace Lw
open PySem PySem.Spec PyProof.Rows L2
section
variable {K : PySem.W.Frag}
theorem s_lst {ta : TA} {ds : List PyData} {i : Nat} {u : TS} {D : Ends} {σ : L2.St} {H : Hp} (h : MkA K ta ds) (hl : ds.length ≤ 1000)
    (k : ∀ vs H1 p, Same H H1 → vs.length = ds.length → (∀ a, H a ≠ none → DqAll K (off H1 a) vs ds) → H1 p = none → u D (σ.set i (some (.ref p))) (upd H1 p (.lst vs))) :
    tSeq (tAsg (tLst ta) (gName i)) u D σ H := by
  refine h σ H _ fun vs H1 s l d => ⟨?_, fun p np => k vs H1 p s l d np⟩
  rw [l]
  exact Nat.le_of_lt (small1000 hl)
/-- x + [..] -/
theorem e_cat {ta : TA} {ds : List PyData} {i : Nat} {σ : L2.St} {H : Hp} {Q : VK} {t : Addr} {xs : List V} (h : MkA K ta ds) (hl : xs.length + ds.length ≤ 1000) (hi : σ[i]? = some (some (.ref t))) (ht : H t = some (.lst xs))
    (k : ∀ vs H1 p, Same H H1 → vs.length = ds.length → (∀ a, H a ≠ none → DqAll K (off H1 a) vs ds) → H1 p = none → Q (.ref p) (upd H1 p (.lst (xs ++ vs)))) :
    tOp rCat (tVar i) (tLst ta) σ H Q := by
  refine ⟨.ref t, hi, h σ H _ fun vs H1 s l d => ⟨?_, fun p np => ⟨t, p, xs, vs, rfl, rfl, ?_, upd_same, ?_, fun p2 np2 => ?_⟩⟩⟩
  · rw [l]
    exact Nat.le_of_lt (small1000 (by omega))
  · rw [upd_ne (ne_of_none (s _ _ ht) np)]
    exact s _ _ ht
  · rw [l]
    exact Nat.le_of_lt (small1000 hl)
  · refine k vs (upd H1 p (.lst vs)) p2 (s.trans (same_upd np)) l (fun a ha => DqAll.same (off_mono (same_upd np)) (d a ha)) np2
def rLenQ (K : PySem.W.Frag) : List V → Hp → VK → Prop := fun xs H Q => ∃ (p : Addr) (ys : List V), xs = [.ref p] ∧ (SqL K H p ys ∨ SqT K H p ys) ∧ Q (.int ys.length) H
theorem call_lenQ {X : Cx} : CallR X (.builtin "len") (rLenQ X.K) := call_len_seq
end
end Lw

set_option Elab.async false
set_option linter.all false
set_option maxRecDepth 100000
set_option maxHeartbeats 4000000
namespace Lw
open PySem PySem.Spec PyProof.Rows L2

/-! ## own exceptions over one of the built-in ones -/
/-- own classes, then the mro of a built-in one -/
def refsT (tl : List Value) : List Value → Bool
  | .ref _ :: r => refsT tl r
  | l => l == tl
theorem refsT_or (tl : List Value) (l : List Value) (h : refsT tl l = true) : (∃ c r, l = .ref c :: r ∧ refsT tl r = true) ∨ l = tl := by
  cases l with
  | nil => exact .inr (beq_iff_eq.mp h)
  | cons a r =>
    cases a with
    | ref c => exact .inl ⟨c, r, rfl, h⟩
    | _ => exact .inr (beq_iff_eq.mp h)
/-- what the built-in class says -/
structure ExB (B newId initId : String) (tl : List Value) : Prop where
  fb : ExcBaseFacts B newId initId tl
  kf : PySem.W.KxsFacts B initId
  pass : ∀ self, PySem.refuseLoop self "__setattr__" tl = pure ()
  obj : tl.contains (.type "object") = true
  nn : tl ≠ []
abbrev tlOf (B : String) : List Value := [.type B, .type "Exception", .type "BaseException", .type "object"]
theorem exb_V : ExB "ValueError" "ValueError.__new__" "ValueError.__init__" (tlOf "ValueError") := ⟨F.excBase_ValueError, PySem.W.kxs_ValueError, F.store_ValueError.passes, by decide +kernel, by simp⟩
theorem exb_L : ExB "LookupError" "LookupError.__new__" "LookupError.__init__" (tlOf "LookupError") := ⟨F.excBase_LookupError, PySem.W.kxs_LookupError, F.store_LookupError.passes, by decide +kernel, by simp⟩
theorem exb_R : ExB "RuntimeError" "RuntimeError.__new__" "RuntimeError.__init__" (tlOf "RuntimeError") := ⟨F.excBase_RuntimeError, PySem.W.kxs_RuntimeError, F.store_RuntimeError.passes, by decide +kernel, by simp⟩
theorem exb_A : ExB "ArithmeticError" "ArithmeticError.__new__" "ArithmeticError.__init__" (tlOf "ArithmeticError") := ⟨F.excBase_ArithmeticError, PySem.W.kxs_ArithmeticError, F.store_ArithmeticError.passes, by decide +kernel, by simp⟩
theorem refsT_pass {B newId initId : String} {tl : List Value} (E : ExB B newId initId tl) (self : Value) : ∀ l : List Value, refsT tl l = true → PySem.refuseLoop self "__setattr__" l = pure () := by
  intro l
  induction l with
  | nil =>
    intro h
    exact absurd (beq_iff_eq.mp h).symm E.nn
  | cons a r ih =>
    intro h
    rcases refsT_or tl _ h with ⟨c, r', q, g⟩ | q
    · cases q
      rw [PySem.refuseLoop_ref]
      exact ih g
    · rw [q]
      exact E.pass self
theorem refsT_obj {B newId initId : String} {tl : List Value} (E : ExB B newId initId tl) : ∀ l : List Value, refsT tl l = true → l.contains (.type "object") = true ∧ l.isEmpty = false := by
  intro l
  induction l with
  | nil =>
    intro h
    exact absurd (beq_iff_eq.mp h).symm E.nn
  | cons a r ih =>
    intro h
    refine ⟨?_, rfl⟩
    rcases refsT_or tl _ h with ⟨c, r', q, g⟩ | q
    · cases q
      rw [List.contains_cons, (ih g).1, Bool.or_true]
    · rw [q]
      exact E.obj
/-- what the written part says of a class of exceptions -/
def clsB (K : PySem.W.Frag) (C : Addr) (tl : List Value) (newId : String) : Bool :=
  PySem.W.excInitIn K C tl newId && (((PySem.W.clsIn K C).any fun cd => cd.hasDict && refsT tl cd.mro) && (decide (PySem.W.findIn K (.ref C) "__setattr__" = some (some (.builtin "object.__setattr__"))) &&
    (decide (PySem.W.subIn K (.ref C) (.type "BaseException") = some true) && (decide (PySem.W.typeIn K (.ref C) = some (.type "type")) && PySem.W.keepIn K (.ref C)))))
structure ExcK (K : PySem.W.Frag) (C : Addr) (tl : List Value) (newId : String) : Prop where
  ini : PySem.W.excInitIn K C tl newId = true
  cls : ∃ cd, PySem.W.clsIn K C = some cd ∧ cd.hasDict = true ∧ refsT tl cd.mro = true
  sa : PySem.W.findIn K (.ref C) "__setattr__" = some (some (.builtin "object.__setattr__"))
  exC : PySem.W.subIn K (.ref C) (.type "BaseException") = some true
  tyC : PySem.W.typeIn K (.ref C) = some (.type "type")
  kC : PySem.W.keepIn K (.ref C) = true
theorem clsB_ok {K : PySem.W.Frag} {C : Addr} {tl : List Value} {newId : String} (h : clsB K C tl newId = true) : ExcK K C tl newId := by
  unfold clsB at h
  simp only [Bool.and_eq_true, decide_eq_true_eq] at h
  obtain ⟨h1, h2, h3, h4, h5, h6⟩ := h
  obtain ⟨cd, e, h7⟩ := (Option.any_eq_true _ _).mp h2
  rw [Bool.and_eq_true] at h7
  exact ⟨h1, ⟨cd, e, h7.1, h7.2⟩, h3, h4, h5, h6⟩

section
open PySem.Builtin PySem.Builtin.ObjectAttr
variable {prog : Program} {w : World} {A : Around} {R : Result → Shared → Prop} {hp : Heap} {g : Array GenState} {d : Drawn} {t : Nat} {os : OsState}
/-- the first field of an exception -/
theorem osa_b {B newId initId : String} {tl : List Value} (EB : ExB B newId initId tl) {K : PySem.W.Frag} {name : Str} {tk : Tok} {v : Value} {x C : Addr} {fv : Array Value} {cd : ClassData}
    (X : K.In hp) (hx : hp.get? x = some { cls := .ref C, data := .fields fv }) (hcd : PySem.W.clsIn K C = some cd) (hm : refsT tl cd.mro = true) (hh : cd.hasDict = true) (ha : PySem.W.findIn K (.ref C) name = some none)
    (hq : ∀ h' tk' dx, (∀ b o, b ≠ x → hp.get? b = some o → h'.get? b = some o) → hp.objs.size ≤ dx → dx ≠ x → h'.get? x = some { cls := .ref C, dict := some dx, data := .fields fv } →
      h'.Ns1 dx (fun y => if y = name then some v else none) → R (.ok (.ret .none)) ⟨h', g, d, tk', os⟩) :
    codeAny (model prog w) A (.call (.builtin "object.__setattr__") ⟨[.ref x, .str name tk, v], []⟩) R ⟨hp, g, d, t, os⟩ := by
  obtain ⟨hob, hne⟩ := refsT_obj EB _ hm
  have I : PySem.W.InstAt hp x { cls := .ref C, data := .fields fv } C none := ⟨hx, rfl, rfl, trivial⟩
  have SF := F.store_object
  have hxs : x ≠ hp.objs.size := Nat.ne_of_lt (Heap.lt_size hx)
  have hmro : PySem.W.mroIn K C (.type "object") = some true := by
    unfold PySem.W.mroIn
    rw [hcd, Option.bind_some, if_neg (by rw [hne]; decide), hob]
  have sub : PySem.W.Looks (model prog w) hp (isInstance (.ref x) (.type "object")) true := I.type.andThen (PySem.W.looks_mroIn X hmro)
  refine codeAny_call_builtin SF.slot.plain SF.entry (@PySem.W.check_slot (model prog w) _ _ ⟨hp, g, d, t, os⟩ "object.__setattr__" "object" "__setattr__" (.ref x) [.str name tk, v] [] _ SF.kind SF.split sub (SF.args (.ref x) (.str name tk) v) ?_)
  have hcls : PySem.W.Looks (model prog w) hp (classData C) cd := PySem.W.looks_clsIn X hcd
  have hmr : PySem.W.Looks (model prog w) hp (mroOf (.ref C)) cd.mro := hcls.andThen .now
  have L3 : PySem.W.Looks (model prog w) hp (storeTaker? none) none := .now
  rw [PySem.W.osa_eq, refuse_eq]
  refine wpAny_bind (wpAny_bind (I.type.at (wpAny_bind (hmr.at ?_))))
  rw [refsT_pass EB _ _ hm]
  refine wpAny_pure (wpAny_bind (I.type.at (wpAny_bind ((PySem.W.looks_findIn X ha).at (wpAny_bind (L3.at ?_))))))
  show wpAny _ _ (storeInOwnDict (.ref x) (.ref C) (.str name tk) name v false) _ _ _
  obtain ⟨nm, bs, mro, ns, qn, hd, sn, sb, ab, col, del⟩ := cd
  dsimp only at hh
  subst hh
  unfold storeInOwnDict ownDictForStores
  repeat (first | with_reducible refine HandSPX.store_in_new ?_ ?_ | with_reducible refine wpAny_loadPart_at hx ?_ | with_reducible refine hcls.at ?_ | wp_step)
  · exact ⟨_, #[], _, (Heap.get?_update_ne _ _ _ _ hxs.symm).trans (Heap.get?_push_at rfl rfl), rfl, fun e he => absurd he (by simp), fun _ => rfl⟩
  · intro h' tk' hn' hs
    have hx₁ : (hp.push { cls := .type "dict", data := .dict #[] }).get? x = some { cls := .ref C, data := .fields fv } := Heap.get?_push_of_some _ hx
    refine hq h' tk' hp.objs.size (fun b o hb ho => ?_) (Nat.le_refl _) hxs.symm ?_ hn'
    · exact (hs.2 b (Nat.ne_of_lt (Heap.lt_size ho))).trans ((Heap.get?_update_ne _ _ _ _ hb).trans (Heap.get?_push_of_some _ ho))
    · exact (hs.2 x hxs).trans (Heap.get?_update_self _ hx₁ rfl)
end
end Lw

set_option Elab.async false
set_option linter.all false
set_option maxRecDepth 100000
set_option maxHeartbeats 4000000
namespace Lw
open PySem PySem.Spec PyProof.Rows L2

/-- the words of a def `__init__` that closes over its class -/
structure IniW where
  name : Str
  qual : Str
  params : Arguments
  body : List Stmt
  scope : Scope
/-- such a def as it stands behind the top: its cell cc, its code object cda, its class C -/
structure IniK (P : Program) (K : PySem.W.Frag) (mg : Str → Option Value) (W : IniW) (f cc cda C : Addr) (B initId : String) : Prop where
  lk : ∃ (oc doc pm ct : Value) (od : Option Addr) (osl : Array (Option Value)), K.lookup f = some ⟨oc, od, .func (PySem.W.fnX W.name W.qual W.params W.body W.scope [("__class__", cc)] .none .none doc pm none (.ref cda) ct), osl⟩
  hcd : PySem.W.codeIn K (.ref cda) W.qual = true
  code : ∃ (ccl : Value) (cdd : Option Addr) (vs : Array Value) (ccs : Array (Option Value)) (file : Str) (tf : Tok), K.lookup cda = some ⟨ccl, cdd, .fields vs, ccs⟩ ∧ vs[2]? = some (.str file tf) ∧ ((P.main.file : Str) == file) = true
  cell : ∃ (cl : Value) (cld : Option Addr) (csl : Array (Option Value)), K.lookup cc = some ⟨cl, cld, .cell (some (.ref C)), csl⟩
  top : (P.main.scope.names.lookup ("super" : Str)).isSome = false
  sup : mg "super" = none
  self : (W.params.posonlyargs ++ W.params.args).head?.map (fun a => a.arg) = some "self"
  kind : W.scope.kind = .function
  ksup : W.scope.names.lookup ("super" : Str) = some .globalImplicit
  kcls : W.scope.names.lookup ("__class__" : Str) = some .free
  kself : W.scope.names.lookup ("self" : Str) = some .local
  opq : PySem.W.nsIn K cStatics "thirdparty.any" = some none
  meth : PySem.W.ks_superIn K C C "__init__" = some (some (.builtin initId))
  subB : PySem.W.subIn K (.ref C) (.type B) = some true
  subC : PySem.W.mroIn K C (.ref C) = some true

section
variable {X : Cx} {pins : List (Addr × Obj)} {σ : L2.St} {H : Hp} {s : Shared} {a f cc cda C : Addr} {W : IniW} {B newId initId : String} {tl : List Value} {body : List Stmt} {E : Value → Shared → Prop}
/-- the built-in __init__, bound to the exception, is called -/
theorem mw_call (EB : ExB B newId initId tl) (T : ExcK X.K C tl newId) (I : Inv X pins σ H s) (ha : H a = some (exo a C none)) {u : Addr} (hu : s.heap.get? u = some (PySem.W.kxs_mw initId a)) {rest : List Value} (hz : rest.length ≤ sizeLine)
    {Q : Value → Shared → Prop} (h : ∀ s', Inv X pins σ H s' → Q .none s') : wpAny (model X.prog X.w) X.A (call (.ref u) rest) Q E s := by
  obtain ⟨nm, N', qn, bs, bm, hdct, sn, sub, ab, col, dd, k0, k1, k2, k3, k5, hC, hT⟩ := PySem.W.excInit_of I.kIn T.ini
  obtain ⟨t1, he⟩ := exo_at I.hok ha
  obtain ⟨hh, g, d, tk, os⟩ := s
  refine wpAny_call (codeAny_of_tree ?_)
  show wpAny _ X.A.in1 (callAny (.ref u) ⟨rest, []⟩) _ _ _
  simp only [callAny]
  refine wpAny_bind (wpAny_load hu ?_)
  have e1 : (Value.type "method-wrapper" == Value.type "method" || Value.type "method-wrapper" == Value.type "builtin_function_or_method" || Value.type "method-wrapper" == Value.type "method-wrapper") = true := by decide
  simp only [PySem.W.kxs_mw, e1, if_true]
  refine PySem.W.KFB.if_so (by decide) ?_
  refine wpAny_bind (PySem.W.check_bound_init EB.fb.toExcCallFacts hC he rfl ?_)
  refine wpAny_bind (wpAny_pure (wpAny_pure ?_))
  refine ⟨plainId_quiet EB.fb.init.plain _, codeAny_builtin EB.fb.initEntry ?_⟩
  refine PySem.W.exc_init_tree (cls := .ref C) (t0 := t1) (dv := none) (c2 := .none) (c3 := .none) (b4 := .bool false) he hz fun h' k e' t' => ?_
  have J := I.write (t' := tk) (x := a) (e := a) (o := exo a C none) (by rw [ha]; exact True.intro) (.inl rfl) k ⟨_, e'⟩ (exo_ok e')
  have eu : upd H a (exo a C none) = H := by
    funext b
    by_cases hb : b = a
    · rw [hb, upd_same, ha]
    · rw [upd_ne hb]
  rw [eu] at J
  exact h _ J

/-- super().__init__('..') -/
theorem sup_stmt {p0 p1 p2 p3 p4 p5 : Pos} {j : Nat} {msg : Str} (EB : ExB B newId initId tl) (T : ExcK X.K C tl newId) (S : IniK X.prog X.K X.mg W f cc cda C B initId) (I : Inv X pins σ H s)
    (hsc : X.env.scope = W.scope) (hfn : X.env.func = some f) (hco : X.env.code = .ref cda) (hce : X.env.cells = [(("__class__" : Str), cc)])
    (hN : X.N[0]? = some ("self" : Str)) (h0 : σ[0]? = some (some (.ref a))) (ha : H a = some (exo a C none)) {pl : Sem Bool}
    (hev : eval (.Call (.Attribute (.Call (.Name "super" p0) [] [] p1) "__init__" p2) [.Constant (.str msg) j p3] [] p4) X.env = (do
      let ov ← attributeBase (.Call (.Name "super" p0) [] [] p1) "__init__" X.env (eval (.Call (.Name "super" p0) [] [] p1) X.env)
      standAt p2.atName
      let fx ← holding [ov] (getMethod ov "__init__" pl)
      callWith p4 fx.1 fx.2 (backTo p4 (starEach [.Constant (.str msg) j p3] X.env)) []))
    {Q : Flow → Shared → Prop} (h : ∀ s', Inv X pins σ H s' → Q .next s') :
    PySem.wpAt (model X.prog X.w) X.A (.func body X.env) (exec (.Expr (.Call (.Attribute (.Call (.Name "super" p0) [] [] p1) "__init__" p2) [.Constant (.str msg) j p3] [] p4) p5) X.env) Q E s := by
  have gk : ∀ x : Str, X.env.kindOf x = W.scope.names.lookup x := fun x => by
    show X.env.scope.names.lookup x = _
    rw [hsc]
  refine ks_wpAt_Expr_any ?_ I.quiet rfl
  refine ks_wpAt_MethodCall ?_ hev
  obtain ⟨oc, doc, pm, ct, od, osl, lk⟩ := S.lk
  obtain ⟨ccl, cdd, vs, ccs, file, tf, lc, hvs, hfile⟩ := S.code
  obtain ⟨cl, cld, csl, lcell⟩ := S.cell
  obtain ⟨ar, hp, har⟩ := Option.map_eq_some_iff.mp S.self
  obtain ⟨cd, hcd, _, _⟩ := T.cls
  have KX := I.kIn
  refine ks_wpAt_super_base (env := X.env) ((gk _).trans S.ksup) ((gk _).trans S.kcls) (by decide) hfn (KX _ _ lk) rfl hp hco (KX _ _ lc) rfl hvs hfile S.top ?_
  -- super
  obtain ⟨mb, b1, b2⟩ := I.mod.blt
  refine PySem.W.ks_loadName_global I.ok.kind ((gk _).trans S.ksup) (Calls.loadGlobal_builtin (by rw [I.ok.glob]; exact I.mod.glob.keeps I.bk) S.sup (by rw [I.ok.blt]; exact b1.keeps I.bk) ((b2 _ (by decide)).trans (by first | boot_by_name | rfl | kernel_rfl)) ⟨rfl, ?_⟩)
  -- __class__
  refine wpAny_loadName_free I.ok.kind ((gk _).trans S.kcls) (c := cc) (by rw [hce]; rfl) ⟨_, KX _ _ lcell, rfl⟩ ?_
  -- self
  rw [har]
  obtain ⟨m, hn, hl⟩ := I.loc
  obtain ⟨us, rs, ls⟩ := hl 0 "self" _ hN h0 (.inl (by rw [hsc]; exact S.kself))
  cases (show us = Value.ref a from rs)
  have hm : m "self" = some (.ref a) := by
    rcases ls with ⟨_, q⟩ | ⟨q, _⟩
    · exact q
    · rw [gk, S.kself] at q
      rcases q with q | q <;> cases q
  refine wpAny_loadName_local I.ok.kind ((gk _).trans S.kself) hn hm ?_
  -- the super object
  obtain ⟨t1, he⟩ := exo_at I.hok ha
  obtain ⟨oD, hD1, hD2⟩ : ∃ oD, s.heap.get? C = some oD ∧ oD.data = .cls cd := by
    unfold PySem.W.clsIn at hcd
    split at hcd
    · rename_i c d cd' sl ho
      cases hcd
      exact ⟨_, KX _ _ ho, rfl⟩
    · cases hcd
  have In : PySem.W.InstAt s.heap a { cls := .ref C, dict := none, data := .fields #[.ref t1, .none, .none, .none, .bool false, .none] } C none := ⟨he, rfl, rfl, trivial⟩
  have nac : a ≠ C := PySem.W.ks_ne KX In hcd
  have subB := S.subB
  have meth := S.meth
  have opq := S.opq
  obtain ⟨hh, g, d, t, os⟩ := s
  refine ks_wpAny_isType_cls hD1 hD2 ⟨rfl, ?_⟩
  refine ks_wpAny_call_super hD1 hD2 he rfl (fun c e => nomatch e) (PySem.W.looks_mroIn KX S.subC) (fun h' e k => ?_)
  have I2 : Inv X pins σ H ⟨h', g, d, t, os⟩ := I.kept (t' := t) k
  obtain ⟨t2, he2⟩ := exo_at I2.hok ha
  have In2 : PySem.W.InstAt h' a { cls := .ref C, dict := none, data := .fields #[.ref t2, .none, .none, .none, .bool false, .none] } C none := ⟨he2, rfl, rfl, trivial⟩
  unfold PySem.W.ks_superIn at meth
  rw [hcd] at meth
  refine PySem.W.kxs_getMethod EB.kf e (PySem.W.looks_opaque I2.kIn opq) (l₀ := cd.mro) (fun A Q E s k q => wpAny_bind ((PySem.W.looks_clsIn I2.kIn hcd) A _ E s k (wpAny_pure q))) rfl I2.kIn meth (In2.type.andThen (PySem.W.looks_subIn I2.kIn subB)) nac (by decide) ?_
  have k3 : ∀ b o, h'.get? b = some o → (h'.push (PySem.W.kxs_mw initId a)).get? b = some o := fun b o e => Heap.get?_push_of_some _ e
  have I3 : Inv X pins σ H ⟨h'.push (PySem.W.kxs_mw initId a), g, d, t + 1, os⟩ := I2.kept (t' := t + 1) k3
  have hu : (h'.push (PySem.W.kxs_mw initId a)).get? h'.objs.size = some (PySem.W.kxs_mw initId a) := Heap.get?_push_at rfl rfl
  -- the call
  show wpAny _ _ (callWith p4 (.ref h'.objs.size) [] (backTo p4 (starEach [.Constant (.str msg) j p3] X.env)) []) _ _ _
  have hse : starEach [.Constant (.str msg) j p3] X.env = (false, eval (.Constant (.str msg) j p3) X.env) :: starEach [] X.env := rfl
  rw [hse]
  refine PySem.W.kxs_callWith (i := initId) (x := a) rfl ?_
  refine Calls.evalArgs_plain ?_
  refine Calls.spliced_cons (@Calls.Constant_str _ _ _ _ _ msg j p3 _ (Calls.spliced_nil ⟨hu, ?_⟩))
  exact mw_call EB T (I3.tok _) ha hu (by show 1 ≤ sizeLine; decide) h
end

/-! ## the promise of such an `__init__` -/
section
open NdefX
variable {P : Program} {w : World} {K : PySem.W.Frag} {mg : Str → Option Value} {base : Heap} {f cc cda C : Addr} {W : IniW} {B newId initId : String} {tl : List Value}
abbrev IniW.nf (W : IniW) (cc cda : Addr) : NF := ⟨W.name, W.qual, W.params, W.body, W.scope, [("__class__", cc)], cda⟩
/-- the first statement is super().__init__('..'), the rest is walked -/
theorem ini_ok {CX : CXT} {N ps : List Str} {k : Nat} {sp : Sp} {p0 p1 p2 p3 p4 p5 : Pos} {j : Nat} {msg : Str} {rest : List Stmt} {fd : FuncData} (EB : ExB B newId initId tl) (T : ExcK K C tl newId) (S : IniK P K mg W f cc cda C B initId)
    (hb : W.body = .Expr (.Call (.Attribute (.Call (.Name "super" p0) [] [] p1) "__init__" p2) [.Constant (.str msg) j p3] [] p4) p5 :: rest)
    (SC : NScope N ps ["__class__"] W.scope) (hp0 : ps[0]? = some ("self" : Str)) (len : ∀ vs H Q E, sp vs H Q E → vs.length = ps.length)
    (hself : ∀ vs H Q E, sp vs H Q E → ∃ a, vs[0]? = some (.ref a) ∧ H a = some (exo a C none))
    (hev : ∀ L, ∃ pl, eval (.Call (.Attribute (.Call (.Name "super" p0) [] [] p1) "__init__" p2) [.Constant (.str msg) j p3] [] p4) (envF (W.nf cc cda) f L) = (do
      let ov ← attributeBase (.Call (.Name "super" p0) [] [] p1) "__init__" (envF (W.nf cc cda) f L) (eval (.Call (.Name "super" p0) [] [] p1) (envF (W.nf cc cda) f L))
      standAt p2.atName
      let fx ← holding [ov] (getMethod ov "__init__" pl)
      callWith p4 fx.1 fx.2 (backTo p4 (starEach [.Constant (.str msg) j p3] (envF (W.nf cc cda) f L))) []))
    (hbody : ∀ (A : Around) (outer : List Env) (s : Shared) (H : Hp) (vs : List V) (Q : VK) (E : XK), Room k (A.deeper (envF (W.nf cc cda) f s.heap.objs.size)) → sp vs H Q E →
      ∃ t, PSs (ncx CX P w K mg base N (W.nf cc cda) f A outer s H E) rest t ∧ t { nx := fun _ H' => Q .non H', rt := Q } (startF N vs [some (.ref C)]) H)
    (hfd : ∃ (oc : Value) (od : Option Addr) (osl : Array (Option Value)), K.lookup f = some ⟨oc, od, .func fd, osl⟩) :
    FnOk P w K mg base CX (k + 1) f fd ps sp := by
  refine ⟨len, fun A outer s H args us vs Q E hr e0 hbnd r hsp => ?_⟩
  have keep := fun b o e => (e0.bs b o e).1
  have KX : K.In s.heap := e0.mod.kin.keeps keep
  obtain ⟨oc, doc, pm, ct, od, osl, lk⟩ := S.lk
  obtain ⟨oc', od', osl', lk'⟩ := hfd
  rw [lk] at lk'
  cases lk'
  obtain ⟨cl, cld, csl, lcell⟩ := S.cell
  have hl := len _ _ _ _ hsp
  refine ks_codeAny_call_defAt (body := W.body) hr.depth (KX _ _ lk) rfl (e0.mod.nolimit.keeps keep) (PySem.W.codeRec_of KX S.hcd) rfl hbnd SC.nocell (fun y hy => SC.par y.1 (List.of_mem_zip hy).1) (fun h₁ hns kp => ?_) SC.co SC.gen SC.kind
  have CA : CellsAt [(("__class__" : Str), cc)] ["__class__"] [some (.ref C)] s.heap H := by
    refine ⟨rfl, fun y c hc => ?_, fun x y c hx hy => ?_, fun i y hy => ?_⟩
    · have e : c = cc := by
        by_cases q : y = "__class__"
        · subst q
          exact (Option.some.inj hc).symm
        · have z : ([(("__class__" : Str), cc)]).lookup y = none := by
            simp [List.lookup, show (y == ("__class__" : Str)) = false by simpa using q]
          rw [z] at hc
          cases hc
      subst e
      exact ⟨(e0.bs _ _ (e0.mod.kin _ _ lcell)).2, _, _, KX _ _ lcell, rfl⟩
    · have key : ∀ z : Str, ([(("__class__" : Str), cc)]).lookup z = some c → z = "__class__" := fun z hz => by
        refine Classical.byContradiction fun q => ?_
        simp [List.lookup, show (z == ("__class__" : Str)) = false by simpa using q] at hz
      rw [key x hx, key y hy]
    · match i, hy with
      | 0, hy =>
        cases hy
        refine ⟨cc, rfl, fun v hv => ?_⟩
        cases hv
        exact ⟨.ref C, rfl, _, KX _ _ lcell, rfl⟩
  have I : Inv (ncx CX P w K mg base N (W.nf cc cda) f A outer s H E) [] (startF N vs [some (.ref C)]) H { s with heap := h₁, toks := s.toks + (ps.zip us).length } := inv_startN SC hr.hd e0 hl r CA hns kp
  obtain ⟨a, hv0, ha⟩ := hself _ _ _ _ hsp
  have hN : N[0]? = some ("self" : Str) := by
    have q := congrArg (fun l : List Str => l[0]?) SC.pre
    have pl : 0 < ps.length := (List.getElem?_eq_some_iff.mp hp0).1
    rw [List.getElem?_take_of_lt (by omega), List.getElem?_append_left pl] at q
    exact q.trans hp0
  have h0 : (startF N vs [some (.ref C)])[0]? = some (some (.ref a)) := by
    unfold startF
    have vl : 0 < vs.length := (List.getElem?_eq_some_iff.mp hv0).1
    rw [List.getElem?_append_left (by simpa using vl), List.getElem?_map, hv0]
    rfl
  obtain ⟨pl, hev⟩ := hev s.heap.objs.size
  obtain ⟨t, ht, hq⟩ := hbody A outer s H vs Q E (hr.deeper _) hsp
  show PySem.wpAt _ _ _ (execs W.body (envF (W.nf cc cda) f s.heap.objs.size)) _ _ _
  rw [hb]
  refine ks_wpAt_execs_cons ?_
  refine sup_stmt (X := ncx CX P w K mg base N (W.nf cc cda) f A outer s H E) (W := W) EB T S I rfl rfl rfl rfl hN h0 ha hev fun s' J => ?_
  refine wpAt_of_wpAny ?_
  refine wpAny_mono (ht.run [] s' (startF N vs [some (.ref C)]) H _ J hq) (fun fl s'' hs => ?_) fun e s'' hs => hs
  cases fl with
  | ret u =>
    obtain ⟨v, σ', H', J', rv, q⟩ := hs
    exact ⟨v, H', J'.os, J'.bare, J'.base, J'.hok, rv, q⟩
  | next =>
    obtain ⟨σ', H', J', q⟩ := hs
    exact ⟨V.non, H', J'.os, J'.bare, J'.base, J'.hok, rfl, q⟩
  | brk => exact hs.elim fun _ z => z.elim fun _ z => z.2.elim
  | cont => exact hs.elim fun _ z => z.elim fun _ z => z.2.elim
end
end Lw

set_option Elab.async false
set_option linter.all false
set_option maxRecDepth 100000
set_option maxHeartbeats 4000000
namespace Lw
open PySem PySem.Spec PyProof.Rows L2
section
variable {X : Cx} {pins : List (Addr × Obj)} {σ : L2.St} {H : Hp} {s : Shared} {a C dx : Addr} {f : Str} {y : V} {u : Value} {E : Value → Shared → Prop} {A : Around} {B newId initId : String} {tl : List Value}
/-- self.f = y, the first field of an exception -/
theorem ost_b (EB : ExB B newId initId tl) (T : ExcK X.K C tl newId) (I : Inv X pins σ H s) (e : H a = some (exo a C none)) (hno : PySem.W.findIn X.K (.ref C) f = some none) (ry : L2.RelV y u) {Q : Unit → Shared → Prop}
    (h : ∀ dx s', H dx = none → dx ≠ a → Inv X pins σ (upd (upd H dx (exd dx [(f, y)])) a (exo a C (some dx))) s' → Q () s') : wpAny (model X.prog X.w) A (setAttr (.ref a) f u) Q E s := by
  obtain ⟨cd, hcd, hdict, hmro⟩ := T.cls
  obtain ⟨t1, ho⟩ := exo_at I.hok e
  obtain ⟨hp, g, d, t, os⟩ := s
  refine PySem.W.set_plain I.kIn (ox := { cls := .ref C, dict := none, data := .fields #[.ref t1, .none, .none, .none, .bool false, .none] }) (od := none) ⟨ho, rfl, rfl, trivial⟩ T.sa ?_
  refine osa_b EB I.kIn ho hcd hmro hdict hno fun h' tk' dx k dn dne hx hn => ?_
  have hnd : H dx = none := I.hok.fresh dn
  have na : ∀ {b : Addr}, H b = none → b ≠ a := fun {b} n z => by
    rw [z, e] at n
    cases n
  have nd : ∀ {b : Addr} {o : Obj}, hp.get? b = some o → b ≠ dx := fun {b o} q => Nat.ne_of_lt (Nat.lt_of_lt_of_le (Heap.lt_size q) dn)
  have keepT : ∀ {b : Addr} {o : HO}, H b = some o → exo a C none ≠ o → upd (upd H dx (exd dx [(f, y)])) a (exo a C (some dx)) b = some o := fun {b o} q ne => by
    rw [upd_ne (at_ne e q ne), upd_ne (ne_of_none q hnd)]
    exact q
  have U : Un X.fs [] H (upd (upd H dx (exd dx [(f, y)])) a (exo a C (some dx))) hp h' := by
    refine ⟨fun b o q n _ _ => k b o (na n) q, fun b o q n _ _ => ⟨o.slots, k b o (na n) q⟩, fun b o q n _ => ?_, fun b o q _ => ?_, fun b xs q => keepT q exo_tup, fun b o v q => keepT q exo_frz, fun b ps q => ⟨#[], ?_⟩⟩
    · rw [upd_ne (na n), upd_ne (nd q)]
      exact n
    · by_cases hb : b = a
      · rw [hb]
        exact ⟨_, hx⟩
      · exact ⟨o, k b o hb q⟩
    · rw [keepT q exo_tbl]
      simp
  refine h dx _ hnd dne (I.un (t' := tk') U fun b o q => ?_)
  by_cases hb : b = a
  · subst hb
    rw [upd_same] at q
    cases q
    exact exo_ok hx
  · rw [upd_ne hb] at q
    by_cases hd : b = dx
    · subst hd
      rw [upd_same] at q
      cases q
      exact exd_ok hn (relO_put (fs := []) ry fun g => True.intro)
    · rw [upd_ne hd] at q
      refine (I.hok b o q).stay (fun c v hc z => k c v ?_ z) (fun c hc => keepT hc exo_own) fun c xs hc => keepT hc exo_tup
      rcases hc with hc | hc
      · rw [hc]
        exact hb
      · exact at_ne e hc exo_own
end
/-- self.f = e as the reading of a statement -/
def tOstB (K : PySem.W.Frag) (tl : List Value) (newId : String) (f : Str) (to te : TE) : TS := fun D σ H => te σ H fun y H1 => to σ H1 fun x H2 => ∃ a C : Addr, x = .ref a ∧ ExcK K C tl newId ∧ PySem.W.findIn K (.ref C) f = some none ∧
  H2 a = some (exo a C none) ∧ ∀ dx, H2 dx = none → dx ≠ a → D.nx σ (upd (upd H2 dx (exd dx [(f, y)])) a (exo a C (some dx)))
section
variable {X : Cx} {o e : Expr} {es : List Expr} {to te : TE} {ta : TA} {f : Str} {p p' pos : Pos} {B newId initId : String} {tl : List Value}
theorem ps_ostB (EB : ExB B newId initId tl) (ho : PE X o to) (he : PE X e te) (hs : swapsWith e (some (.Attribute o f p')) pos.line X.env = pure false := by rfl) : PS X (.Assign [.Attribute o f p'] e pos) (tOstB X.K tl newId f to te) := by
  constructor
  intro pins s σ H D I h
  refine plainObj_wpAny_Assign_Attribute (thn (he.run pins s σ H _ I h) fun v s1 hv => ?_) hs
  obtain ⟨y, H1, I1, r1, q1⟩ := hv
  refine thn (ho.run pins s1 σ H1 _ I1 q1) fun u s2 hu => ?_
  obtain ⟨x, H2, I2, r2, a, C, ex, T, hno, ea, q⟩ := hu
  subst ex
  cases (show u = Value.ref a from r2)
  exact ost_b EB T I2 ea hno r1 fun dx s' n ne J => ⟨σ, _, J, q dx n ne⟩
/-- C(e, ..) as what a raise makes -/
theorem pmk_b {CX : CXT} {x : Str} {C fI : Addr} {k : Nat} {fd : FuncData} {ps : List Str} {sp : Sp} (EB : ExB B newId initId tl) (T : ExcK X.K C tl newId) (iC : PySem.W.findIn X.K (.ref C) "__init__" = some (some (.ref fI))) (tI : PySem.W.typeIn X.K (.ref fI) = some (.type "function"))
    (F1 : FnOk X.prog X.w X.K X.mg X.base CX k fI fd ps sp) (hr : Room (k + 1) X.A) (hb : Binds X.K fd ps []) (hx : Passes CX X (fun _ _ _ => False)) (hm : X.mg x = some (.ref C)) (ha : PA X (e :: es) ta) (hg : Gl X x := by rfl)
    (hdb : (x == ("__debug__" : Str)) = false := by decide) (he : starEach (e :: es) X.env = (false, eval e X.env) :: starEach es X.env := by rfl) (hpl : (backTo pos (starEach es X.env)).any (fun q => q.1) = false := by rfl) :
    PMk X (.Call (.Name x p) (e :: es) [] pos) (tMkO C sp [] ta) := by
  intro pins s σ H Q I h
  refine wpAny_Call_Name_kw (ld_glob I hg hm (PySem.W.callWith_K (h₀ := X.base) I.ok.mod.kin T.kC (thn (ha.run pos pins s σ H _ I h) fun us s1 hu => ?_) he hpl) hdb)
  obtain ⟨vs, H1, I1, r1, hz, q1⟩ := hu
  refine ⟨I1.kIn, ?_⟩
  show wpAny _ _ (call (.ref C) us) _ _ _
  obtain ⟨nm, N', qn, bs, bm, hdct, sn, sub, ab, col, dd, k0, k1, k2, k3, k5, hC, hT⟩ := PySem.W.excInit_of I1.kIn T.ini
  obtain ⟨hp, g, dr, tk, os⟩ := s1
  generalize hA : hp.objs.size + 1 = A1
  have hsz : hp.objs.size ≤ A1 := by omega
  have hq := q1 A1 (I1.hok.fresh hsz)
  have kk : ∀ b o, hp.get? b = some o → ((hp.push (PySem.W.kdv_tup us)).push (HandSPX.excO C hp.objs.size)).get? b = some o := fun b o e => Heap.get?_push_of_some _ (Heap.get?_push_of_some _ e)
  have hget : ((hp.push (PySem.W.kdv_tup us)).push (HandSPX.excO C hp.objs.size)).get? A1 = some (HandSPX.excO C hp.objs.size) := by
    rw [← hA]
    heap_get
  have I2 : Inv X pins σ (upd H1 A1 (exo A1 C none)) ⟨(hp.push (PySem.W.kdv_tup us)).push (HandSPX.excO C hp.objs.size), g, dr, tk, os⟩ :=
    I1.laid (t' := tk) (a := A1) (o := exo A1 C none) (h' := (hp.push (PySem.W.kdv_tup us)).push (HandSPX.excO C hp.objs.size)) kk hsz (exo_ok hget)
  have r2 : Vals (V.ref A1 :: (vs ++ [])) (Value.ref A1 :: (us ++ [])) := .cons rfl (r1.append .nil)
  have hl : (Value.ref A1 :: us ++ []).length = ps.length := (r2.length.symm.trans (F1.len _ _ _ _ hq))
  have hus : us.length ≤ sizeLine := by
    rw [← Paired.length r1]
    exact Nat.le_of_lt (small1000 hz)
  refine wpAny_call (HandSPX.call_own EB.fb hT hC (PySem.W.looks_findIn I1.kIn iC) (fun self => PySem.W.bind_fn I1.kIn self tI) hus ?_)
  rw [hA]
  have hbd := hb ⟨(hp.push (PySem.W.kdv_tup us)).push (HandSPX.excO C hp.objs.size), g, dr, tk, os⟩ (Value.ref A1 :: us) I2.kIn hl
  rw [List.cons_append] at hbd
  refine codeAny_mono (F1.run _ X.stack _ _ ⟨Value.ref A1 :: us, []⟩ (Value.ref A1 :: (us ++ [])) _ _ (fun _ _ _ => False) (hr.make C us []) (I2.env0.make C us []) hbd r2 hq) fun r s' hq' => ?_
  match r, hq' with
  | .error er, hq' => exact hx pins σ _ _ er s' I2 hq'
  | .ok .next, hq' => exact False.elim hq'
  | .ok .brk, hq' => exact False.elim hq'
  | .ok .cont, hq' => exact False.elim hq'
  | .ok (.ret u), hq' =>
    obtain ⟨v, H2, os2, bare2, un2, hok2, rv, ev, d, fs, ea, ed, hd1, q2⟩ := hq'
    subst ev
    obtain ⟨h2, g2, d2, t2, os'⟩ := s'
    exact ⟨rv, mk_end (raises_own T.exC T.tyC) I1 hsz kk un2 hok2 os2 bare2 ea ed hd1 q2⟩
end
end Lw

set_option Elab.async false
set_option linter.all false
set_option maxRecDepth 100000
set_option maxHeartbeats 2000000
namespace Lw
open PySem PySem.Spec PyProof.Rows L2
/-! ## common divisors -/
theorem gcd_step (a b : Int) : Int.gcd b (a.fmod b) = Int.gcd a b := by
  rw [Int.fmod_def, Int.gcd_sub_mul_left_right, Int.gcd_comm]
theorem fmod_fall (a b : Int) (h : b ≠ 0) : (a.fmod b).natAbs < b.natAbs := by
  by_cases hb : 0 < b
  · have h1 := Int.fmod_lt_of_pos a hb
    have h2 := Int.fmod_nonneg_of_pos a hb
    omega
  · have hb' : 0 < -b := by omega
    have h1 := Int.fmod_lt_of_pos (-a) hb'
    have h2 := Int.fmod_nonneg_of_pos (-a) hb'
    rw [Int.neg_fmod_neg] at h1 h2
    omega
theorem fmod_le (a b : Int) (h : b ≠ 0) {n : Nat} (hb : b.natAbs < n) : (a.fmod b).natAbs < n := Nat.lt_trans (fmod_fall a b h) hb
theorem abs_if (a : Int) : (if a < 0 then -a else a) = (a.natAbs : Int) := by
  split <;> omega
theorem gcd_pos {n d : Int} (h : d ≠ 0) : 0 < Int.gcd n d := by
  refine Nat.pos_of_ne_zero fun e => ?_
  exact h (Int.gcd_eq_zero_iff.mp e).2
theorem gcd_le {n d : Int} (h : d ≠ 0) : Int.gcd n d ≤ d.natAbs := by
  have e : (Int.gcd n d) ∣ d.natAbs := Int.ofNat_dvd_left.mp (Int.gcd_dvd_right n d)
  exact Nat.le_of_dvd (by omega) e
/-- // by a divisor of some thousand digits, of either sign -/
def CDivG (_ j : Int) : Prop := j ≠ 0 ∧ j.natAbs < 2 ^ 1000
theorem op_fdivG {X : Cx} : OpR X (binaryOp .FloorDiv) (rI CDivG fun i j => .int (i.fdiv j)) := opI fun i j _ _ _ _ _ hc q =>
  floordiv_int hc.1 q (.inl (PyProof.noPylong_of_log2 (Nat.lt_of_lt_of_le (PySem.Flt.log2_lt_of (by decide) hc.2) (by decide))))
/-- the number of a numerator and a denominator other than 0, as data -/
def lowC (n d : Int) : Int := if d < 0 then -(Int.gcd n d : Int) else (Int.gcd n d : Int)
def lowD (n d : Int) : PyData := if d.fdiv (lowC n d) = 1 then .int (n.fdiv (lowC n d)) else .tuple [.int (n.fdiv (lowC n d)), .int (d.fdiv (lowC n d))]
theorem lowC_ne {n d : Int} (h : d ≠ 0) : lowC n d ≠ 0 := by
  have := gcd_pos (n := n) h
  unfold lowC
  split <;> omega
theorem lowC_le {n d : Int} (h : d ≠ 0) : (lowC n d).natAbs ≤ d.natAbs := by
  have := gcd_le (n := n) h
  unfold lowC
  split <;> omega
theorem lowC_dvd (n d : Int) : lowC n d ∣ n ∧ lowC n d ∣ d := by
  have h1 := Int.gcd_dvd_left n d
  have h2 := Int.gcd_dvd_right n d
  unfold lowC
  split
  · exact ⟨Int.neg_dvd.mpr h1, Int.neg_dvd.mpr h2⟩
  · exact ⟨h1, h2⟩
theorem fdiv_le {n c : Int} (hc : c ≠ 0) (h : c ∣ n) : (n.fdiv c).natAbs ≤ n.natAbs := by
  obtain ⟨k, rfl⟩ := h
  rw [Int.mul_fdiv_cancel_left _ hc, Int.natAbs_mul]
  exact Nat.le_mul_of_pos_left _ (by omega)
/-- the same by a law's own words: the denominator is made positive first -/
def ratN (n d : Int) : Int := if d < 0 then -n else n
def ratL (d : Int) : Int := if d < 0 then -d else d
def ratD (n d : Int) : PyData := if ratL d = (Int.gcd (ratN n d) (ratL d) : Int) then .int ((ratN n d).fdiv (Int.gcd (ratN n d) (ratL d) : Int)) else .tuple [.int ((ratN n d).fdiv (Int.gcd (ratN n d) (ratL d) : Int)), .int ((ratL d).fdiv (Int.gcd (ratN n d) (ratL d) : Int))]
theorem rat_gcd (n d : Int) : Int.gcd (ratN n d) (ratL d) = Int.gcd n d := by
  unfold ratN ratL
  split
  · rw [Int.gcd_neg, Int.neg_gcd]
  · rfl
theorem rat_div {n d : Int} (h : d ≠ 0) : (ratN n d).fdiv (Int.gcd n d : Int) = n.fdiv (lowC n d) ∧ (ratL d).fdiv (Int.gcd n d : Int) = d.fdiv (lowC n d) := by
  have hp := gcd_pos (n := n) h
  have hg : (Int.gcd n d : Int) ≠ 0 := by omega
  obtain ⟨x, hx⟩ := Int.gcd_dvd_left n d
  obtain ⟨y, hy⟩ := Int.gcd_dvd_right n d
  generalize hG : (Int.gcd n d : Int) = G at *
  have hC : lowC n d = if d < 0 then -G else G := by
    unfold lowC
    rw [hG]
  unfold ratN ratL
  rw [hC]
  by_cases hd : d < 0
  · rw [if_pos hd, if_pos hd, if_pos hd]
    have n1 : -n = G * -x := by rw [hx, Int.mul_neg]
    have d1 : -d = G * -y := by rw [hy, Int.mul_neg]
    have n2 : n = -G * -x := by rw [hx, Int.neg_mul_neg]
    have d2 : d = -G * -y := by rw [hy, Int.neg_mul_neg]
    have e1 : (-n).fdiv G = -x := by rw [n1, Int.mul_fdiv_cancel_left _ hg]
    have e2 : (-d).fdiv G = -y := by rw [d1, Int.mul_fdiv_cancel_left _ hg]
    have e3 : n.fdiv (-G) = -x := by
      rw [n2]
      exact Int.mul_fdiv_cancel_left _ (by omega)
    have e4 : d.fdiv (-G) = -y := by
      rw [d2]
      exact Int.mul_fdiv_cancel_left _ (by omega)
    rw [e1, e2, e3, e4]
    exact ⟨rfl, rfl⟩
  · rw [if_neg hd, if_neg hd, if_neg hd]
    exact ⟨rfl, rfl⟩
theorem ratD_eq {n d : Int} (h : d ≠ 0) : ratD n d = lowD n d := by
  have hp := gcd_pos (n := n) h
  obtain ⟨e1, e2⟩ := rat_div (n := n) h
  unfold ratD lowD
  rw [rat_gcd, e1, e2]
  have key : (ratL d = (Int.gcd n d : Int)) ↔ (d.fdiv (lowC n d) = 1) := by
    rw [← e2]
    have hv : (Int.gcd n d : Int) ∣ ratL d := by
      unfold ratL
      split
      · exact Int.dvd_neg.mpr (Int.gcd_dvd_right n d)
      · exact Int.gcd_dvd_right n d
    obtain ⟨k, hk⟩ := hv
    rw [hk, Int.mul_fdiv_cancel_left _ (by omega)]
    constructor
    · intro q
      have q2 : (Int.gcd n d : Int) * k = (Int.gcd n d : Int) * 1 := by rw [q, Int.mul_one]
      exact Int.eq_of_mul_eq_mul_left (by omega) q2
    · rintro rfl
      rw [Int.mul_one]
  by_cases c : d.fdiv (lowC n d) = 1
  · rw [if_pos (key.mpr c), if_pos c]
  · rw [if_neg (fun q => c (key.mp q)), if_neg c]
/-! ## new data -/
/-- what H' has and H has not -/
def nw (H H' : Hp) : Hp := fun b => match H b with
  | some _ => none
  | none => H' b
theorem nw_at {H H' : Hp} {b : Addr} (h : H b = none) : nw H H' b = H' b := by
  unfold nw
  rw [h]
theorem nw_get {H H' : Hp} {b : Addr} {o : HO} (h : nw H H' b = some o) : H b = none ∧ H' b = some o := by
  cases e : H b with
  | none =>
    rw [nw_at e] at h
    exact ⟨rfl, h⟩
  | some u =>
    unfold nw at h
    rw [e] at h
    cases h
/-- data that lie in what is new -/
def Fresh (K : PySem.W.Frag) (H H' : Hp) (v : V) (d : PyData) : Prop := Dq K (nw H H') v d
theorem nw_same {H H' : Hp} : Same (nw H H') H' := fun _ _ h => (nw_get h).2
theorem nw_off {H H' : Hp} {a : Addr} (h : H a ≠ none) : Same (nw H H') (off H' a) := fun b o g => by
  obtain ⟨h1, h2⟩ := nw_get g
  have n : b ≠ a := fun e => by
    rw [e] at h1
    exact h h1
  rw [off_ne n]
  exact h2
theorem nw_mono {H H1 H' H2 : Hp} (s : ∀ b, H1 b = none → H b = none) (t : ∀ b o, H1 b = none → H' b = some o → H2 b = some o) : Same (nw H1 H') (nw H H2) := fun b o g => by
  obtain ⟨h1, h2⟩ := nw_get g
  rw [nw_at (s b h1)]
  exact t b o h1 h2
theorem same_none {H H' : Hp} (s : Same H H') : ∀ b, H' b = none → H b = none := fun b h => s.free h
theorem Fresh.dq {K : PySem.W.Frag} {H H' : Hp} {v : V} {d : PyData} (h : Fresh K H H' v d) : Dq K H' v d := Dq.same nw_same h
theorem Fresh.away {K : PySem.W.Frag} {H H' : Hp} {v : V} {d : PyData} {a : Addr} (h : Fresh K H H' v d) (ha : H a ≠ none) : Dq K (off H' a) v d := Dq.same (nw_off ha) h
theorem Fresh.later {K : PySem.W.Frag} {H H' H2 : Hp} {v : V} {d : PyData} (h : Fresh K H H' v d) (s : Same H' H2) : Fresh K H H2 v d := Dq.same (nw_mono (fun _ e => e) fun b o _ e => s b o e) h
theorem Fresh.sooner {K : PySem.W.Frag} {H H0 H' : Hp} {v : V} {d : PyData} (h : Fresh K H H' v d) (s : Same H0 H) : Fresh K H0 H' v d := Dq.same (nw_mono (same_none s) fun b o _ e => e) h
mutual
def slim : PyData → Bool
  | .list xs => decide (xs.length ≤ 900) && slimAll xs
  | .tuple xs => decide (xs.length ≤ 900) && slimAll xs
  | _ => true
def slimAll : List PyData → Bool
  | [] => true
  | x :: xs => slim x && slimAll xs
end
theorem slim_at : ∀ {ds : List PyData} {d : PyData}, slimAll ds = true → d ∈ ds → slim d = true
  | [], _, _, h => nomatch h
  | x :: xs, d, h, hd => by
    have h' : (slim x && slimAll xs) = true := by simpa only [slimAll] using h
    rw [Bool.and_eq_true] at h'
    rcases List.mem_cons.mp hd with rfl | hd
    · exact h'.1
    · exact slim_at h'.2 hd
theorem depth_at : ∀ {ds : List PyData} {d : PyData}, d ∈ ds → d.depth ≤ PyData.depthAll ds
  | [], _, h => nomatch h
  | x :: xs, d, hd => by
    simp only [PyData.depthAll]
    rcases List.mem_cons.mp hd with rfl | hd
    · omega
    · have := depth_at (ds := xs) hd
      omega
theorem dqall_snoc {K : PySem.W.Frag} {H : Hp} : ∀ {vs : List V} {ds : List PyData} {v : V} {d : PyData}, DqAll K H vs ds → Dq K H v d → DqAll K H (vs ++ [v]) (ds ++ [d])
  | _, _, _, _, .nil, h => .cons h .nil
  | _, _, _, _, .cons h g, q => .cons h (dqall_snoc g q)
theorem dq_get {K : PySem.W.Frag} {H : Hp} : ∀ {vs : List V} {ds : List PyData} {i : Nat} {v : V}, DqAll K H vs ds → vs[i]? = some v → ∃ d, ds[i]? = some d ∧ Dq K H v d
  | _, _, _, _, .nil, e => by simp at e
  | _, _, 0, _, .cons h _, e => by
    simp at e
    subst e
    exact ⟨_, rfl, h⟩
  | _, _, i + 1, v, .cons _ g, e => by
    obtain ⟨d, h1, h2⟩ := dq_get g (i := i) (v := v) (by simpa using e)
    exact ⟨d, by simpa using h1, h2⟩
theorem dq_len {K : PySem.W.Frag} {H : Hp} : ∀ {vs : List V} {ds : List PyData}, DqAll K H vs ds → vs.length = ds.length
  | _, _, .nil => rfl
  | _, _, .cons _ g => congrArg Nat.succ (dq_len g)
end Lw

set_option Elab.async false
set_option linter.all false
set_option maxRecDepth 100000
set_option maxHeartbeats 2000000
namespace Lw
open PySem PySem.Spec PyProof.Rows L2
/-! ## the text of an integer -/
def iTx (i : Int) : Str := Str.ofString (toString i)
def sgnL (i : Int) : List Nat := if i < 0 then 45 :: TL.numL i.natAbs else TL.numL i.natAbs
theorem tl_iTx (i : Int) : TL.tl (iTx i) = sgnL i := by
  unfold iTx sgnL
  by_cases h : i < 0
  · have e : (0 : Int) - i = ((i.natAbs : Nat) : Int) := by omega
    have n := TL.tl_num i.natAbs
    rw [if_pos h, toString_neg h, e]
    rw [TL.tl_ofString] at n ⊢
    rw [String.toList_append, List.map_append, n]
    rfl
  · rw [if_neg h]
    have e : i = ((i.natAbs : Nat) : Int) := by omega
    conv => lhs; rw [e]
    exact TL.tl_num i.natAbs
def digN (c : Nat) : Bool := decide (48 ≤ c) && decide (c ≤ 57)
theorem digits_tl : ("0123456789" : Str).cps.toList = [48, 49, 50, 51, 52, 53, 54, 55, 56, 57] := by decide +kernel
theorem dig_mem (c : Nat) : decide (c ∈ ("0123456789" : Str).cps.toList) = digN c := by
  rw [digits_tl]
  unfold digN
  rw [Bool.eq_iff_iff, Bool.and_eq_true, decide_eq_true_eq, decide_eq_true_eq, decide_eq_true_eq]
  simp only [List.mem_cons, List.not_mem_nil, or_false]
  omega
theorem digN_iff {c : Nat} : digN c = true ↔ 48 ≤ c ∧ c ≤ 57 := by
  unfold digN
  rw [Bool.and_eq_true, decide_eq_true_eq, decide_eq_true_eq]
theorem all_dig {l : List Nat} : l.all digN = true ↔ NumText.AllDigits l := by
  rw [List.all_eq_true]
  exact ⟨fun h c hc => digN_iff.mp (h c hc), fun h c hc => digN_iff.mpr (h c hc)⟩
/-- behind a minus sign -/
def cut1 : List Nat → List Nat
  | 45 :: r => r
  | l => l
def minus1 : List Nat → Bool
  | 45 :: _ => true
  | _ => false
theorem cut_yes {l : List Nat} (h : minus1 l = true) : l = 45 :: cut1 l := by
  unfold minus1 at h
  split at h
  · rfl
  · cases h
theorem cut_no {l : List Nat} (h : minus1 l = false) : cut1 l = l := by
  unfold minus1 at h
  split at h
  · cases h
  · rename_i n
    unfold cut1
    split
    · exact absurd rfl (n _)
    · rfl
theorem minus_dig {l : List Nat} (h : NumText.AllDigits l) : minus1 l = false := by
  unfold minus1
  split
  · have := h 45 (List.mem_cons_self ..)
    omega
  · rfl
/-- the texts of integers, and what they say -/
def itx (l : List Nat) : Bool := decide (l = [48]) || (decide (cut1 l ≠ []) && (decide ((cut1 l).head? ≠ some 48) && (cut1 l).all digN))
def ivl (l : List Nat) : Int := if minus1 l = true then -((NumText.digitsVal (cut1 l) : Nat) : Int) else ((NumText.digitsVal (cut1 l) : Nat) : Int)
theorem ofNat_dig {c : Nat} (h1 : 48 ≤ c) (h2 : c ≤ 57) : (Char.ofNat c).toNat = c := by
  have e : c = 48 ∨ c = 49 ∨ c = 50 ∨ c = 51 ∨ c = 52 ∨ c = 53 ∨ c = 54 ∨ c = 55 ∨ c = 56 ∨ c = 57 := by omega
  rcases e with rfl | rfl | rfl | rfl | rfl | rfl | rfl | rfl | rfl | rfl <;> rfl
theorem back_dig : ∀ {l : List Nat}, NumText.AllDigits l → (l.map Char.ofNat).map Char.toNat = l
  | [], _ => rfl
  | c :: r, h => by
    have hc := h c (List.mem_cons_self ..)
    rw [List.map_cons, List.map_cons, ofNat_dig hc.1 hc.2, back_dig fun x hx => h x (List.mem_cons_of_mem _ hx)]
theorem num_back {c : Nat} {r : List Nat} (h : NumText.AllDigits (c :: r)) (h0 : c ≠ 48) : TL.numL (NumText.digitsVal (c :: r)) = c :: r ∧ 0 < NumText.digitsVal (c :: r) := by
  have hc := h c (List.mem_cons_self ..)
  have e := NumText.toDigits_digitsVal r.length (c :: r) rfl h (.inr ⟨c, r, rfl, by omega⟩)
  refine ⟨?_, NumText.digitsVal_pos (by omega)⟩
  unfold TL.numL
  rw [e, back_dig h]
theorem itx_cases {l : List Nat} (h : itx l = true) : l = [48] ∨ ∃ c r, cut1 l = c :: r ∧ c ≠ 48 ∧ NumText.AllDigits (c :: r) := by
  unfold itx at h
  simp only [Bool.or_eq_true, Bool.and_eq_true, decide_eq_true_eq] at h
  rcases h with h | ⟨h1, h2, h3⟩
  · exact .inl h
  · cases e : cut1 l with
    | nil => exact absurd e h1
    | cons c r =>
      rw [e] at h2 h3
      exact .inr ⟨c, r, rfl, fun z => h2 (by rw [z]; rfl), all_dig.mp h3⟩
theorem sgn_zero : sgnL 0 = [48] := by
  show TL.numL 0 = [48]
  rw [TL.numL_lt (by decide)]
/-- a text of an integer is the text of what it says -/
theorem itx_num {l : List Nat} (h : itx l = true) : sgnL (ivl l) = l := by
  rcases itx_cases h with rfl | ⟨c, r, e, c0, hd⟩
  · show sgnL (((NumText.digitsVal [48] : Nat) : Int)) = [48]
    exact sgn_zero
  · obtain ⟨e1, p1⟩ := num_back hd c0
    unfold ivl
    rw [e]
    by_cases m : minus1 l = true
    · rw [if_pos m]
      unfold sgnL
      rw [if_pos (by omega), Int.natAbs_neg, Int.natAbs_natCast, e1]
      have := cut_yes m
      rw [e] at this
      exact this.symm
    · rw [if_neg m]
      unfold sgnL
      rw [if_neg (by omega), Int.natAbs_natCast, e1, ← e]
      exact cut_no (Bool.eq_false_iff.mpr m)
theorem itx_tx {z : Str} (h : itx (TL.tl z) = true) : iTx (ivl (TL.tl z)) = z := by
  refine TL.ext_tl ?_
  rw [tl_iTx]
  exact itx_num h
theorem cut_num (n : Nat) : minus1 (TL.numL n) = false ∧ cut1 (TL.numL n) = TL.numL n := ⟨minus_dig (TL.numL_digits n), cut_no (minus_dig (TL.numL_digits n))⟩
theorem ivl_sgn (i : Int) : ivl (sgnL i) = i := by
  unfold ivl sgnL
  by_cases h : i < 0
  · rw [if_pos h]
    show (if true = true then -((NumText.digitsVal (TL.numL i.natAbs) : Nat) : Int) else _) = i
    rw [if_pos rfl, TL.numL_val]
    omega
  · rw [if_neg h, (cut_num _).1, (cut_num _).2, if_neg (by decide), TL.numL_val]
    omega
theorem num_head : ∀ n : Nat, 0 < n → (TL.numL n).head? ≠ some 48 := by
  intro n
  induction n using Nat.strongRecOn with
  | _ n ih =>
    intro h
    by_cases l : n < 10
    · rw [TL.numL_lt l]
      show some (48 + n) ≠ some 48
      intro z
      have := Option.some.inj z
      omega
    · have q := ih (n / 10) (by omega) (by omega)
      rw [TL.numL_step (by omega)]
      have ne := TL.numL_ne (n / 10)
      revert q ne
      generalize TL.numL (n / 10) = l
      intro q ne
      cases l with
      | nil => exact absurd rfl ne
      | cons a r => exact q
theorem itx_sgn (i : Int) : itx (sgnL i) = true := by
  by_cases z : i = 0
  · subst z
    rw [sgn_zero]
    rfl
  · have c : cut1 (sgnL i) = TL.numL i.natAbs := by
      unfold sgnL
      by_cases h : i < 0
      · rw [if_pos h]
        rfl
      · rw [if_neg h]
        exact (cut_num _).2
    unfold itx
    rw [c, Bool.or_eq_true, Bool.and_eq_true, Bool.and_eq_true, decide_eq_true_eq, decide_eq_true_eq, decide_eq_true_eq]
    exact .inr ⟨TL.numL_ne _, num_head _ (by omega), all_dig.mpr (TL.numL_digits _)⟩
theorem sgn_free {i : Int} {c : Nat} (h : c = 47 ∨ c = 32 ∨ c = 10) : c ∉ sgnL i := by
  have n : c ∉ TL.numL i.natAbs := TL.numL_free (by omega)
  unfold sgnL
  split
  · intro z
    rcases List.mem_cons.mp z with z | z
    · omega
    · exact n z
  · exact n
theorem sgn_len {i : Int} {k : Nat} (hk : 0 < k) (h : i.natAbs < 10 ^ k) : (sgnL i).length ≤ k + 1 := by
  have := TL.numL_len hk h
  unfold sgnL
  split
  · rw [List.length_cons]
    omega
  · omega
theorem iTx_len {i : Int} {k : Nat} (hk : 0 < k) (h : i.natAbs < 10 ^ k) : (iTx i).length ≤ k + 1 := by
  rw [TL.len_tl, tl_iTx]
  exact sgn_len hk h
theorem sgn_ascii (i : Int) : ∀ c ∈ sgnL i, c < 128 := by
  have n : ∀ c ∈ TL.numL i.natAbs, c < 128 := fun c hc => by
    have := TL.numL_digits _ c hc
    omega
  unfold sgnL
  split
  · intro c hc
    rcases List.mem_cons.mp hc with rfl | hc
    · decide
    · exact n c hc
  · exact n
theorem fold_lt : ∀ (l : List Nat) (a : Nat), NumText.AllDigits l → l.foldl (fun acc c => acc * 10 + (c - 48)) a < (a + 1) * 10 ^ l.length
  | [], a, _ => by
    show a < (a + 1) * 1
    omega
  | c :: r, a, h => by
    have hc := h c (List.mem_cons_self ..)
    have ih := fold_lt r (a * 10 + (c - 48)) fun x hx => h x (List.mem_cons_of_mem _ hx)
    rw [List.foldl_cons, List.length_cons]
    refine Nat.lt_of_lt_of_le ih ?_
    rw [Nat.pow_succ, Nat.mul_comm (10 ^ r.length) 10, ← Nat.mul_assoc]
    exact Nat.mul_le_mul_right _ (by omega)
theorem ivl_lt {l : List Nat} {k : Nat} (h : itx l = true) (hl : l.length ≤ k) : (ivl l).natAbs < 10 ^ k := by
  have hd : NumText.AllDigits (cut1 l) := by
    rcases itx_cases h with rfl | ⟨c, r, e, c0, hd⟩
    · intro c hc
      cases List.mem_singleton.mp hc
      decide
    · rw [e]
      exact hd
  have cl : (cut1 l).length ≤ l.length := by
    unfold cut1
    split
    · rw [List.length_cons]
      omega
    · exact Nat.le_refl _
  have f := fold_lt (cut1 l) 0 hd
  have e : (ivl l).natAbs = NumText.digitsVal (cut1 l) := by
    unfold ivl
    split
    · rw [Int.natAbs_neg, Int.natAbs_natCast]
    · rw [Int.natAbs_natCast]
  rw [e]
  unfold NumText.digitsVal
  have p : (10 : Nat) ^ (cut1 l).length ≤ 10 ^ k := Nat.pow_le_pow_right (by decide) (by omega)
  omega
/-! ### removeprefix, startswith, slices, int -/
theorem dash_tl : TL.tl ("-" : Str) = [45] := by decide +kernel
theorem sub_dash (z : Str) : Builtin.Str.subAt z ("-" : Str) 0 = minus1 (TL.tl z) := by
  rw [StrLaws.subAt_eq]
  show ((TL.tl z).take (Str.length ("-" : Str)) == TL.tl ("-" : Str)) = _
  rw [dash_tl, TL.len_tl, dash_tl]
  cases TL.tl z with
  | nil => rfl
  | cons c r =>
    show ([c] == [45]) = _
    by_cases h : c = 45
    · subst h
      rfl
    · have e : minus1 (c :: r) = false := by
        unfold minus1
        split
        · rename_i q
          cases q
          exact absurd rfl h
        · rfl
      rw [e]
      simpa using h
theorem tl_cut (z : Str) : TL.tl (Txt.removeprefix z ("-" : Str)) = cut1 (TL.tl z) := by
  unfold Txt.removeprefix
  rw [sub_dash]
  by_cases m : minus1 (TL.tl z) = true
  · have e := cut_yes m
    have l : z.length = (cut1 (TL.tl z)).length + 1 := by
      rw [TL.len_tl]
      conv => lhs; rw [e]
      rfl
    rw [if_pos m]
    show TL.tl (if (z.length - Str.length ("-" : Str) == z.length) = true then z else Builtin.Str.strSub z (Str.length ("-" : Str)) z.length) = _
    have d1 : Str.length ("-" : Str) = 1 := by decide +kernel
    rw [d1, if_neg (by simp; omega), TL.tl_strSub_end]
    conv => lhs; rw [e]
    rfl
  · rw [if_neg m, cut_no (Bool.eq_false_iff.mpr m)]
    rfl
theorem starts_dash (z : Str) : Txt.startswith z ("-" : Str) = minus1 (TL.tl z) := by
  unfold Txt.startswith
  rw [sub_dash]
  by_cases m : minus1 (TL.tl z) = true
  · have e := cut_yes m
    have l : z.length = (cut1 (TL.tl z)).length + 1 := by
      rw [TL.len_tl]
      conv => lhs; rw [e]
      rfl
    have d1 : Str.length ("-" : Str) = 1 := by decide +kernel
    rw [m, Bool.and_true, d1]
    exact decide_eq_true (by omega)
  · rw [Bool.eq_false_iff.mpr m, Bool.and_false]
theorem tl_head1 (z : Str) : TL.tl (cutS z none (some 1)) = (TL.tl z).take 1 := by
  show ((TL.tl z).drop (HT.sIx z.length 0 none)).take (HT.sIx z.length z.length (some ((1 : Nat) : Int)) - HT.sIx z.length 0 none) = _
  rw [HT.sIx_none, HT.sIx_nat, List.drop_zero, Nat.sub_zero, TL.len_tl]
  cases TL.tl z with
  | nil => rfl
  | cons c r => rw [Nat.min_eq_left (by rw [List.length_cons]; omega)]
theorem tl_tail1 (z : Str) : TL.tl (cutS z (some 1) none) = (TL.tl z).drop 1 := by
  show ((TL.tl z).drop (HT.sIx z.length 0 (some ((1 : Nat) : Int)))).take (HT.sIx z.length z.length none - HT.sIx z.length 0 (some ((1 : Nat) : Int))) = _
  rw [HT.sIx_none, HT.sIx_nat, TL.len_tl]
  cases TL.tl z with
  | nil => rfl
  | cons c r =>
    rw [Nat.min_eq_left (by rw [List.length_cons]; omega)]
    show r.take (r.length + 1 - 1) = r
    exact List.take_length
theorem head_dash (z : Str) : decide (V.str (cutS z none (some 1)) = V.str ("-" : Str)) = minus1 (TL.tl z) := by
  have key : (V.str (cutS z none (some 1)) = V.str ("-" : Str)) ↔ (TL.tl z).take 1 = [45] := by
    rw [← tl_head1, ← dash_tl]
    exact ⟨fun h => by rw [V.str.inj h], fun h => congrArg V.str (TL.ext_tl h)⟩
  rw [Bool.eq_iff_iff, decide_eq_true_eq, key]
  cases TL.tl z with
  | nil =>
    constructor
    · intro h
      cases h
    · intro h
      cases h
  | cons c r =>
    show [c] = [45] ↔ _
    by_cases h : c = 45
    · subst h
      exact ⟨fun _ => rfl, fun _ => rfl⟩
    · have e : minus1 (c :: r) = false := by
        unfold minus1
        split
        · rename_i q
          cases q
          exact absurd rfl h
        · rfl
      rw [e]
      constructor
      · intro q
        cases q
        exact absurd rfl h
      · intro q
        cases q
theorem int_itx {z : Str} (h : itx (TL.tl z) = true) (hl : z.length ≤ 4300) : intText? z = some (ivl (TL.tl z)) := by
  rcases itx_cases h with e | ⟨c, r, e, c0, hd⟩
  · have d : NumText.AllDigits (TL.tl z) := by
      rw [e]
      intro c hc
      cases List.mem_singleton.mp hc
      decide
    rw [intText_digits (x := z) d (by show TL.tl z ≠ []; rw [e]; simp) hl]
    unfold ivl
    rw [minus_dig d, if_neg (by decide), cut_no (minus_dig d)]
  · unfold ivl
    by_cases m : minus1 (TL.tl z) = true
    · rw [if_pos m]
      have y := cut_yes m
      rw [e] at y ⊢
      exact intText_neg (x := z) (cs := c :: r) y hd (by simp) hl
    · have n := cut_no (Bool.eq_false_iff.mpr m)
      rw [if_neg m]
      rw [n] at e ⊢
      exact intText_digits (x := z) (by show NumText.AllDigits (TL.tl z); rw [e]; exact hd) (by show TL.tl z ≠ []; rw [e]; simp) hl
/-- one digit -/
theorem int_dig {c : Nat} (h : digN c = true) : intText? (⟨#[c]⟩ : Str) = some ((c : Int) - 48) := by
  have hc := digN_iff.mp h
  rw [intText_digits (x := ⟨#[c]⟩) (by
    intro d hd
    cases List.mem_singleton.mp (show d ∈ [c] from hd)
    exact hc) (by simp) (by show 1 ≤ 4300; decide)]
  show some ((0 * 10 + (c - 48) : Nat) : Int) = _
  congr 1
  omega
/-! ### cut at slashes -/
theorem slash_tl : TL.tl ("/" : Str) = [47] := by decide +kernel
theorem slash_ok : (("/" : Str).cps.all (· < 256)) = true := by decide +kernel
theorem split_len (z : Str) : (Txt.split z ("/" : Str)).length ≤ z.length + 1 := by
  have e := TL.split_spl z ("/" : Str) (by rw [slash_tl]; simp) (TL.kind_ok slash_ok)
  have l : (Txt.split z ("/" : Str)).length = ((Txt.split z ("/" : Str)).map TL.tl).length := by rw [List.length_map]
  rw [l, e, TL.len_tl, slash_tl]
  have key : ∀ (l acc : List Nat), (TL.spl [47] 0 acc l).length ≤ l.length + 1 := by
    intro l
    induction l with
    | nil => intro acc; rw [TL.spl_nil]; exact Nat.le_refl _
    | cons c r ih =>
      intro acc
      cases p : TL.pre [47] (c :: r) with
      | true =>
        rw [TL.spl_hit p, List.length_cons, List.length_cons]
        exact Nat.succ_le_succ (ih [])
      | false =>
        rw [TL.spl_miss p, List.length_cons]
        have := ih (acc ++ [c])
        omega
  exact key _ _
theorem split_ne (z : Str) : Txt.split z ("/" : Str) ≠ [] := by
  intro h
  have e := TL.split_spl z ("/" : Str) (by rw [slash_tl]; simp) (TL.kind_ok slash_ok)
  rw [h, slash_tl] at e
  have key : ∀ (l acc : List Nat), TL.spl [47] 0 acc l ≠ [] := by
    intro l
    induction l with
    | nil => intro acc; rw [TL.spl_nil]; simp
    | cons c r ih =>
      intro acc
      cases p : TL.pre [47] (c :: r) with
      | true => rw [TL.spl_hit p]; simp
      | false => rw [TL.spl_miss p]; exact ih _
  exact key _ _ e.symm
theorem join_len {y : Str} : ∀ {ws : List Str} {x : Str}, x ∈ ws → x.length ≤ (Str.join y ws).length
  | [], _, h => nomatch h
  | [a], x, h => by
    cases List.mem_singleton.mp h
    exact Nat.le_refl _
  | a :: b :: r, x, h => by
    show x.length ≤ (a ++ y ++ Str.join y (b :: r)).length
    rw [strLen_append, strLen_append]
    rcases List.mem_cons.mp h with rfl | h
    · omega
    · have := join_len (y := y) h
      omega
theorem split_part {z x : Str} (h : x ∈ Txt.split z ("/" : Str)) : x.length ≤ z.length := by
  have e := StrLaws.join_split z ("/" : Str)
  have := join_len (y := ("/" : Str)) h
  rw [e] at this
  exact this
/-! ### texts of small signs -/
theorem bytes_iTx (i : Int) : Bytes (iTx i) := fun c hc => by
  have := sgn_ascii i c (by rw [← tl_iTx]; exact hc)
  omega
theorem bytes_app {x y : Str} (h1 : Bytes x) (h2 : Bytes y) : Bytes (x ++ y) := fun c hc => by
  have e := TL.tl_append x y
  rw [show (x ++ y).cps.toList = TL.tl (x ++ y) from rfl, e] at hc
  rcases List.mem_append.mp hc with hc | hc
  · exact h1 c hc
  · exact h2 c hc
theorem bytes_cut {x : Str} {lo hi : Option Int} (h : Bytes x) : Bytes (cutS x lo hi) := fun c hc => h c (List.mem_of_mem_drop (List.mem_of_mem_take hc))
/-! ### a while that is not gone into -/
def tWhile0 (tc : TT) : TS := fun D σ H => tc σ H fun b H1 => b = false ∧ D.nx σ H1
theorem ps_while0 {X : Cx} {pos : Pos} {c : Expr} {body : List Stmt} {tc : TT} (hp : PassesOwn (model X.prog X.w) X.A X.env X.xe) (hc : PT X c tc) : PS X (.While c body [] pos) (tWhile0 tc) := by
  refine ⟨fun pins s σ H D I h => ?_⟩
  refine wpAny_While (codeAny_whileLoop (fun n s' => Inv X pins σ H s') ?_ 0 I)
  intro n s1 I1
  refine wpAny_passesOwn hp (thn (hc.run pins s1 σ H _ I1 h) fun b s2 hq => ?_)
  obtain ⟨H2, I2, rfl, q2⟩ := hq
  rw [if_neg Bool.false_ne_true]
  exact wpAny_execs_nil ⟨σ, H2, I2, q2⟩
end Lw

set_option Elab.async false
set_option linter.all false
set_option maxRecDepth 100000
set_option maxHeartbeats 2000000
namespace Lw
open PySem PySem.Spec PyProof.Rows L2
/-! ### what is shown -/
def shl (ts : List Str) : Nat := (ts.map fun t => t.length + 2).sum
theorem textFrom_le : ∀ (ts : List Str) (k : Nat) (acc : Str), (textFrom k acc ts).length ≤ acc.length + shl ts
  | [], k, acc => by
    show acc.length ≤ acc.length + _
    omega
  | t :: r, k, acc => by
    have ih := textFrom_le r (k + 1) (acc ++ (if k > 0 then ", " else "" : String) ++ t)
    have e : (acc ++ (if k > 0 then ", " else "" : String) ++ t).length ≤ acc.length + 2 + t.length := by
      rw [strLen_append, strLen_append]
      have : ((if k > 0 then ", " else "" : String) : Str).length ≤ 2 := by
        split <;> decide
      omega
    have e2 : shl (t :: r) = t.length + 2 + shl r := by
      unfold shl
      rw [List.map_cons, List.sum_cons]
    show (textFrom (k + 1) (acc ++ (if k > 0 then ", " else "" : String) ++ t) r).length ≤ _
    omega
theorem len_list (ts : List Str) : (listText ts).length ≤ 2 + shl ts := by
  have h := textFrom_le ts 0 "["
  unfold listText
  rw [strLen_append]
  have e1 : ("[" : Str).length = 1 := rfl
  have e2 : ("]" : Str).length = 1 := rfl
  omega
theorem len_tup2 (a b : Str) : (tupleText [a, b]).length = a.length + b.length + 4 := by
  show (("(" : Str) ++ (a ++ (", " : String) ++ b) ++ (")" : String)).length = _
  simp only [strLen_append]
  show 1 + (a.length + 2 + b.length) + 1 = _
  omega
theorem shown_all : ∀ (ds : List PyData), PyData.shownAll ds = ds.map PyData.shown
  | [] => rfl
  | d :: ds => by
    show d.shown :: PyData.shownAll ds = _
    rw [shown_all ds]
    rfl
theorem small_list {n : Nat} : ∀ {ds : List PyData}, (∀ d ∈ ds, Small n d ∧ d.depth ≤ 8) → Small (2 + ds.length * (n + 2)) (.list ds) := by
  intro ds h
  have h1 : ∀ ds : List PyData, (∀ d ∈ ds, Small n d ∧ d.depth ≤ 8) → PyData.showableAll ds = true ∧ shl (ds.map PyData.shown) ≤ ds.length * (n + 2) ∧ PyData.depthAll ds ≤ 8 := by
    intro ds
    induction ds with
    | nil => exact fun _ => ⟨rfl, Nat.zero_le _, Nat.zero_le _⟩
    | cons d ds ih =>
      intro h
      obtain ⟨i1, i2, i3⟩ := ih fun x hx => h x (List.mem_cons_of_mem _ hx)
      obtain ⟨j1, j2⟩ := h d List.mem_cons_self
      refine ⟨?_, ?_, ?_⟩
      · show (d.showable && PyData.showableAll ds) = true
        rw [j1.sh, i1]
        rfl
      · have e : shl ((d :: ds).map PyData.shown) = d.shown.length + 2 + shl (ds.map PyData.shown) := by
          unfold shl
          rw [List.map_cons, List.map_cons, List.sum_cons]
        have := j1.ln
        rw [e, List.length_cons, Nat.succ_mul]
        omega
      · simp only [PyData.depthAll]
        omega
  obtain ⟨a, b, c⟩ := h1 ds h
  refine ⟨a, ?_, ?_⟩
  · show (listText (PyData.shownAll ds)).length ≤ _
    rw [shown_all]
    have := len_list (ds.map PyData.shown)
    omega
  · simp only [PyData.depth]
    omega
theorem small_tup2 {a b : PyData} {n : Nat} (h1 : Small n a) (h2 : Small n b) (d1 : a.depth ≤ 8) (d2 : b.depth ≤ 8) : Small (2 * n + 4) (.tuple [a, b]) := by
  refine ⟨?_, ?_, ?_⟩
  · have e1 := h1.sh
    have e2 := h2.sh
    simp [PyData.showable, PyData.showableAll, e1, e2]
  · show (tupleText [a.shown, b.shown]).length ≤ _
    rw [len_tup2]
    have e1 := h1.ln
    have e2 := h2.ln
    omega
  · simp only [PyData.depth, PyData.depthAll]
    omega
theorem Small.line {n : Nat} {d : PyData} (h : Small n d) (e : n ≤ 100000) : d.showable = true ∧ d.shown.length ≤ sizeLine ∧ d.depth ≤ 60 :=
  ⟨h.sh, Nat.le_trans h.ln (Nat.le_trans e (by decide)), Nat.le_trans h.dp (by decide)⟩
end Lw

set_option Elab.async false
set_option linter.all false
set_option maxRecDepth 100000
set_option maxHeartbeats 4000000
namespace Lw
open PySem PySem.Spec PyProof.Rows L2
section
open PySem.W
variable {K : Frag} {x D : Addr} {ox : Obj} {od : Option Obj}
theorem find_data {C : Addr} {name : Str} {a g : Value} (hc : (clsIn K C).isSome = true) (ha : findIn K (.ref C) name = some (some a)) (hg : specialIn K a "__get__" = some (some g)) (ht : takesIn K a = some true) : findObj K C od name = some (.bind g a) := by
  cases od with
  | none => exact findObj_dataN hc ha hg ht
  | some o => exact findObj_data hc ha hg ht
/-- the class of an exception, whatever its dict -/
theorem class_exc (T : ExcC K D) {prog : Program} {w : World} {A : Around} {E : Value → Shared → Prop} {Q : Option Value → Shared → Prop} {s : Shared} (X : K.In s.heap) (I : InstAt s.heap x ox D od)
    (h : Q (some (.ref D)) { s with toks := s.toks + 1 }) : wpAny (model prog w) A (getAttr? (.ref x) "__class__") Q E s := by
  have hsome : (clsIn K D).isSome = true := by
    obtain ⟨cd, hc, _⟩ := any_some T.hd
    rw [hc]
    rfl
  have hf : findObj K D od "__class__" = some (.bind (.builtin "getset_descriptor.__get__") (.builtin "object.__class__")) := find_data hsome T.ha T.hn T.ht
  obtain ⟨hp, g, d, t, os⟩ := s
  have L0 := I.type (M := model prog w)
  have LG := looks_findIn (M := model prog w) X T.hg
  have LK := looks_findIn (M := model prog w) X T.hk
  have LF := looks_find (M := model prog w) X I hf
  have sub : Looks (model prog w) hp (isInstance (.ref x) (.type "BaseException")) true := L0.andThen (looks_subIn X T.hs)
  have n1 : (Value.builtin "BaseException.__getattribute__" == Value.builtin "object.__getattribute__") = false := by decide +kernel
  have n2 : (onTheHeap (Value.ref D) && Value.builtin "BaseException.__getattribute__" == Value.builtin "object.__getattribute__") = false := by
    rw [n1]
    rfl
  have n3 : (false && onTheHeap (Value.builtin "BaseException.__getattribute__")) = false := rfl
  unfold getAttr? getAttrBy? getAttrBy
  refine wpAny_bind (wpAny_mkText (wpAny_bind (wpAny_attempt (wpAny_holding (wpAny_bind (L0.at (wpAny_bind (LG.at ?_))))))))
  show wpAny _ _ (if (onTheHeap (Value.ref D) && Value.builtin "BaseException.__getattribute__" == Value.builtin "object.__getattribute__") = true then _ else _) _ _ _
  rw [n2, if_neg Bool.false_ne_true]
  unfold getAttrByItsOwn hookBefore
  refine wpAny_bind ?_
  rw [if_pos (show onTheHeap (Value.ref D) = true from rfl)]
  refine LK.at (wpAny_bind (wpAny_attempt (wpAny_holding ?_)))
  unfold callGetattribute
  rw [n3, if_neg Bool.false_ne_true]
  unfold boundAndCalled
  rw [PySem.F.excAttr_ValueError.ga.bind (.ref x)]
  refine wpAny_bind (wpAny_pure ?_)
  show wpAny _ _ (call (.builtin "BaseException.__getattribute__") [.ref x, .str "__class__" t]) _ _ _
  refine wpAny_call (codeAny_call_builtin PySem.F.excAttr_ValueError.ga.plain PySem.F.entry_bexc_ga ?_)
  refine @check_slot (model prog w) _ _ ⟨hp, g, d, t + 1, os⟩ "BaseException.__getattribute__" "BaseException" "__getattribute__" (.ref x) [.str "__class__" t] [] _ (by decide +kernel) (by decide +kernel) sub (PySem.F.args_bexc_ga (.ref x) (.str "__class__" t)) ?_
  unfold Builtin.«object.__getattribute__»
  refine wpAny_bind (wpAny_of_eq (a := ((Value.ref x : Value), [Value.str "__class__" t])) (by first | rfl | (simp only [slotArgs]; rfl)) ?_)
  refine wpAny_bind (wpAny_pure (wpAny_bind (L0.at (wpAny_bind (LF.at ?_)))))
  show wpAny _ _ (holding [Value.builtin "object.__class__"] (call (.builtin "getset_descriptor.__get__") [.builtin "object.__class__", .ref x, .ref D]) >>= ret) _ _ _
  refine wpAny_bind (wpAny_holding (wpAny_call (class_get (s := ⟨hp, g, d, t + 1, os⟩) (ox := ox) (od := od) X I T.hm ?_)))
  refine wpAny_pure ?_
  show wpAny _ _ (handedOut (.ref D)) _ _ _
  rw [handedOut_of (v := .ref D) rfl]
  first
    | exact wpAny_pure (wpAny_pure h)
    | exact wpAny_pure h
    | exact wpAny_pure (wpAny_bind (wpAny_pure (wpAny_pure h)))
theorem kit_exc (T : ExcC K D) : KitX K (.ref x) (.ref D) (fun h => InstAt h x ox D od) where
  ty := fun _ _ _ I => I.type
  it := fun _ _ X _ => by
    obtain ⟨cd, hc, _⟩ := any_some T.hd
    unfold clsIn at hc
    split at hc
    · rename_i c' d' cd' sl' ho
      intro A' Q' E' s' k q
      unfold isType loadHead
      exact wpAny_bind (wpAny_loadPart (k _ _ (X _ _ ho)) (wpAny_pure q))
    · cases hc
  ne := fun h tp dd its n sl X htp => by
    obtain ⟨cd, hc, _⟩ := any_some T.hd
    refine Bool.eq_false_iff.mpr fun q => ?_
    cases Value.ref.inj (beq_iff_eq.mp q)
    unfold clsIn at hc
    split at hc
    · rename_i c' d' cd' sl' ho
      have z := (X _ _ ho).symm.trans htp
      cases z
    · cases hc
  ca := fun X I k => class_exc T X I k
end
def excB (K : PySem.W.Frag) (D : Addr) : Bool :=
  decide (PySem.W.findIn K (.ref D) "__getattribute__" = some (some (.builtin "BaseException.__getattribute__"))) && (decide (PySem.W.findIn K (.ref D) "__getattr__" = some none) && (decide (PySem.W.subIn K (.ref D) (.type "BaseException") = some true) &&
    (PySem.W.hasDictIn K D && (decide (PySem.W.findIn K (.ref D) "__class__" = some (some (.builtin "object.__class__"))) && (decide (PySem.W.specialIn K (.builtin "object.__class__") "__get__" = some (some (.builtin "getset_descriptor.__get__"))) &&
      (decide (PySem.W.takesIn K (.builtin "object.__class__") = some true) && decide (PySem.W.mroIn K D (.type "object") = some true)))))))
theorem excB_ok {K : PySem.W.Frag} {D : Addr} (h : excB K D = true) : ExcC K D := by
  unfold excB at h
  simp only [Bool.and_eq_true, decide_eq_true_eq] at h
  obtain ⟨h1, h2, h3, h4, h5, h6, h7, h8⟩ := h
  exact ⟨h1, h2, h3, h4, h5, h6, h7, h8⟩
/-- isinstance(e, c), e the exception with a dict that the suite holds -/
def rIsX (K : PySem.W.Frag) (a : Addr) (cls : Value) (d : Option Addr) : List V → Hp → VK → Prop := fun xs H Q =>
  ∃ (D dx : Addr) (c : V) (cv : Value) (b : Bool) (fs : List (Str × V)), cls = .ref D ∧ d = some dx ∧ ExcC K D ∧ xs = [.ref a, c] ∧ ClsV c cv ∧ PySem.W.kitOne K (.ref D) cv = some b ∧ H dx = some (.xd fs) ∧ Q (.bl b) H
/-- isinstance(e, (c, ..)) -/
def rIsXT (K : PySem.W.Frag) (a : Addr) (cls : Value) (d : Option Addr) : List V → Hp → VK → Prop := fun xs H Q =>
  ∃ (D dx tp : Addr) (cs : List V) (us : List Value) (b : Bool) (fs : List (Str × V)), cls = .ref D ∧ d = some dx ∧ ExcC K D ∧ xs = [.ref a, .ref tp] ∧ H tp = some (.tup cs) ∧ Paired ClsV cs us ∧ PySem.W.kitAny K (.ref D) us = some b ∧ H dx = some (.xd fs) ∧ Q (.bl b) H
section
variable {X : Cx} {a : Addr} {oe : Obj} {cls : Value} {d : Option Addr} {pn : List (Addr × Obj)}
theorem inst_of {pins : List (Addr × Obj)} {σ : L2.St} {H : Hp} {s : Shared} {D dx : Addr} {fs : List (Str × V)} (I : Inv (X.suite a ((a, oe) :: pn)) pins σ H s) (hz : Zc (.ref D) (some dx) oe) (hf : ∃ vs, oe.data = .fields vs) (hx : H dx = some (.xd fs)) :
    ∃ od, PySem.W.InstAt s.heap a oe D (some od) := by
  obtain ⟨hget, _⟩ := I.pin (a, oe) (List.mem_append_left _ List.mem_cons_self)
  obtain ⟨mA, ⟨o, es, ep, ho, _⟩, _⟩ := (show ObjOk X.prog X.w H s.heap dx (.xd fs) from I.hok dx _ hx)
  obtain ⟨vs, hv⟩ := hf
  refine ⟨o, hget, hz.1, ?_, ?_⟩
  · unfold PySem.W.notCls
    rw [hv] <;> rfl
  · rw [hz.2]
    exact ho
theorem call_isX (hz : Zc cls d oe) (hf : ∃ vs, oe.data = .fields vs) : CallR (X.suite a ((a, oe) :: pn)) (.builtin "isinstance") (rIsX X.K a cls d) := by
  intro pins s σ H xs us Q I r h
  obtain ⟨D, dx, c, cv, b, fs, rfl, rfl, T, rfl, hc, e, hx, q⟩ := h
  obtain ⟨u1, u2, rfl, r1, r2⟩ := vals2 r
  cases (show u1 = Value.ref a from r1)
  cases hc.eq r2
  obtain ⟨od, J⟩ := inst_of I hz hf hx
  exact PySem.W.kia_one (kit_exc T) I.kIn J e (fun z => nomatch z) fun tk => ⟨.bl b, H, I.tok tk, rfl, q⟩
theorem call_isXT (hz : Zc cls d oe) (hf : ∃ vs, oe.data = .fields vs) : CallR (X.suite a ((a, oe) :: pn)) (.builtin "isinstance") (rIsXT X.K a cls d) := by
  intro pins s σ H xs us Q I r h
  obtain ⟨D, dx, tp, cs, ws, b, fs, rfl, rfl, T, rfl, hT, k, e, hx, q⟩ := h
  obtain ⟨u1, u2, rfl, r1, r2⟩ := vals2 r
  cases (show u1 = Value.ref a from r1)
  cases (show u2 = Value.ref tp from r2)
  obtain ⟨od, J⟩ := inst_of I hz hf hx
  obtain ⟨_, its, rv, o, h1, h2, n, h3⟩ := (show ObjOk X.prog X.w H s.heap tp (.tup cs) from I.hok tp _ hT)
  cases ClsV.all k rv
  obtain ⟨oc, odd, dt, sl⟩ := o
  simp only at h2 h3
  subst h2 h3
  exact PySem.W.kia_tup (kit_exc T) I.kIn J h1 e (fun z => nomatch z) fun tk => ⟨.bl b, H, I.tok tk, rfl, q⟩
end
/-- an own def that may raise, called in a try -/
structure OwnX (P : Program) (w : World) (K : PySem.W.Frag) (mg : Str → Option Value) (base : Heap) (k : Nat) (x : Str) (ps : List Str) (sp : Sp) (f : Addr) (fd : FuncData) : Prop where
  ok : FnOk P w K mg base (L2.CX P w) k f fd ps sp
  m : mg x = some (.ref f)
  kp : PySem.W.keepIn K (.ref f) = true
/-- a class of exceptions with its own __init__ -/
structure OwnE (P : Program) (w : World) (K : PySem.W.Frag) (mg : Str → Option Value) (base : Heap) (k : Nat) (x : Str) (ps : List Str) (sp : Sp) (C fI : Addr) (fd : FuncData) (tl : List Value) (newId : String) : Prop where
  t : ExcK K C tl newId
  i : PySem.W.findIn K (.ref C) "__init__" = some (some (.ref fI))
  ti : PySem.W.typeIn K (.ref fI) = some (.type "function")
  ok : FnOk P w K mg base CX0 k fI fd ps sp
  b : Binds K fd ps []
  m : mg x = some (.ref C)
theorem pmk_e {X : Cx} {k : Nat} {x : Str} {ps : List Str} {sp : Sp} {C fI : Addr} {fd : FuncData} {B newId initId : String} {tl : List Value} {e : Expr} {es : List Expr} {ta : TA} {p pos : Pos} (EB : ExB B newId initId tl) (O : OwnE X.prog X.w X.K X.mg X.base k x ps sp C fI fd tl newId) (hr : Room (k + 1) X.A) (ha : PA X (e :: es) ta)
    (hg : Gl X x := by rfl) (hdb : (x == ("__debug__" : Str)) = false := by decide) (he : starEach (e :: es) X.env = (false, eval e X.env) :: starEach es X.env := by rfl) (hpl : (backTo pos (starEach es X.env)).any (fun q => q.1) = false := by rfl) :
    PMk X (.Call (.Name x p) (e :: es) [] pos) (tMkO C sp [] ta) := pmk_b EB O.t O.i O.ti O.ok hr O.b pass0 O.m ha hg hdb he hpl
end Lw

set_option Elab.async false
set_option linter.all false
set_option maxRecDepth 100000
set_option maxHeartbeats 4000000
namespace Lw
open PySem PySem.Spec PyProof.Rows L2
/-! ## the head's facts: defs, classes of exceptions with an own __init__, one more Bool -/
/-- the `__init__` of the class that a name of the module stands for -/
structure IniD where
  cls : Str
  w : IniW
  B : String
  newId : String
  initId : String
abbrev IniV : Type := Option (Str × Str × Arguments × FuncBody × Scope × Addr × List Str × Value × Value × Option Addr × Addr)
def iniAt (K : PySem.W.Frag) (d : IniD) : Addr := He.ma K (He.ga K d.cls) "__init__"
def iniObs (K : PySem.W.Frag) (d : IniD) : IniV := match K.lookup (iniAt K d) with
  | some ⟨_, _, .func fd, _⟩ => some (fd.name, fd.qualname, fd.params, fd.body, fd.scope, fd.globals, fd.closure.map (fun q => q.1), fd.defaults, fd.kwdefaults, fd.annotations, fd.builtins)
  | _ => none
def IniD.val (d : IniD) : IniV := some (d.w.name, d.w.qual, d.w.params, .stmts d.w.body, d.w.scope, mainGlobals, [("__class__" : Str)], .none, .none, none, builtinsNs)
def fileB (K : PySem.W.Frag) (file : Str) (v : Value) : Bool := match v with
  | .ref c => (match K.lookup c with
    | some ⟨_, _, .fields vs, _⟩ => (match (vs[2]? : Option Value) with
      | some (.str x _) => file == x
      | _ => false)
    | _ => false)
  | _ => false
def cellB (K : PySem.W.Frag) (C : Addr) (cl : List (Str × Addr)) : Bool := match cl with
  | [(_, cc)] => (match K.lookup cc with
    | some ⟨_, _, .cell (some (.ref D)), _⟩ => decide (D = C)
    | _ => false)
  | _ => false
/-- what is asked of the class and its __init__, as one Bool -/
def iniB (K : PySem.W.Frag) (file : Str) (d : IniD) : Bool :=
  (match K.lookup (iniAt K d) with
  | some ⟨_, _, .func fd, _⟩ => PySem.W.codeIn K fd.code d.w.qual && (fileB K file fd.code && cellB K (He.ga K d.cls) fd.closure)
  | _ => false) && (clsB K (He.ga K d.cls) (tlOf d.B) d.newId && (He.eqO (PySem.W.nsIn K cStatics "thirdparty.any") (some none) && (He.eqO (PySem.W.ks_superIn K (He.ga K d.cls) (He.ga K d.cls) "__init__") (some (some (.builtin d.initId))) &&
    (decide (PySem.W.subIn K (.ref (He.ga K d.cls)) (.type d.B) = some true) && (decide (PySem.W.mroIn K (He.ga K d.cls) (.ref (He.ga K d.cls)) = some true) &&
      (He.eqO (PySem.W.findIn K (.ref (He.ga K d.cls)) "__init__") (some (some (.ref (iniAt K d)))) && (decide (PySem.W.typeIn K (.ref (iniAt K d)) = some (.type "function")) && He.eqO (PySem.W.nsIn K mainGlobals d.cls) (some (some (.ref (He.ga K d.cls)))))))))))
/-- what of it the words alone say -/
structure IniF (P : Program) (d : IniD) : Prop where
  top : (P.main.scope.names.lookup ("super" : Str)).isSome = false
  self : (d.w.params.posonlyargs ++ d.w.params.args).head?.map (fun a => a.arg) = some "self"
  kind : d.w.scope.kind = .function
  ksup : d.w.scope.names.lookup ("super" : Str) = some .globalImplicit
  kcls : d.w.scope.names.lookup ("__class__" : Str) = some .free
  kself : d.w.scope.names.lookup ("self" : Str) = some .local
theorem fileB_ok {K : PySem.W.Frag} {file : Str} {v : Value} (h : fileB K file v = true) : ∃ c, v = .ref c ∧ ∃ (ccl : Value) (cdd : Option Addr) (vs : Array Value) (ccs : Array (Option Value)) (x : Str) (tf : Tok), K.lookup c = some ⟨ccl, cdd, .fields vs, ccs⟩ ∧ vs[2]? = some (.str x tf) ∧ (file == x) = true := by
  unfold fileB at h
  split at h
  · rename_i c
    split at h
    · rename_i ccl cdd vs ccs e
      split at h
      · rename_i x tf e2
        exact ⟨c, rfl, ccl, cdd, vs, ccs, x, tf, e, e2, h⟩
      · cases h
    · cases h
  · cases h
theorem cellB_ok {K : PySem.W.Frag} {C : Addr} {cl : List (Str × Addr)} (h : cellB K C cl = true) : ∃ x cc, cl = [(x, cc)] ∧ ∃ (a : Value) (b : Option Addr) (c : Array (Option Value)), K.lookup cc = some ⟨a, b, .cell (some (.ref C)), c⟩ := by
  unfold cellB at h
  split at h
  · rename_i x cc
    split at h
    · rename_i a b D c e
      cases of_decide_eq_true h
      exact ⟨x, cc, rfl, a, b, c, e⟩
    · cases h
  · cases h
/-- the class and its __init__, as they stand -/
structure IniR (P : Program) (K : PySem.W.Frag) (mg : Str → Option Value) (d : IniD) (C f : Addr) (fd : FuncData) : Prop where
  t : ExcK K C (tlOf d.B) d.newId
  s : ∃ cc cda, IniK P K mg d.w f cc cda C d.B d.initId
  i : PySem.W.findIn K (.ref C) "__init__" = some (some (.ref f))
  ti : PySem.W.typeIn K (.ref f) = some (.type "function")
  lk : ∃ (oc : Value) (od : Option Addr) (osl : Array (Option Value)), K.lookup f = some ⟨oc, od, .func fd, osl⟩
  m : mg d.cls = some (.ref C)
  b : ∃ (cl : List (Str × Addr)) (doc pm cdv ct : Value), fd = PySem.W.fnX d.w.name d.w.qual d.w.params d.w.body d.w.scope cl .none .none doc pm none cdv ct
theorem ini_of {P : Program} {K : PySem.W.Frag} {mg : Str → Option Value} {h : Heap} {d : IniD} (X : K.In h) (G : h.Ns mainGlobals mg) (sup : mg "super" = none) (F : IniF P d) (e : iniObs K d = d.val) (c : iniB K (P.main.file : Str) d = true) : ∃ fd, IniR P K mg d (He.ga K d.cls) (iniAt K d) fd := by
  unfold iniB at c
  simp only [Bool.and_eq_true] at c
  obtain ⟨c1, c2, c3, c4, c5, c6, c7, c8, c9⟩ := c
  unfold iniObs at e
  cases q : K.lookup (iniAt K d) with
  | none =>
    rw [q] at c1
    cases c1
  | some o =>
    obtain ⟨oc, od, dt, osl⟩ := o
    rw [q] at c1 e
    cases dt with
    | func fd =>
      obtain ⟨n1, n2, n3, n4, n5, n6, n7, n8, n9, n10, n11, n12, n13, n14, n15⟩ := fd
      have e2 : (some (n1, n2, n3, n4, n5, n6, n7.map (fun q => q.1), n8, n9, n12, n15) : IniV) = some (d.w.name, d.w.qual, d.w.params, .stmts d.w.body, d.w.scope, mainGlobals, [("__class__" : Str)], .none, .none, none, builtinsNs) := e
      simp only [Option.some.injEq, Prod.mk.injEq] at e2
      obtain ⟨h1, h2, h3, h4, h5, h6, h7, h8, h9, h10, h11⟩ := e2
      subst h1 h2 h3 h4 h5 h6 h8 h9 h10 h11
      have c1' : (PySem.W.codeIn K n13 d.w.qual && (fileB K (P.main.file : Str) n13 && cellB K (He.ga K d.cls) n7)) = true := c1
      simp only [Bool.and_eq_true] at c1'
      obtain ⟨k1, k2, k3⟩ := c1'
      obtain ⟨cda, rfl, code⟩ := fileB_ok k2
      obtain ⟨x, cc, rfl, cell⟩ := cellB_ok k3
      have hx : x = ("__class__" : Str) := by
        have := h7
        simp only [List.map_cons, List.map_nil, List.cons.injEq, and_true] at this
        exact this
      subst hx
      refine ⟨_, clsB_ok c2, ⟨cc, cda, ⟨oc, n10, n11, n14, od, osl, q⟩, k1, code, cell, F.top, sup, F.self, F.kind, F.ksup, F.kcls, F.kself, He.eqO_ok c3, He.eqO_ok c4, of_decide_eq_true c5, of_decide_eq_true c6⟩, He.eqO_ok c7, of_decide_eq_true c8, ⟨oc, od, osl, q⟩, PySem.W.mg_of X G (He.eqO_ok c9), ⟨_, _, _, _, _, rfl⟩⟩
    | _ => cases c1
/-! ## the Hook -/
abbrev AlW : Type := He.AlD × Bool × List IniV
def asW (g : Addr → Option Obj) (n : Nat) : List Addr := cStatics :: He.asD g n
def obsW (file : Str) (fa : List He.Fa) (fn : List He.DefD) (is : List IniD) (ex : PySem.W.Frag → Bool) (K : PySem.W.Frag) : AlW := (He.obsD fa fn K, (is.all (fun d => iniB K file d)) && ex K, is.map fun d => iniObs K d)
def valW (fn : List He.DefD) (is : List IniD) : AlW := (He.valD fn, true, is.map IniD.val)
structure SaysW (file : Str) (fa : List He.Fa) (fn : List He.DefD) (is : List IniD) (ex : PySem.W.Frag → Bool) (K : PySem.W.Frag) : Prop where
  d : He.SaysD fa fn K
  i : ∀ x ∈ is, iniB K file x = true ∧ iniObs K x = x.val
  ex : ex K = true
theorem map_at {α β : Type} {f g : α → β} : ∀ {l : List α}, l.map f = l.map g → ∀ x ∈ l, f x = g x
  | [], _, _, h => nomatch h
  | a :: l, e, x, h => by
    simp only [List.map_cons, List.cons.injEq] at e
    rcases List.mem_cons.mp h with rfl | h
    · exact e.1
    · exact map_at e.2 x h
theorem saysW_of {file : Str} {fa : List He.Fa} {fn : List He.DefD} {is : List IniD} {ex : PySem.W.Frag → Bool} {K : PySem.W.Frag} (e : obsW file fa fn is ex K = valW fn is) : SaysW file fa fn is ex K := by
  have e1 : He.obsD fa fn K = He.valD fn := congrArg (fun z : AlW => z.1) e
  have e2 : ((is.all (fun d => iniB K file d)) && ex K) = true := congrArg (fun z : AlW => z.2.1) e
  have e3 : is.map (fun d => iniObs K d) = is.map IniD.val := congrArg (fun z : AlW => z.2.2) e
  obtain ⟨h1, h2⟩ := He.ba e2
  exact ⟨e1, fun x hx => ⟨List.all_eq_true.mp h1 x hx, map_at e3 x hx⟩, h2⟩
def obsWG (n : Nat) (file : Str) (fa : List He.Fa) (fn : List He.DefD) (is : List IniD) (ex : PySem.W.Frag → Bool) (g : Addr → Option Obj) : AlW := obsW file fa fn is ex (He.frG g (asW g n))
def hookW (n : Nat) (file : Str) (fa : List He.Fa) (fn : List He.DefD) (is : List IniD) (ex : PySem.W.Frag → Bool) : PySem.W.Hook where
  α := AlW
  obs := fun s => obsWG n file fa fn is ex s.heap.get?
  val := fun _ => valW fn is
  says := fun _ h => ∃ K : PySem.W.Frag, K.In h ∧ SaysW file fa fn is ex K
  of := fun _ _ e => ⟨_, He.frG_in, saysW_of e⟩
  keeps := fun _ _ _ ⟨K, hK, c⟩ k => ⟨K, PySem.W.Frag.In.keeps hK k, c⟩
theorem obsWG_eq {n : Nat} {file : Str} {fa : List He.Fa} {fn : List He.DefD} {is : List IniD} {ex : PySem.W.Frag → Bool} {g : Addr → Option Obj} {s : Shared} (h : ∀ a, g a = s.heap.get? a) : obsWG n file fa fn is ex g = (hookW n file fa fn is ex).obs s := by
  have e : g = s.heap.get? := funext h
  rw [e] <;> rfl
/-- what its words bind -/
theorem IniR.binds {P : Program} {K : PySem.W.Frag} {mg : Str → Option Value} {d : IniD} {C f : Addr} {fd : FuncData} {ps : List Str} (R : IniR P K mg d C f fd)
    (h : ∀ (cl : List (Str × Addr)) (doc pm cdv ct : Value) (us : List Value), us.length = ps.length → bindArgs (PySem.W.fnX d.w.name d.w.qual d.w.params d.w.body d.w.scope cl .none .none doc pm none cdv ct) ⟨us, []⟩ = pure (ps.zip us)) : Binds K fd ps [] := by
  obtain ⟨cl, doc, pm, cdv, ct, rfl⟩ := R.b
  exact .all fun us hl => h cl doc pm cdv ct us hl
end Lw

set_option Elab.async false
set_option linter.all false
set_option maxRecDepth 100000
set_option maxHeartbeats 4000000
namespace Lw
open PySem PySem.Spec PyProof.Rows L2
/-! ## own defs that may raise, called with values by place -/
structure OwnR (P : Program) (w : World) (K : PySem.W.Frag) (mg : Str → Option Value) (base : Heap) (k : Nat) (x : Str) (sp : Sp) (f : Addr) : Prop where
  ok : FnR P w K mg base (L2.CX P w) k f sp
  m : mg x = some (.ref f)
  kp : PySem.W.keepIn K (.ref f) = true
def tR (sp : Sp) (E : L2.St → XK) (t : TA) : TE := fun σ H Q => t σ H fun vs H1 => sp vs H1 Q (E σ)
theorem passF {X : Cx} : Passes (L2.CX X.prog X.w) X E0 := fun _ _ _ _ _ _ _ h => by
  obtain ⟨_, _, _, _, _, _, _, _, _, _, _, _, h⟩ := h
  exact h.elim
section
variable {X : Cx} {k : Nat} {f : Addr} {sp : Sp} {W : WX} {E : L2.St → XK} {x : Str} {p pos : Pos} {e : Expr} {es : List Expr} {t : TA}
theorem run_at {pins : List (Addr × Obj)} {σ : L2.St} {H : Hp} {s : Shared} {Q : VK} {us : List Value} {vs : List V} (F : FnR X.prog X.w X.K X.mg X.base (L2.CX X.prog X.w) k f sp) (hr : Room k X.A) (hx : PassesAt (L2.CX X.prog X.w) X σ (E σ))
    (I : Inv X pins σ H s) (r : Vals vs us) (h : sp vs H Q (E σ)) : wpAny (model X.prog X.w) X.A (call (.ref f) us) (EP X pins σ Q) X.xe s := by
  refine wpAny_call (codeAny_mono (F X.A X.stack s H us vs Q (E σ) hr I.env0 r h) fun res st hq => ?_)
  match res, hq with
  | .error ev, hq => exact hx pins H s ev st I hq
  | .ok (.ret _), hq => exact I.after hq
  | .ok .next, hq => exact False.elim hq
  | .ok .brk, hq => exact False.elim hq
  | .ok .cont, hq => exact False.elim hq
theorem pe_at (O : OwnR X.prog X.w X.K X.mg X.base k x sp f) (hx : ∀ σ, PassesAt (L2.CX X.prog X.w) X σ (E σ)) (hr : Room k X.A) (ha : PA X (e :: es) t) (hg : Gl X x := by rfl) (hdb : (x == ("__debug__" : Str)) = false := by decide)
    (he : starEach (e :: es) X.env = (false, eval e X.env) :: starEach es X.env := by rfl) (hpl : (backTo pos (starEach es X.env)).any (fun q => q.1) = false := by rfl) :
    PE X (.Call (.Name x p) (e :: es) [] pos) (tR sp E t) := by
  constructor
  intro pins s σ H Q I h
  refine wpAny_Call_Name_kw (ld_glob I hg O.m ?_ hdb)
  exact PySem.W.callWith_K (h₀ := X.base) I.ok.mod.kin O.kp (thn (ha.run pos pins s σ H _ I h) fun us s1 ⟨vs, H1, I1, r, q⟩ => ⟨I1.kIn, run_at O.ok hr (hx σ) I1 r q⟩) he hpl
theorem pe_at0 (O : OwnR X.prog X.w X.K X.mg X.base k x sp f) (hx : ∀ σ, PassesAt (L2.CX X.prog X.w) X σ (E σ)) (hr : Room k X.A) (hg : Gl X x := by rfl) (hdb : (x == ("__debug__" : Str)) = false := by decide) :
    PE X (.Call (.Name x p) [] [] pos) (tR sp E tNil) := by
  constructor
  intro pins s σ H Q I h
  refine wpAny_Call_Name_kw (ld_glob I hg O.m ?_ hdb)
  exact PySem.W.callWith_K0 I.kIn O.kp (run_at (us := []) O.ok hr (hx σ) I .nil h)
/-- what it raises is taken at the caller -/
theorem pe_ownR (O : OwnR X.prog X.w X.K X.mg X.base k x sp f) (tk : Takes X W) (hr : Room k X.A) (ha : PA X (e :: es) t) (hg : Gl X x := by rfl) (hdb : (x == ("__debug__" : Str)) = false := by decide)
    (he : starEach (e :: es) X.env = (false, eval e X.env) :: starEach es X.env := by rfl) (hpl : (backTo pos (starEach es X.env)).any (fun q => q.1) = false := by rfl) :
    PE X (.Call (.Name x p) (e :: es) [] pos) (tR sp (WE W) t) := pe_at O (fun σ => passAt tk σ) hr ha hg hdb he hpl
theorem pe_ownR0 (O : OwnR X.prog X.w X.K X.mg X.base k x sp f) (tk : Takes X W) (hr : Room k X.A) (hg : Gl X x := by rfl) (hdb : (x == ("__debug__" : Str)) = false := by decide) :
    PE X (.Call (.Name x p) [] [] pos) (tR sp (WE W) tNil) := pe_at0 O (fun σ => passAt tk σ) hr hg hdb
/-- it raises nothing here -/
theorem pe_ownF (O : OwnR X.prog X.w X.K X.mg X.base k x sp f) (hr : Room k X.A) (ha : PA X (e :: es) t) (hg : Gl X x := by rfl) (hdb : (x == ("__debug__" : Str)) = false := by decide)
    (he : starEach (e :: es) X.env = (false, eval e X.env) :: starEach es X.env := by rfl) (hpl : (backTo pos (starEach es X.env)).any (fun q => q.1) = false := by rfl) :
    PE X (.Call (.Name x p) (e :: es) [] pos) (tR sp (fun _ => E0) t) := pe_at O (fun σ pins H s ev st I c => passF pins σ H s ev st I c) hr ha hg hdb he hpl
theorem pe_ownF0 (O : OwnR X.prog X.w X.K X.mg X.base k x sp f) (hr : Room k X.A) (hg : Gl X x := by rfl) (hdb : (x == ("__debug__" : Str)) = false := by decide) :
    PE X (.Call (.Name x p) [] [] pos) (tR sp (fun _ => E0) tNil) := pe_at0 O (fun σ pins H s ev st I c => passF pins σ H s ev st I c) hr hg hdb
theorem pe_ownXW {fd : FuncData} {ps ks : List Str} {tk : TA} {kws : List Keyword} {g : List Value → List Value → List Value} {gV : List V → List V → List V} (O : OwnX X.prog X.w X.K X.mg X.base k x ps sp f fd) (hb : KBn X.K fd ps 0 ks g gV) (hr : Room k X.A) (hkw : PK X kws tk) (hg : Gl X x := by rfl)
    (hall : (backToKw pos (keywordEach kws X.env)).all (fun q => q.1.isSome) = true := by rfl)
    (hks : (backToKw pos (keywordEach kws X.env)).filterMap (fun q => q.1) = ks := by rfl)
    (hdb : (x == ("__debug__" : Str)) = false := by decide)
    (hpl : ((backTo pos (starEach [] X.env)).any (fun q => q.1) || (backToKw pos (keywordEach kws X.env)).any (fun q => q.1.isNone)) = false := by rfl) :
    PE X (.Call (.Name x p) [] kws pos) (tCallN 0 ks.length sp gV E0 tNil tk) := pe_callW O.ok hr hg O.m O.kp hb passF hkw hall hks hdb hpl
end
theorem ownR_of {P : Program} {w : World} {K : PySem.W.Frag} {mg : Str → Option Value} {base : Heap} {k : Nat} {x : Str} {ps : List Str} {sp : Sp} {f : Addr} {fd : FuncData} (F : FnOk P w K mg base (L2.CX P w) k f fd ps sp) (hb : Binds K fd ps []) (m : mg x = some (.ref f)) (kp : PySem.W.keepIn K (.ref f) = true) :
    OwnR P w K mg base k x sp f := ⟨fun A outer s H us vs Q E hr e0 r hs => (FnOk.raw F hb .nil) A outer s H us vs Q E hr e0 r (by show sp (vs ++ []) H Q E; rw [List.append_nil]; exact hs), m, kp⟩
def flip2 {α : Type} : List α → List α
  | [a, b] => [b, a]
  | _ => []
theorem flip_rel {vs : List V} {us : List Value} (h : Vals vs us) : Vals (flip2 vs) (flip2 us) := by
  match vs, us, h with
  | [], _, .nil => exact .nil
  | [_], _, .cons _ .nil => exact .nil
  | [_, _], _, .cons a (.cons b .nil) => exact .cons b (.cons a .nil)
  | _ :: _ :: _ :: _, _, .cons a (.cons b (.cons c d)) => exact .nil
/-- two keywords, in the other order -/
theorem kb2 {K : PySem.W.Frag} {y qual : Str} {params : Arguments} {body : List Stmt} {scope : Scope} {kw : List (Str × V)} {f : Addr} {fd : FuncData} {a b : Str} (F : FunD K y qual params body scope [] kw f fd)
    (h : ∀ (kV doc pm : Value) (an : Option Addr) (cdv ct u v : Value), bindArgs (PySem.W.fnOf y qual params body scope .none kV doc pm an cdv ct) ⟨[], [(b, u), (a, v)]⟩ = pure [(a, v), (b, u)]) :
    KBn K fd [a, b] 0 [b, a] (fun _ ws => flip2 ws) (fun _ zs => flip2 zs) := by
  obtain ⟨oc, od, dV, kV, doc, pm, an, cdv, ct, osl, rfl, lk, hcd, hD, hK⟩ := F.ex
  rcases hD with ⟨_, rfl⟩ | ⟨e, _⟩
  · refine ⟨fun s us ws X l1 l2 => ?_, fun _ r => flip_rel r⟩
    match us, ws, l1, l2 with
    | [], [u, v], _, _ => exact .of_eq (h kV doc pm an cdv ct u v)
  · exact absurd rfl e
end Lw

set_option Elab.async false
set_option linter.all false
set_option maxRecDepth 100000
set_option maxHeartbeats 4000000
namespace K14
open PySem PySem.Spec PyProof.Rows L2 Lw
def topS (i : Nat) : Stmt := PySem.Challenge.pw_lastheld_k14_number_texts.main.body.getD i (.Pass ⟨0, 0, 0, 0⟩)
abbrev s_kept : Stmt := topS 1
abbrev N_kept : List Str := ["value", "key", "item"]
theorem sc_kept : FnScope N_kept ["value"] (defScope s_kept) := ⟨rfl, rfl, rfl, by decide +kernel, rfl, by decide +kernel, by decide +kernel⟩
abbrev s_is_integer : Stmt := topS 9
abbrev N_is_integer : List Str := ["value"]
theorem sc_is_integer : FnScope N_is_integer ["value"] (defScope s_is_integer) := ⟨rfl, rfl, rfl, by decide +kernel, rfl, by decide +kernel, by decide +kernel⟩
abbrev s_common_divisor : Stmt := topS 12
abbrev N_common_divisor : List Str := ["first", "second"]
theorem sc_common_divisor : FnScope N_common_divisor ["first", "second"] (defScope s_common_divisor) := ⟨rfl, rfl, rfl, by decide +kernel, rfl, by decide +kernel, by decide +kernel⟩
abbrev s_is_number : Stmt := topS 13
abbrev N_is_number : List Str := ["value", "numerator", "denominator", "part"]
theorem sc_is_number : FnScope N_is_number ["value"] (defScope s_is_number) := ⟨rfl, rfl, rfl, by decide +kernel, rfl, by decide +kernel, by decide +kernel⟩
abbrev s_check_numbers : Stmt := topS 14
abbrev N_check_numbers : List Str := ["values", "value"]
theorem sc_check_numbers : FnScope N_check_numbers ["values"] (defScope s_check_numbers) := ⟨rfl, rfl, rfl, by decide +kernel, rfl, by decide +kernel, by decide +kernel⟩
abbrev s_integer_text : Stmt := topS 15
abbrev N_integer_text : List Str := ["value", "rest", "groups", "group", "sign"]
theorem sc_integer_text : FnScope N_integer_text ["value"] (defScope s_integer_text) := ⟨rfl, rfl, rfl, by decide +kernel, rfl, by decide +kernel, by decide +kernel⟩
abbrev s_is_integer_text : Stmt := topS 16
abbrev N_is_integer_text : List Str := ["text", "digits", "sign"]
theorem sc_is_integer_text : FnScope N_is_integer_text ["text"] (defScope s_is_integer_text) := ⟨rfl, rfl, rfl, by decide +kernel, rfl, by decide +kernel, by decide +kernel⟩
abbrev s_integer_of_text : Stmt := topS 17
abbrev N_integer_of_text : List Str := ["text", "total", "digit"]
theorem sc_integer_of_text : FnScope N_integer_of_text ["text"] (defScope s_integer_of_text) := ⟨rfl, rfl, rfl, by decide +kernel, rfl, by decide +kernel, by decide +kernel⟩
abbrev s_number_text : Stmt := topS 18
abbrev N_number_text : List Str := ["value", "part"]
theorem sc_number_text : FnScope N_number_text ["value"] (defScope s_number_text) := ⟨rfl, rfl, rfl, by decide +kernel, rfl, by decide +kernel, by decide +kernel⟩
abbrev s_parse_number : Stmt := topS 19
abbrev N_parse_number : List Str := ["text", "words", "parts", "value", "word"]
theorem sc_parse_number : FnScope N_parse_number ["text"] (defScope s_parse_number) := ⟨rfl, rfl, rfl, by decide +kernel, rfl, by decide +kernel, by decide +kernel⟩
abbrev s_pot : Stmt := topS 21
abbrev N_pot : List Str := ["_law_script", "_law_k", "_law_digits"]
theorem sc_pot : FnScope N_pot ["_law_script", "_law_k"] (defScope s_pot) := ⟨rfl, rfl, rfl, by decide +kernel, rfl, by decide +kernel, by decide +kernel⟩
abbrev s_draw : Stmt := topS 22
abbrev N_draw : List Str := ["_law_pot_here", "_law_many", "_law_digit"]
theorem sc_draw : FnScope N_draw ["_law_pot_here", "_law_many"] (defScope s_draw) := ⟨rfl, rfl, rfl, by decide +kernel, rfl, by decide +kernel, by decide +kernel⟩
abbrev s_common : Stmt := topS 23
abbrev N_common : List Str := ["_law_a", "_law_b"]
theorem sc_common : FnScope N_common ["_law_a", "_law_b"] (defScope s_common) := ⟨rfl, rfl, rfl, by decide +kernel, rfl, by decide +kernel, by decide +kernel⟩
abbrev s_ratio : Stmt := topS 24
abbrev N_ratio : List Str := ["_law_top", "_law_low", "_law_part"]
theorem sc_ratio : FnScope N_ratio ["_law_top", "_law_low"] (defScope s_ratio) := ⟨rfl, rfl, rfl, by decide +kernel, rfl, by decide +kernel, by decide +kernel⟩
abbrev s_worth : Stmt := topS 25
abbrev N_worth : List Str := ["_law_pot_here", "_law_way", "_law_top"]
theorem sc_worth : FnScope N_worth ["_law_pot_here"] (defScope s_worth) := ⟨rfl, rfl, rfl, by decide +kernel, rfl, by decide +kernel, by decide +kernel⟩
abbrev s_odd : Stmt := topS 26
abbrev N_odd : List Str := ["_law_pot_here", "_law_some"]
theorem sc_odd : FnScope N_odd ["_law_pot_here"] (defScope s_odd) := ⟨rfl, rfl, rfl, by decide +kernel, rfl, by decide +kernel, by decide +kernel⟩
abbrev s_is_ratio : Stmt := topS 27
abbrev N_is_ratio : List Str := ["_law_thing", "_law_part"]
theorem sc_is_ratio : FnScope N_is_ratio ["_law_thing"] (defScope s_is_ratio) := ⟨rfl, rfl, rfl, by decide +kernel, rfl, by decide +kernel, by decide +kernel⟩
abbrev s_written : Stmt := topS 28
abbrev N_written : List Str := ["_law_thing"]
theorem sc_written : FnScope N_written ["_law_thing"] (defScope s_written) := ⟨rfl, rfl, rfl, by decide +kernel, rfl, by decide +kernel, by decide +kernel⟩
abbrev s_parsed : Stmt := topS 29
abbrev N_parsed : List Str := ["_law_words", "_law_told", "e", "_law_others"]
theorem sc_parsed : FnScope N_parsed ["_law_words"] (defScope s_parsed) := ⟨rfl, rfl, rfl, by decide +kernel, rfl, by decide +kernel, by decide +kernel⟩
abbrev s_is_plain : Stmt := topS 30
abbrev N_is_plain : List Str := ["_law_word", "_law_is_signed", "_law_rest", "_law_sign"]
theorem sc_is_plain : FnScope N_is_plain ["_law_word", "_law_is_signed"] (defScope s_is_plain) := ⟨rfl, rfl, rfl, by decide +kernel, rfl, by decide +kernel, by decide +kernel⟩
abbrev s_due : Stmt := topS 31
abbrev N_due : List Str := ["_law_words", "_law_some", "_law_thing"]
theorem sc_due : FnScope N_due ["_law_words"] (defScope s_due) := ⟨rfl, rfl, rfl, by decide +kernel, rfl, by decide +kernel, by decide +kernel⟩
abbrev s_spoilt : Stmt := topS 32
abbrev N_spoilt : List Str := ["_law_pot_here", "_law_words", "_law_sign", "_law_at", "_law_way"]
theorem sc_spoilt : FnScope N_spoilt ["_law_pot_here", "_law_words"] (defScope s_spoilt) := ⟨rfl, rfl, rfl, by decide +kernel, rfl, by decide +kernel, by decide +kernel⟩
abbrev s_refused : Stmt := topS 33
abbrev N_refused : List Str := ["_law_thing", "_law_told", "e"]
theorem sc_refused : FnScope N_refused ["_law_thing"] (defScope s_refused) := ⟨rfl, rfl, rfl, by decide +kernel, rfl, by decide +kernel, by decide +kernel⟩
abbrev s_right : Stmt := topS 34
abbrev N_right : List Str := ["_law_pot_here", "_law_thing", "_law_words", "_law_spoilt_here", "_law_turn", "_law_fixed", "_law_one", "_law_told", "_law_odd_here"]
theorem sc_right : FnScope N_right ["_law_pot_here"] (defScope s_right) := ⟨rfl, rfl, rfl, by decide +kernel, rfl, by decide +kernel, by decide +kernel⟩
abbrev s_law : Stmt := topS 35
abbrev N_law : List Str := ["_law_script", "_law_k", "_law_pot_here", "_law_turn"]
theorem sc_law : FnScope N_law ["_law_script"] (defScope s_law) := ⟨rfl, rfl, rfl, by decide +kernel, rfl, by decide +kernel, by decide +kernel⟩
abbrev FnP (K : PySem.W.Frag) (x : Str) (st : Stmt) (f : Addr) (fd : FuncData) : Prop := FunD K x x (defArgs st) (defBody st) (defScope st) [] [] f fd
structure Tz (mg : Str → Option Value) : Prop where
  z_isinstance : mg "isinstance" = none
  z_list : mg "list" = none
  z_tuple : mg "tuple" = none
  z_dict : mg "dict" = none
  z_int : mg "int" = none
  z_bool : mg "bool" = none
  z_len : mg "len" = none
  z_all : mg "all" = none
  z_repr : mg "repr" = none
  z_range : mg "range" = none
  z_max : mg "max" = none
  z_min : mg "min" = none
  z_abs : mg "abs" = none
  z_divmod : mg "divmod" = none
  z_ValueError : mg "ValueError" = none
  z_ArithmeticError : mg "ArithmeticError" = none
  z_super : mg "super" = none
  z_str : mg "str" = none
  c_DIGITS : ∃ t, mg "DIGITS" = some (.str "0123456789" t)
theorem pos_c {j : Int} (h : 0 < j) : 0 < j := h
section
variable {P : Program} {w : World} {K : PySem.W.Frag} {mg : Str → Option Value} {base : Heap} {f : Addr} {fd : FuncData} {fD : Addr} {fdD : FuncData}
def sp_pot (K : PySem.W.Frag) : Sp := fun vs H Q _ => ∃ (s : Addr) (ns : List Int) (k : Nat), vs = [.ref s, .int k] ∧ SqL K H s (ns.map V.int) ∧ k < 1000 ∧
  ∀ p u v, H p = none → 0 ≤ v → v < 2147483648 → Q (.ref p) (upd H p (.lst [.int u, .int v]))
theorem ok_pot (F : FnP K "_law_pot" s_pot f fd) (T : Tz mg) : FnOk P w K mg base CX0 1 f fd ["_law_script", "_law_k"] (sp_pot K) := by
  refine F.ok sc_pot (fun vs H Q E h => ?_) (fun cdv A outer s H vs Q E hr h => ?_)
  · obtain ⟨a, ns, k, rfl, _⟩ := h
    rfl
  · obtain ⟨a, ns, k, rfl, hS, hk, q⟩ := h
    refine ⟨_, PSs.nox (pss_cons (ps_set (i := 2) sc_pot.nd rfl (Or.inl rfl) (pe_ifExp (pt_cmpR op_lt (pv 1) (pe_callB call_len_seq (by rfl) T.z_len (by decide +kernel) (pa_cons (pv 0) pa_nil)) (nomark _)) (pe_ix ix_list (pv 0) (pv 1) (fun _ _ => rfl)) pe_int))
      (pss_one (ps_ret (pe_lst (pa_cons (pe_callB (call_max2 rfl) (by rfl) T.z_max (by decide +kernel) (pa_cons pe_int (pa_cons (pe_op op_sub (pe_callB call_abs (by rfl) T.z_abs (by decide +kernel) (pa_cons (pv 2) pa_nil)) (pe_op op_pow pe_int pe_int)) pa_nil))) (pa_cons (pe_op op_mod (pe_op op_add (pe_op op_add (pe_op op_mul (pe_op op_mod (pe_callB call_abs (by rfl) T.z_abs (by decide +kernel) (pa_cons (pv 2) pa_nil)) pe_int) pe_int) (pe_op op_mul pe_int (pv 1))) pe_int) pe_int) pa_nil)))))), ?_⟩
    refine ⟨_, rfl, .ref a, rfl, a, _, rfl, .inl hS, _, _, rfl, rfl, _, rfl, ?_⟩
    refine ite2 (fun e => ?_) (fun e => ?_)
    · have e1 : (k : Int) < ((ns.map V.int).length : Nat) := of_decide_eq_true e
      have e2 : k < ns.length := by
        rw [List.length_map] at e1
        omega
      have e3 : (ns.map V.int)[k]? = some (.int ns[k]) := by
        rw [List.getElem?_map, List.getElem?_eq_getElem e2]
        rfl
      refine ⟨.ref a, rfl, .int k, rfl, a, _, _, .int ns[k], rfl, rfl, hS, atI_nat e3, ?_⟩
      refine ⟨.int ns[k], rfl, _, rfl, 10, 18, rfl, rfl, ⟨by decide, by decide, by decide⟩, _, _, rfl, rfl, _, _, rfl, ?_⟩
      refine ⟨.int ns[k], rfl, _, rfl, _, _, rfl, rfl, pos_c (by decide), _, _, rfl, rfl, .inr ⟨by decide, by decide⟩, .int k, rfl, _, _, rfl, rfl, .inl ⟨by decide, by decide⟩, _, _, rfl, rfl, _, _, rfl, rfl, _, _, rfl, rfl, pos_c (by decide), ?_⟩
      exact ⟨by show 2 ≤ sizeLine; decide, fun p np => q p _ _ np (Int.emod_nonneg _ (by decide)) (Int.lt_trans (Int.emod_lt_of_pos _ (by decide)) (by decide))⟩
    · refine ⟨.int 0, rfl, _, rfl, 10, 18, rfl, rfl, ⟨by decide, by decide, by decide⟩, _, _, rfl, rfl, _, _, rfl, ?_⟩
      refine ⟨.int 0, rfl, _, rfl, _, _, rfl, rfl, pos_c (by decide), _, _, rfl, rfl, .inr ⟨by decide, by decide⟩, .int k, rfl, _, _, rfl, rfl, .inl ⟨by decide, by decide⟩, _, _, rfl, rfl, _, _, rfl, rfl, _, _, rfl, rfl, pos_c (by decide), ?_⟩
      exact ⟨by show 2 ≤ sizeLine; decide, fun p np => q p _ _ np (Int.emod_nonneg _ (by decide)) (Int.lt_trans (Int.emod_lt_of_pos _ (by decide)) (by decide))⟩

def sp_draw : Sp := fun vs H Q _ => ∃ (a : Addr) (n : Int), vs = [.ref a, .int n] ∧ PotAt H a ∧ 0 < n ∧ n < 1267650600228229401496703205376 ∧
  ∀ r H', 0 ≤ r → r < n → PotAt H' a → Off a H H' → Q (.int r) H'
theorem ok_draw (F : FnP K "_law_draw" s_draw f fd) (T : Tz mg) : FnOk P w K mg base CX0 1 f fd ["_law_pot_here", "_law_many"] sp_draw := by
  refine F.ok sc_draw (fun vs H Q E h => ?_) (fun cdv A outer s H vs Q E hr h => ?_)
  · obtain ⟨a, n, rfl, _⟩ := h
    rfl
  · obtain ⟨a, n, rfl, ⟨x, y, hp, y0, y1⟩, n0, n1, q⟩ := h
    refine ⟨_, PSs.nox (pss_cons (ps_if (pt_cmpR op_gt (pe_ix ix_list (pv 0) pe_int (fun _ _ => rfl)) pe_int (nomark _)) (pss_cons (ps_asg (pe_callB call_divmodW (by rfl) T.z_divmod (by decide +kernel) (pa_cons (pe_ix ix_list (pv 0) pe_int (fun _ _ => rfl)) (pa_cons (pv 1) pa_nil))) (pg_tup rfl (pgs_cons (pg_sub (pv 0) pe_int set_list) (pgs_cons (pg_name (i := 2) sc_draw.nd rfl (Or.inl rfl)) pgs_nil))))
      (pss_one (ps_ret (pv 2)))) pss_nil)
      (pss_cons (ps_asg (pe_op op_mod (pe_op op_add (pe_op op_mul (pe_ix ix_list (pv 0) pe_int (fun _ _ => rfl)) pe_int) pe_int) pe_int) (pg_sub (pv 0) pe_int set_list))
      (pss_one (ps_ret (pe_op op_mod (pe_op op_fdiv (pe_op op_mod (pe_op op_mul (pe_ix ix_list (pv 0) pe_int (fun _ _ => rfl)) (pe_ix ix_list (pv 0) pe_int (fun _ _ => rfl))) pe_int) pe_int) (pv 1)))))), ?_⟩
    refine ⟨.ref a, rfl, a, _, 0, .int x, rfl, rfl, .inl (.inl hp), rfl, _, _, rfl, rfl, _, rfl, ite2 (fun e => ?_) (fun e => ?_)⟩
    · have x0 : 0 < x := of_decide_eq_true e
      refine ⟨.ref a, rfl, a, _, 0, .int x, rfl, rfl, .inl (.inl hp), rfl, .int n, rfl, x, n, rfl, ⟨n0, PyProof.noPylong_of_log2 (Nat.lt_of_lt_of_le (PySem.Flt.log2_lt_of (k := 100) (by decide) (by omega)) (by decide))⟩, fun t nt => ?_⟩
      have ht : (upd H t (.tup [.int (x / n), .int (x % n)])) a = some (.lst [.int x, .int y]) := by
        rw [upd_ne (ne_of_none hp nt)]
        exact hp
      refine ⟨t, _, rfl, .inl (.inl upd_same), rfl, _, _, rfl, .ref a, rfl, a, _, 0, 0, rfl, rfl, ht, rfl, _, _, rfl, rfl, .int (x % n), rfl, ?_⟩
      exact q _ _ (Int.emod_nonneg _ (by omega)) (Int.emod_lt_of_pos _ n0) ⟨x / n, y, upd_same, y0, y1⟩ ((Off.new nt).trans Off.at)
    · refine ⟨.ref a, rfl, a, _, 1, .int y, rfl, rfl, .inl (.inl hp), rfl, _, _, rfl, rfl, .inr ⟨by decide, by decide⟩, _, _, rfl, rfl, _, _, rfl, rfl, pos_c (by decide), ?_⟩
      refine ⟨.ref a, rfl, a, _, 1, 1, rfl, rfl, hp, rfl, ?_⟩
      have z0 : 0 ≤ (y * 39373 + 12227) % 2147483629 := Int.emod_nonneg _ (by decide)
      have z1 : (y * 39373 + 12227) % 2147483629 < 2147483629 := Int.emod_lt_of_pos _ (by decide)
      refine ⟨.ref a, rfl, a, _, 1, _, rfl, rfl, .inl (.inl upd_same), rfl, .ref a, rfl, a, _, 1, _, rfl, rfl, .inl (.inl upd_same), rfl, _, _, rfl, rfl, .inl ⟨?_, ?_⟩, _, _, rfl, rfl, pos_c (by decide), _, _, rfl, rfl, ⟨by decide, by decide⟩, .int n, rfl, _, _, rfl, rfl, n0, ?_⟩
      · exact Int.lt_of_lt_of_le (by decide) z0
      · exact Int.lt_trans z1 (by decide)
      · exact q _ _ (Int.emod_nonneg _ (by omega)) (Int.emod_lt_of_pos _ n0) ⟨x, _, upd_same, z0, Int.lt_trans z1 (by decide)⟩ Off.at

/-! ### odd -/
def odds1 : List PyData := [.none, .int 0, .int 1, .bool true, .bool false, .str "", .str "A", .str "nineletters", .tuple [], .list [], .dict [], .tuple [.int 1, .int 2], .tuple [.int 2, .int 4], .tuple [.int 3, .int 1], .tuple [.int 1, .int 0], .tuple [.int 1, .int (-2)]]
def odds2 : List PyData := [.tuple [.bool true, .int 2], .list [.int 1, .int 2], .tuple [.int 1, .int 2, .int 3], .tuple [.str "1", .int 2], .tuple [.int 0, .int 2], .tuple [.int (-3), .int 6], .int (-5), .str "a", .str "ab", .str "a b", .str "1", .tuple [.str "a"]]
def odds3 : List PyData := [.tuple [.int 1, .bool true]]
def odds : List PyData := odds1 ++ odds2 ++ odds3
def sp_odd (K : PySem.W.Frag) : Sp := fun vs H Q _ => ∃ a : Addr, vs = [.ref a] ∧ PotAt H a ∧ ∀ v d H', d ∈ odds → Dq K (off H' a) v d → PotAt H' a → Off a H H' → Q v H'
theorem pot_some {H : Hp} {a : Addr} (h : PotAt H a) : H a ≠ none := by
  obtain ⟨x, y, e, _⟩ := h
  rw [e]
  exact fun z => nomatch z
theorem ok_odd (F : FnP K "_law_odd" s_odd f fd) (T : Tz mg) (O_draw : Own P w K mg base CX0 1 "_law_draw" ["_law_pot_here", "_law_many"] sp_draw fD fdD) : FnOk P w K mg base CX0 2 f fd ["_law_pot_here"] (sp_odd K) := by
  refine F.ok sc_odd (fun vs H Q E h => ?_) (fun cdv A outer s H vs Q E hr h => ?_)
  · obtain ⟨a, rfl, _⟩ := h
    rfl
  · obtain ⟨a, rfl, hp, q⟩ := h
    refine ⟨_, PSs.nox (pss_cons (ps_set (i := 1) sc_odd.nd rfl (Or.inl rfl) (pe_lst (pa_cons pe_non (pa_cons pe_int (pa_cons pe_int (pa_cons pe_bl (pa_cons pe_bl (pa_cons pe_str (pa_cons pe_str (pa_cons pe_str (pa_cons (pe_tup pa_nil) (pa_cons (pe_lst pa_nil) (pa_cons pe_dnewK (pa_cons (pe_tup (pa_cons pe_int (pa_cons pe_int pa_nil))) (pa_cons (pe_tup (pa_cons pe_int (pa_cons pe_int pa_nil))) (pa_cons (pe_tup (pa_cons pe_int (pa_cons pe_int pa_nil))) (pa_cons (pe_tup (pa_cons pe_int (pa_cons pe_int pa_nil))) (pa_cons (pe_tup (pa_cons pe_int (pa_cons (pe_un un_neg pe_int) pa_nil))) pa_nil))))))))))))))))))
      (pss_cons (ps_set (i := 1) sc_odd.nd rfl (Or.inl rfl) (pe_op op_cat (pv 1) (pe_lst (pa_cons (pe_tup (pa_cons pe_bl (pa_cons pe_int pa_nil))) (pa_cons (pe_lst (pa_cons pe_int (pa_cons pe_int pa_nil))) (pa_cons (pe_tup (pa_cons pe_int (pa_cons pe_int (pa_cons pe_int pa_nil)))) (pa_cons (pe_tup (pa_cons pe_str (pa_cons pe_int pa_nil))) (pa_cons (pe_tup (pa_cons pe_int (pa_cons pe_int pa_nil))) (pa_cons (pe_tup (pa_cons (pe_un un_neg pe_int) (pa_cons pe_int pa_nil))) (pa_cons (pe_un un_neg pe_int) (pa_cons pe_str (pa_cons pe_str (pa_cons pe_str (pa_cons pe_str (pa_cons (pe_tup (pa_cons pe_str pa_nil)) pa_nil)))))))))))))))
      (pss_one (ps_ret (pe_ix ix_list (pe_op op_cat (pv 1) (pe_lst (pa_cons (pe_tup (pa_cons pe_int (pa_cons pe_bl pa_nil))) pa_nil))) (pe_own O_draw (hr.mono (by first | decide | omega)) (pa_cons (pv 0) (pa_cons pe_int pa_nil))) (fun _ _ => rfl)))))), ?_⟩
    refine s_lst (ds := odds1) (K := K) ?m1 (by decide) fun v1 H1 t1 s1 l1 d1 n1 => ?_
    case m1 => exact .cons .non (.cons .int (.cons .int (.cons .bl (.cons .bl (.cons .str (.cons .str (.cons .str (.cons (.tup .nil) (.cons (.lst .nil) (.cons .dict (.cons (.tup (.cons .int (.cons .int .nil))) (.cons (.tup (.cons .int (.cons .int .nil))) (.cons (.tup (.cons .int (.cons .int .nil))) (.cons (.tup (.cons .int (.cons .int .nil))) (.cons (.tup (.cons .int (.cons .neg .nil))) .nil)))))))))))))))
    have p1 := (hp.same s1).new (o := .lst v1) n1
    refine e_cat (ds := odds2) (K := K) (t := t1) (xs := v1) ?m2 (by rw [l1]; decide) rfl upd_same fun v2 H2 t2 s2 l2 d2 n2 => ?_
    case m2 => exact .cons (.tup (.cons .bl (.cons .int .nil))) (.cons (.lst (.cons .int (.cons .int .nil))) (.cons (.tup (.cons .int (.cons .int (.cons .int .nil)))) (.cons (.tup (.cons .str (.cons .int .nil))) (.cons (.tup (.cons .int (.cons .int .nil))) (.cons (.tup (.cons .neg (.cons .int .nil))) (.cons .neg (.cons .str (.cons .str (.cons .str (.cons .str (.cons (.tup (.cons .str .nil)) .nil)))))))))))
    have p2 := (p1.same s2).new (o := .lst (v1 ++ v2)) n2
    refine e_cat (ds := odds3) (K := K) (t := t2) (xs := v1 ++ v2) ?m3 (by rw [List.length_append, l1, l2]; decide) rfl upd_same fun v3 H3 t3 s3 l3 d3 n3 => ?_
    case m3 => exact .cons (.tup (.cons .int (.cons .bl .nil))) .nil
    have p3 := (p2.same s3).new (o := .lst (v1 ++ v2 ++ v3)) n3
    have sA : Same H1 H3 := (((same_upd n1).trans s2).trans (same_upd n2)).trans s3
    have sB : Same H2 H3 := (same_upd n2).trans s3
    have sC : Same H H3 := s1.trans sA
    have sD : Same H3 (upd H3 t3 (.lst (v1 ++ v2 ++ v3))) := same_upd n3
    have dd : DqAll K (off H3 a) (v1 ++ v2 ++ v3) odds :=
      dq_app (dq_app (DqAll.same (off_mono sA) (d1 a (pot_some hp))) (DqAll.same (off_mono sB) (d2 a (pot_some p1)))) (d3 a (pot_some p2))
    have ll : (v1 ++ v2 ++ v3).length = 29 := by rw [List.length_append, List.length_append, l1, l2, l3]; rfl
    refine ⟨.ref a, rfl, a, 29, rfl, p3, by decide, by decide, fun r H4 r0 r1 p6 o6 => ?_⟩
    obtain ⟨v, hv, _, ev⟩ := at_in (xs := v1 ++ v2 ++ v3) r0 (by rw [ll]; exact r1)
    obtain ⟨d, hd, dv⟩ := dq_at dd v hv
    refine ⟨t3, _, r, v, rfl, rfl, .inl (.inl (o6.get upd_same ((p2.same s3).ne n3))), ev, ?_⟩
    exact q v d H4 hd (Dq.same ((off_mono sD).trans o6) dv) p6 ((Off.same (sC.trans sD)).trans o6)

end
end K14

set_option Elab.async false
set_option linter.all false
set_option maxRecDepth 100000
set_option maxHeartbeats 4000000
namespace K14
open PySem PySem.Spec PyProof.Rows L2 Lw
section
variable {P : Program} {w : World} {K : PySem.W.Frag} {mg : Str → Option Value} {base : Heap} {f : Addr} {fd : FuncData} {fG : Addr} {fdG : FuncData}

/-! ### common_divisor -/
def sp_gcd : Sp := fun vs H Q _ => ∃ a b : Int, vs = [.int a, .int b] ∧ Q (.int (Int.gcd a b : Int)) H
theorem ok_common_divisor (F : FnP K "common_divisor" s_common_divisor f fd) (T : Tz mg) : FnOk P w K mg base CX0 1 f fd ["first", "second"] sp_gcd := by
  refine F.ok sc_common_divisor (fun vs H Q E h => ?_) (fun cdv A outer s H vs Q E hr h => ?_)
  · obtain ⟨a, b, rfl, _⟩ := h
    rfl
  · obtain ⟨a, b, rfl, q⟩ := h
    refine ⟨_, PSs.nox (pss_cons (ps_while PassesOwn.never (pt_cmpR op_ne (pv 1) pe_int (nomark _)) (pss_one (ps_par (i := 0) (j := 1) (by rfl) sc_common_divisor.nd rfl rfl (by decide) rfl rfl (pa_cons (pv 1) (pa_cons (pe_op op_modN (pv 0) (pv 1)) pa_nil)) (by rfl))))
      (pss_one (ps_ret (pe_callB call_abs (by rfl) T.z_abs (by decide +kernel) (pa_cons (pv 0) pa_nil))))), ?_⟩
    refine ⟨fun m σ H1 => ∃ x y : Int, σ = [some (.int x), some (.int y)] ∧ H1 = H ∧ Int.gcd x y = Int.gcd a b ∧ m = y.natAbs, ⟨_, a, b, rfl, rfl, rfl, rfl⟩, ?_⟩
    rintro m σ H1 ⟨x, y, rfl, rfl, e, rfl⟩
    refine ⟨.int y, rfl, rfl, _, rfl, ?_⟩
    by_cases hy : y = 0
    · subst hy
      refine iteF ⟨.int x, rfl, x, rfl, ?_⟩
      rw [abs_if]
      rw [Int.gcd_zero_right] at e
      rw [e]
      exact q
    · have hne : (!decide (V.int y = V.int 0)) = true := by
        rw [decide_eq_false (fun z => hy (V.int.inj z))]
        rfl
      rw [hne]
      refine ⟨fun σ' H' => ∃ u v : Int, σ' = [some (.int u), some (.int v)] ∧ H' = H1 ∧ Int.gcd u v = Int.gcd a b ∧ v.natAbs < y.natAbs, fun σ' H' hn => ?_, ?_⟩
      · obtain ⟨u, v, e1, e2, e3, e4⟩ := hn
        exact ⟨_, e4, u, v, e1, e2, e3, rfl⟩
      · refine ⟨.int y, rfl, .int x, rfl, .int y, rfl, _, _, rfl, rfl, hy, _, _, rfl, y, x.fmod y, rfl, rfl, ?_, fmod_fall x y hy⟩
        rw [gcd_step, e]
theorem ok_common (F : FnP K "_law_common" s_common f fd) (T : Tz mg) : FnOk P w K mg base CX0 1 f fd ["_law_a", "_law_b"] sp_gcd := by
  refine F.ok sc_common (fun vs H Q E h => ?_) (fun cdv A outer s H vs Q E hr h => ?_)
  · obtain ⟨a, b, rfl, _⟩ := h
    rfl
  · obtain ⟨a, b, rfl, q⟩ := h
    refine ⟨_, PSs.nox (pss_cons (ps_while PassesOwn.never (pt_cmpR op_ne (pv 1) pe_int (nomark _)) (pss_one (ps_par (i := 0) (j := 1) (by rfl) sc_common.nd rfl rfl (by decide) rfl rfl (pa_cons (pv 1) (pa_cons (pe_op op_modN (pv 0) (pv 1)) pa_nil)) (by rfl))))
      (pss_one (ps_ret (pe_callB call_abs (by rfl) T.z_abs (by decide +kernel) (pa_cons (pv 0) pa_nil))))), ?_⟩
    refine ⟨fun m σ H1 => ∃ x y : Int, σ = [some (.int x), some (.int y)] ∧ H1 = H ∧ Int.gcd x y = Int.gcd a b ∧ m = y.natAbs, ⟨_, a, b, rfl, rfl, rfl, rfl⟩, ?_⟩
    rintro m σ H1 ⟨x, y, rfl, rfl, e, rfl⟩
    refine ⟨.int y, rfl, rfl, _, rfl, ?_⟩
    by_cases hy : y = 0
    · subst hy
      refine iteF ⟨.int x, rfl, x, rfl, ?_⟩
      rw [abs_if]
      rw [Int.gcd_zero_right] at e
      rw [e]
      exact q
    · have hne : (!decide (V.int y = V.int 0)) = true := by
        rw [decide_eq_false (fun z => hy (V.int.inj z))]
        rfl
      rw [hne]
      refine ⟨fun σ' H' => ∃ u v : Int, σ' = [some (.int u), some (.int v)] ∧ H' = H1 ∧ Int.gcd u v = Int.gcd a b ∧ v.natAbs < y.natAbs, fun σ' H' hn => ?_, ?_⟩
      · obtain ⟨u, v, e1, e2, e3, e4⟩ := hn
        exact ⟨_, e4, u, v, e1, e2, e3, rfl⟩
      · refine ⟨.int y, rfl, .int x, rfl, .int y, rfl, _, _, rfl, rfl, hy, _, _, rfl, y, x.fmod y, rfl, rfl, ?_, fmod_fall x y hy⟩
        rw [gcd_step, e]

/-! ### lowest -/
def sp_lowest (K : PySem.W.Frag) : Sp := fun vs H Q _ => ∃ n d : Int, vs = [.int n, .int d] ∧ d ≠ 0 ∧ d.natAbs < 2 ^ 1000 ∧ ∀ v H', Same H H' → Fresh K H H' v (lowD n d) → Q v H'
theorem ok_ratio (F : FnP K "_law_ratio" s_ratio f fd) (T : Tz mg) (O_common : Own P w K mg base CX0 1 "_law_common" ["_law_a", "_law_b"] sp_gcd fG fdG) : FnOk P w K mg base CX0 2 f fd ["_law_top", "_law_low"] (sp_lowest K) := by
  refine F.ok sc_ratio (fun vs H Q E h => ?_) (fun cdv A outer s H vs Q E hr h => ?_)
  · obtain ⟨n, d, rfl, _⟩ := h
    rfl
  · obtain ⟨n, d, rfl, hd, hb, q⟩ := h
    refine ⟨_, PSs.nox (pss_cons (ps_if (pt_cmpR op_lt (pv 1) pe_int (nomark _)) (pss_one (ps_par (i := 0) (j := 1) (by rfl) sc_ratio.nd rfl rfl (by decide) rfl rfl (pa_cons (pe_un un_neg (pv 0)) (pa_cons (pe_un un_neg (pv 1)) pa_nil)) (by rfl))) pss_nil)
      (pss_cons (ps_set (i := 2) sc_ratio.nd rfl (Or.inl rfl) (pe_own O_common (hr.mono (by first | decide | omega)) (pa_cons (pv 0) (pa_cons (pv 1) pa_nil))))
      (pss_one (ps_ret (pe_ifExp (pt_cmpR op_eq (pv 1) (pv 2) (nomark _)) (pe_op op_fdivG (pv 0) (pv 2)) (pe_tup (pa_cons (pe_op op_fdivG (pv 0) (pv 2)) (pa_cons (pe_op op_fdivG (pv 1) (pv 2)) pa_nil)))))))), ?_⟩
    have hl0 : ratL d ≠ 0 := by
      unfold ratL
      split <;> omega
    have hlb : (ratL d).natAbs < 2 ^ 1000 := by
      unfold ratL
      split <;> omega
    have gp := gcd_pos (n := ratN n d) hl0
    have gl := gcd_le (n := ratN n d) hl0
    have g0 : (Int.gcd (ratN n d) (ratL d) : Int) ≠ 0 := by omega
    have gb : (Int.gcd (ratN n d) (ratL d) : Int).natAbs < 2 ^ 1000 := by omega
    have tail : ∀ x y : Int, x = ratN n d → y = ratL d → (tSeq (tAsg (tCall sp_gcd [] E0 (tCons (tVar 0) (tCons (tVar 1) tNil))) (gName 2)) (tRet (tIf (tTest (tOp rEq (tVar 1) (tVar 2))) (tOp (rI CDivG fun i j => .int (i.fdiv j)) (tVar 0) (tVar 2)) (tTup (tCons (tOp (rI CDivG fun i j => .int (i.fdiv j)) (tVar 0) (tVar 2)) (tCons (tOp (rI CDivG fun i j => .int (i.fdiv j)) (tVar 1) (tVar 2)) tNil)))))) { nx := fun _ H' => Q .non H', rt := Q } [some (.int x), some (.int y), none] H := by
      rintro x y rfl rfl
      refine ⟨_, rfl, _, rfl, ratN n d, ratL d, rfl, _, rfl, _, rfl, rfl, _, rfl, ?_⟩
      rw [← ratD_eq hd] at q
      by_cases h1 : ratL d = (Int.gcd (ratN n d) (ratL d) : Int)
      · rw [decide_eq_true (congrArg V.int h1)]
        refine iteT ⟨_, rfl, _, rfl, _, _, rfl, rfl, ⟨g0, gb⟩, q _ H (Same.refl H) ?_⟩
        unfold ratD
        rw [if_pos h1]
        exact Dq.int _
      · rw [decide_eq_false (fun z => h1 (V.int.inj z))]
        refine iteF ⟨_, rfl, _, rfl, _, _, rfl, rfl, ⟨g0, gb⟩, _, rfl, _, rfl, _, _, rfl, rfl, ⟨g0, gb⟩, by show 2 ≤ sizeLine; decide, fun t nt => q _ _ (same_upd nt) ?_⟩
        unfold ratD
        rw [if_neg h1]
        exact Dq.tup (.inl (.inl ((nw_at nt).trans upd_same))) (.cons (.int _) (.cons (.int _) .nil))
    refine ⟨.int d, rfl, _, _, rfl, rfl, _, rfl, ite2 (fun e => ?_) (fun e => ?_)⟩
    · have e1 : d < 0 := of_decide_eq_true e
      refine ⟨_, rfl, _, rfl, _, rfl, _, rfl, _, _, rfl, ?_⟩
      refine tail _ _ ?_ ?_
      · unfold ratN
        rw [if_pos e1]
      · unfold ratL
        rw [if_pos e1]
    · have e1 : ¬ d < 0 := fun z => e (decide_eq_true z)
      refine tail _ _ ?_ ?_
      · unfold ratN
        rw [if_neg e1]
      · unfold ratL
        rw [if_neg e1]
end
end K14

set_option Elab.async false
set_option linter.all false
set_option maxRecDepth 100000
set_option maxHeartbeats 4000000
namespace K14
open PySem PySem.Spec PyProof.Rows L2 Lw
section
variable {P : Program} {w : World} {K : PySem.W.Frag} {mg : Str → Option Value} {base : Heap} {f : Addr} {fd : FuncData} {fD fG fI : Addr} {fdD fdG fdI : FuncData}
def isT : PyData → Bool
  | .tuple _ => true
  | _ => false
def isL : PyData → Bool
  | .list _ => true
  | _ => false
def isDc : PyData → Bool
  | .dict _ => true
  | _ => false
def isI : PyData → Bool
  | .int _ => true
  | .bool _ => true
  | _ => false
def isB : PyData → Bool
  | .bool _ => true
  | _ => false
theorem kit_tuple (d : PyData) : kitB (tyD d) "tuple" = some (isT d) := by
  cases d
  all_goals
    simp only [tyD, isT]
    decide +kernel
theorem kit_list (d : PyData) : kitB (tyD d) "list" = some (isL d) := by
  cases d
  all_goals
    simp only [tyD, isL]
    decide +kernel
theorem kit_dict (d : PyData) : kitB (tyD d) "dict" = some (isDc d) := by
  cases d
  all_goals
    simp only [tyD, isDc]
    decide +kernel
theorem kit_int (d : PyData) : kitB (tyD d) "int" = some (isI d) := by
  cases d
  all_goals
    simp only [tyD, isI]
    decide +kernel
theorem kit_bool (d : PyData) : kitB (tyD d) "bool" = some (isB d) := by
  cases d
  all_goals
    simp only [tyD, isB]
    decide +kernel
def intD (d : PyData) : Bool := isI d && !isB d
theorem intD_int {d : PyData} (h : intD d = true) : ∃ i, d = .int i := by
  cases d with
  | int i => exact ⟨i, rfl⟩
  | _ => cases h

/-! ### is_integer, is_whole -/
def sp_int (K : PySem.W.Frag) : Sp := fun vs H Q _ => ∃ (v : V) (d : PyData), vs = [v] ∧ Dq K H v d ∧ Q (.bl (intD d)) H
theorem ok_is_integer (F : FnP K "is_integer" s_is_integer f fd) (T : Tz mg) : FnOk P w K mg base CX0 1 f fd ["value"] (sp_int K) := by
  refine F.ok sc_is_integer (fun vs H Q E h => ?_) (fun cdv A outer s H vs Q E hr h => ?_)
  · obtain ⟨v, d, rfl, _⟩ := h
    rfl
  · obtain ⟨v, d, rfl, hd, q⟩ := h
    refine ⟨_, PSs.nox (pss_one (ps_ret (pe_and (pe_callB call_isi (by rfl) T.z_isinstance (by decide +kernel) (pa_cons (pv 0) (pa_cons (pe_bltn (v := .ty "int") (by rfl) T.z_int (by decide +kernel) rfl) pa_nil))) (pe_one (pe_not (pe_callB call_isi (by rfl) T.z_isinstance (by decide +kernel) (pa_cons (pv 0) (pa_cons (pe_bltn (v := .ty "bool") (by rfl) T.z_bool (by decide +kernel) rfl) pa_nil)))))))), ?_⟩
    refine ⟨v, rfl, v, .ty "int", _, _, _, rfl, .ty _, hd.ty, kit_ty (kit_int d), _, rfl, ite2 (fun e => ?_) (fun e => ?_)⟩
    · refine ⟨v, rfl, v, .ty "bool", _, _, _, rfl, .ty _, hd.ty, kit_ty (kit_bool d), _, rfl, ?_⟩
      unfold intD at q
      rw [e, Bool.true_and] at q
      exact q
    · unfold intD at q
      rw [Bool.eq_false_iff.mpr e, Bool.false_and] at q
      exact q
/-! ### is_number -/
def ratioB : List PyData → Bool
  | [.int n, .int e] => decide (2 ≤ e) && decide (Int.gcd n e = 1)
  | _ => false
def numD : PyData → Bool
  | .tuple ds => ratioB ds
  | d => intD d
theorem ratio_len {ds : List PyData} (h : ds.length ≠ 2) : ratioB ds = false := by
  match ds with
  | [] => rfl
  | [a] => cases a <;> rfl
  | [a, b] => exact absurd rfl h
  | a :: b :: c :: r => cases a <;> cases b <;> rfl
theorem ratio_all {ds : List PyData} (h : ds.all intD = false) : ratioB ds = false := by
  match ds with
  | [] => rfl
  | [a] => cases a <;> rfl
  | [a, b] =>
    cases a <;> cases b <;> first | rfl | (exact Bool.noConfusion (show true = false from h))
  | a :: b :: c :: r => cases a <;> cases b <;> rfl
theorem two_ints {K : PySem.W.Frag} {H : Hp} {vs : List V} {ds : List PyData} (g : DqAll K H vs ds) (hl : ds.length = 2) (ha : ds.all intD = true) : ∃ n e : Int, ds = [.int n, .int e] ∧ vs = [.int n, .int e] := by
  match ds, hl with
  | [a, b], _ =>
    simp only [List.all_cons, List.all_nil, Bool.and_true, Bool.and_eq_true] at ha
    obtain ⟨n, rfl⟩ := intD_int ha.1
    obtain ⟨e, rfl⟩ := intD_int ha.2
    cases g with
    | cons h1 g =>
      cases g with
      | cons h2 g =>
        cases g
        cases h1
        cases h2
        exact ⟨n, e, rfl, rfl⟩
theorem take_map {ds : List PyData} {i : Nat} {d : PyData} {g : PyData → Bool} (h : ds[i]? = some d) : ((ds.take (i + 1)).map g) = ((ds.take i).map g) ++ [g d] := by
  rw [List.take_add_one, h, List.map_append]
  rfl
def Lean_ (d : PyData) : Prop := ∀ ds, d = .tuple ds → ds.length ≤ 900
def sp_num (K : PySem.W.Frag) : Sp := fun vs H Q _ => ∃ (v : V) (d : PyData), vs = [v] ∧ Dq K H v d ∧ Lean_ d ∧ ∀ H', Same H H' → Q (.bl (numD d)) H'
theorem ok_is_number (F : FnP K "is_number" s_is_number f fd) (T : Tz mg) (O_is_integer : Own P w K mg base CX0 1 "is_integer" ["value"] (sp_int K) fI fdI) (O_common_divisor : Own P w K mg base CX0 1 "common_divisor" ["first", "second"] sp_gcd fG fdG) :
    FnOk P w K mg base CX0 2 f fd ["value"] (sp_num K) := by
  refine F.ok sc_is_number (fun vs H Q E h => ?_) (fun cdv A outer s H vs Q E hr h => ?_)
  · obtain ⟨v, d, rfl, _⟩ := h
    rfl
  · obtain ⟨v, d, rfl, hd, hn, q⟩ := h
    refine ⟨_, PSs.nox (pss_cons (ps_if (pt_not (pt_val (pe_callB call_isi (by rfl) T.z_isinstance (by decide +kernel) (pa_cons (pv 0) (pa_cons (pe_bltn (v := .ty "tuple") (by rfl) T.z_tuple (by decide +kernel) rfl) pa_nil))))) (pss_one (ps_ret (pe_own O_is_integer (hr.mono (by first | decide | omega)) (pa_cons (pv 0) pa_nil)))) pss_nil)
      (pss_cons (ps_if (PW.pt (pw_or (pt_cmpR op_ne (pe_callB call_len_seq (by rfl) T.z_len (by decide +kernel) (pa_cons (pv 0) pa_nil)) pe_int (nomark _)) (pw_or1 (pt_not (pt_val (pe_callB (cr_all rfl) (by rfl) T.z_all (by decide +kernel) (pa_cons (pe_lc (own := [("part", 3)]) (g := gName 3) (tt := tYes) rfl sc_is_number.nd (pi_tup (pv 0)) (blkOk_by (own := [("part", 3)]) (N := N_is_number) (sc := defScope s_is_number) (by decide +kernel)) (fun _ _ _ _ _ => pg_name (i := 3) sc_is_number.nd rfl (Or.inl rfl)) (fun _ _ _ _ _ => pts_nil) (fun _ _ _ _ _ => (pe_own O_is_integer (hr.mono (by first | decide | omega)) (pa_cons (pv 3) pa_nil)))) pa_nil))))))) (pss_one (ps_ret pe_bl)) pss_nil)
      (pss_cons (ps_asg (pv 0) (pg_tup rfl (pgs_cons (pg_name (i := 1) sc_is_number.nd rfl (Or.inl rfl)) (pgs_cons (pg_name (i := 2) sc_is_number.nd rfl (Or.inl rfl)) pgs_nil))))
      (pss_one (ps_ret (pe_and (pe_cmpR op_ge (pv 2) pe_int (nomark _)) (pe_one (pe_cmpR op_eq (pe_own O_common_divisor (hr.mono (by first | decide | omega)) (pa_cons (pv 1) (pa_cons (pv 2) pa_nil))) pe_int (nomark _))))))))), ?_⟩
    refine ⟨v, rfl, v, .ty "tuple", _, _, _, rfl, .ty _, hd.ty, kit_ty (kit_tuple d), _, rfl, ?_⟩
    cases hd with
    | @tup a xs ds h g =>
      refine iteF ?_
      have le := dq_len g
      have l9 := hn ds rfl
      refine ⟨.ref a, rfl, a, xs, rfl, .inr h, rfl, _, rfl, ite2 (fun e => ?_) (fun e => ?_)⟩
      · have e2 : ds.length ≠ 2 := fun z => by
          rw [le, z] at e
          exact absurd e (by decide)
        have en : numD (.tuple ds) = false := ratio_len e2
        rw [en] at q
        exact q H (Same.refl H)
      · have e2 : ds.length = 2 := by
          rw [le] at e
          refine Classical.byContradiction fun z => e ?_
          rw [decide_eq_false (fun y => z (by have := V.int.inj y; omega))]
          rfl
        refine ⟨.ref a, rfl, a, rfl, ⟨_, h⟩, fun D nD => ?_⟩
        refine lc_tup (K := K) (a := a) (xs := xs) (fun i H2 => Same H H2 ∧ H2 D = some (.lst (((ds.take i).map intD).map V.bl))) ⟨same_upd nD, upd_same⟩ (fun i H2 _ hp => same_t hp.1 h) ?_ ?_
        · rintro i x H2 hx ⟨s2, e3⟩
          obtain ⟨dx, hdx, dqx⟩ := dq_get g hx
          refine ⟨rfl, x, rfl, x, dx, rfl, dqx.same s2, _, e3, ?_, fun b o eb => ?_, ?_⟩
          · rw [List.length_map, List.length_map, List.length_take]
            exact small1000 (by omega)
          · rw [upd_ne (ne_of_none eb nD)]
            exact s2 _ _ eb
          · rw [upd_same, take_map hdx, List.map_append]
            rfl
        · rintro H2 ⟨s2, e3⟩
          refine ⟨D, _, rfl, .inl (.inl e3), _, rfl, ?_⟩
          rw [List.all_map, List.take_of_length_le (Nat.le_of_eq le.symm)]
          have ei : (ds.all (id ∘ intD)) = ds.all intD := rfl
          rw [ei]
          by_cases ha : ds.all intD = true
          · rw [ha]
            refine iteF ?_
            obtain ⟨n, m, rfl, rfl⟩ := two_ints g e2 ha
            refine ⟨.ref a, rfl, a, _, rfl, same_t s2 h, rfl, _, _, rfl, _, _, rfl, rfl, ?_⟩
            refine ⟨.int m, rfl, _, _, rfl, rfl, _, rfl, ite2 (fun e4 => ?_) (fun e4 => ?_)⟩
            · refine ⟨.int n, rfl, .int m, rfl, n, m, rfl, rfl, ?_⟩
              have en : numD (.tuple [.int n, .int m]) = decide (V.int (Int.gcd n m : Int) = V.int 1) := by
                show (decide (2 ≤ m) && decide (Int.gcd n m = 1)) = _
                rw [e4, Bool.true_and]
                by_cases h1 : Int.gcd n m = 1
                · rw [decide_eq_true h1, decide_eq_true (by rw [h1]; rfl)]
                · rw [decide_eq_false h1, decide_eq_false (fun z => h1 (by have := V.int.inj z; omega))]
              rw [← en]
              exact q H2 s2
            · have en : numD (.tuple [.int n, .int m]) = false := by
                show (decide (2 ≤ m) && decide (Int.gcd n m = 1)) = _
                rw [Bool.eq_false_iff.mpr e4, Bool.false_and]
              rw [en] at q
              exact q H2 s2
          · rw [Bool.eq_false_iff.mpr ha]
            have en : numD (.tuple ds) = false := ratio_all (Bool.eq_false_iff.mpr ha)
            rw [en] at q
            exact iteT (q H2 s2)
    | non => exact ⟨_, rfl, _, _, rfl, .non, q H (Same.refl H)⟩
    | bl b => exact ⟨_, rfl, _, _, rfl, .bl b, q H (Same.refl H)⟩
    | int i => exact ⟨_, rfl, _, _, rfl, .int i, q H (Same.refl H)⟩
    | str z => exact ⟨_, rfl, _, _, rfl, .str z, q H (Same.refl H)⟩
    | lst h g => exact ⟨_, rfl, _, _, rfl, .lst h g, q H (Same.refl H)⟩
    | dic h => exact ⟨_, rfl, _, _, rfl, .dic h, q H (Same.refl H)⟩
end
end K14

set_option Elab.async false
set_option linter.all false
set_option maxRecDepth 100000
set_option maxHeartbeats 4000000
namespace K14
open PySem PySem.Spec PyProof.Rows L2 Lw
section
variable {P : Program} {w : World} {K : PySem.W.Frag} {mg : Str → Option Value} {base : Heap} {f : Addr} {fd : FuncData} {fD fG fI : Addr} {fdD fdG fdI : FuncData}

/-! ### whole -/
theorem ok_is_ratio (F : FnP K "_law_is_ratio" s_is_ratio f fd) (T : Tz mg) (O_common : Own P w K mg base CX0 1 "_law_common" ["_law_a", "_law_b"] sp_gcd fG fdG) : FnOk P w K mg base CX0 2 f fd ["_law_thing"] (sp_num K) := by
  refine F.ok sc_is_ratio (fun vs H Q E h => ?_) (fun cdv A outer s H vs Q E hr h => ?_)
  · obtain ⟨v, d, rfl, _⟩ := h
    rfl
  · obtain ⟨v, d, rfl, hd, hn, q⟩ := h
    refine ⟨_, PSs.nox (pss_cons (ps_if (pt_val (pe_callB call_isi (by rfl) T.z_isinstance (by decide +kernel) (pa_cons (pv 0) (pa_cons (pe_bltn (v := .ty "int") (by rfl) T.z_int (by decide +kernel) rfl) pa_nil)))) (pss_one (ps_ret (pe_not (pe_callB call_isi (by rfl) T.z_isinstance (by decide +kernel) (pa_cons (pv 0) (pa_cons (pe_bltn (v := .ty "bool") (by rfl) T.z_bool (by decide +kernel) rfl) pa_nil)))))) pss_nil)
      (pss_cons (ps_if (PW.pt (pw_or (pt_not (pt_val (pe_callB call_isi (by rfl) T.z_isinstance (by decide +kernel) (pa_cons (pv 0) (pa_cons (pe_bltn (v := .ty "tuple") (by rfl) T.z_tuple (by decide +kernel) rfl) pa_nil))))) (pw_or1 (pt_cmpR op_ne (pe_callB call_len_seq (by rfl) T.z_len (by decide +kernel) (pa_cons (pv 0) pa_nil)) pe_int (nomark _))))) (pss_one (ps_ret pe_bl)) pss_nil)
      (pss_cons (ps_if (pt_not (pt_val (pe_callB (cr_all rfl) (by rfl) T.z_all (by decide +kernel) (pa_cons (pe_lc (own := [("_law_part", 1)]) (g := gName 1) (tt := tYes) rfl sc_is_ratio.nd (pi_tup (pv 0)) (blkOk_by (own := [("_law_part", 1)]) (N := N_is_ratio) (sc := defScope s_is_ratio) (by decide +kernel)) (fun _ _ _ _ _ => pg_name (i := 1) sc_is_ratio.nd rfl (Or.inl rfl)) (fun _ _ _ _ _ => pts_nil) (fun _ _ _ _ _ => (pe_and (pe_callB (show CallR _ _ (rIsi K) from call_isi) (by rfl) T.z_isinstance (by decide +kernel) (pa_cons (pv 1) (pa_cons (pe_bltn (v := .ty "int") (by rfl) T.z_int (by decide +kernel) rfl) pa_nil))) (pe_one (pe_not (pe_callB (show CallR _ _ (rIsi K) from call_isi) (by rfl) T.z_isinstance (by decide +kernel) (pa_cons (pv 1) (pa_cons (pe_bltn (v := .ty "bool") (by rfl) T.z_bool (by decide +kernel) rfl) pa_nil)))))))) pa_nil)))) (pss_one (ps_ret pe_bl)) pss_nil)
      (pss_one (ps_ret (pe_and (pe_cmpR op_gt (pe_ix ix_tup (pv 0) pe_int (fun _ _ => rfl)) pe_int (nomark _)) (pe_one (pe_cmpR op_eq (pe_own O_common (hr.mono (by first | decide | omega)) (pa_cons (pe_ix ix_tup (pv 0) pe_int (fun _ _ => rfl)) (pa_cons (pe_ix ix_tup (pv 0) pe_int (fun _ _ => rfl)) pa_nil))) pe_int (nomark _))))))))), ?_⟩
    refine ⟨v, rfl, v, .ty "int", _, _, _, rfl, .ty _, hd.ty, kit_ty (kit_int d), _, rfl, ?_⟩
    have other : isI d = false → numD d = ratioB (match d with | .tuple ds => ds | _ => []) := by
      intro z
      cases d <;> first | rfl | cases z
    by_cases hi : isI d = true
    · rw [hi]
      refine ⟨v, rfl, v, .ty "bool", _, _, _, rfl, .ty _, hd.ty, kit_ty (kit_bool d), _, rfl, ?_⟩
      have en : numD d = !isB d := by
        cases d <;> first | rfl | cases hi
      rw [en] at q
      exact q H (Same.refl H)
    · have hi0 : isI d = false := Bool.eq_false_iff.mpr hi
      rw [hi0]
      refine ⟨v, rfl, v, .ty "tuple", _, _, _, rfl, .ty _, hd.ty, kit_ty (kit_tuple d), _, rfl, ?_⟩
      cases hd with
      | @tup a xs ds h g =>
        have le := dq_len g
        have l9 := hn ds rfl
        refine ⟨.ref a, rfl, a, xs, rfl, .inr h, rfl, _, rfl, ite2 (fun e => ?_) (fun e => ?_)⟩
        · have e2 : ds.length ≠ 2 := fun z => by
            rw [le, z] at e
            exact absurd e (by decide)
          have en : numD (.tuple ds) = false := ratio_len e2
          rw [en] at q
          exact q H (Same.refl H)
        · have e2 : ds.length = 2 := by
            rw [le] at e
            refine Classical.byContradiction fun z => e ?_
            rw [decide_eq_false (fun y => z (by have := V.int.inj y; omega))]
            rfl
          refine ⟨.ref a, rfl, a, rfl, ⟨_, h⟩, fun D nD => ?_⟩
          refine lc_tup (K := K) (a := a) (xs := xs) (fun i H2 => Same H H2 ∧ H2 D = some (.lst (((ds.take i).map intD).map V.bl))) ⟨same_upd nD, upd_same⟩ (fun i H2 _ hp => same_t hp.1 h) ?_ ?_
          · rintro i x H2 hx ⟨s2, e3⟩
            obtain ⟨dx, hdx, dqx⟩ := dq_get g hx
            have fin : ∃ acc, H2 D = some (.lst acc) ∧ acc.length < sizeLine ∧ (fun i H2 => Same H H2 ∧ H2 D = some (.lst (((ds.take i).map intD).map V.bl))) (i + 1) (upd H2 D (.lst (acc ++ [.bl (intD dx)]))) := by
              refine ⟨_, e3, ?_, fun b o eb => ?_, ?_⟩
              · rw [List.length_map, List.length_map, List.length_take]
                exact small1000 (by omega)
              · rw [upd_ne (ne_of_none eb nD)]
                exact s2 _ _ eb
              · rw [upd_same, take_map hdx, List.map_append]
                rfl
            refine ⟨rfl, x, rfl, x, .ty "int", _, _, _, rfl, .ty _, (dqx.same s2).ty, kit_ty (kit_int dx), _, rfl, ite2 (fun e4 => ?_) (fun e4 => ?_)⟩
            · refine ⟨x, rfl, x, .ty "bool", _, _, _, rfl, .ty _, (dqx.same s2).ty, kit_ty (kit_bool dx), _, rfl, ?_⟩
              have en : intD dx = !isB dx := by
                unfold intD
                rw [e4, Bool.true_and]
              rw [en] at fin
              exact fin
            · have en : intD dx = false := by
                unfold intD
                rw [Bool.eq_false_iff.mpr e4, Bool.false_and]
              rw [en] at fin
              exact fin
          · rintro H2 ⟨s2, e3⟩
            refine ⟨D, _, rfl, .inl (.inl e3), _, rfl, ?_⟩
            rw [List.all_map, List.take_of_length_le (Nat.le_of_eq le.symm)]
            have ei : (ds.all (id ∘ intD)) = ds.all intD := rfl
            rw [ei]
            by_cases ha : ds.all intD = true
            · rw [ha]
              refine iteF ?_
              obtain ⟨n, m, rfl, rfl⟩ := two_ints g e2 ha
              have h2 := same_t s2 h
              refine ⟨.ref a, rfl, a, _, 1, .int m, rfl, rfl, h2, rfl, _, _, rfl, rfl, _, rfl, ite2 (fun e4 => ?_) (fun e4 => ?_)⟩
              · refine ⟨.ref a, rfl, a, _, 0, .int n, rfl, rfl, h2, rfl, .ref a, rfl, a, _, 1, .int m, rfl, rfl, h2, rfl, n, m, rfl, rfl, ?_⟩
                have e5 : (1 : Int) < m := of_decide_eq_true e4
                have en : numD (.tuple [.int n, .int m]) = decide (V.int (Int.gcd n m : Int) = V.int 1) := by
                  show (decide (2 ≤ m) && decide (Int.gcd n m = 1)) = _
                  rw [decide_eq_true (show (2 : Int) ≤ m by omega), Bool.true_and]
                  by_cases h1 : Int.gcd n m = 1
                  · rw [decide_eq_true h1, decide_eq_true (by rw [h1]; rfl)]
                  · rw [decide_eq_false h1, decide_eq_false (fun z => h1 (by have := V.int.inj z; omega))]
                rw [← en]
                exact q H2 s2
              · have e5 : ¬ (1 : Int) < m := fun z => e4 (decide_eq_true z)
                have en : numD (.tuple [.int n, .int m]) = false := by
                  show (decide (2 ≤ m) && decide (Int.gcd n m = 1)) = _
                  rw [decide_eq_false (show ¬ (2 : Int) ≤ m by omega), Bool.false_and]
                rw [en] at q
                exact q H2 s2
            · rw [Bool.eq_false_iff.mpr ha]
              have en : numD (.tuple ds) = false := ratio_all (Bool.eq_false_iff.mpr ha)
              rw [en] at q
              exact iteT (q H2 s2)
      | bl b => exact absurd rfl hi
      | int i => exact absurd rfl hi
      | non => exact q H (Same.refl H)
      | str z => exact q H (Same.refl H)
      | lst h g => exact q H (Same.refl H)
      | dic h => exact q H (Same.refl H)

/-! ### kept -/
def sp_kept (K : PySem.W.Frag) : Nat → Sp
  | 0 => fun _ _ _ _ => False
  | n + 1 => fun vs H Q _ => ∃ (v : V) (d : PyData), vs = [v] ∧ Dq K H v d ∧ d.depth ≤ n ∧ slim d = true ∧ ∀ v' H', Same H H' → Fresh K H H' v' d → Q v' H'
theorem ok_kept (F : FnP K "kept" s_kept f fd) (T : Tz mg) (m : mg "kept" = some (.ref f)) : ∀ n, FnOk P w K mg base CX0 (n + 1) f fd ["value"] (sp_kept K n)
  | 0 => ⟨fun _ _ _ _ h => h.elim, fun _ _ _ _ _ _ _ _ _ _ _ _ _ h => h.elim⟩
  | n + 1 => by
    have O_kept : Own P w K mg base CX0 (n + 1) "kept" ["value"] (sp_kept K n) f fd := ⟨ok_kept F T m n, m, F.kp, F.bindsN fun _ _ _ _ _ _ us hl => match us, hl with | [_], _ => rfl⟩
    refine F.ok sc_kept (fun vs H Q E h => ?_) (fun cdv A outer s H vs Q E hr h => ?_)
    · obtain ⟨v, d, rfl, _⟩ := h
      rfl
    · obtain ⟨v, d, rfl, hd, hdp, hsl, q⟩ := h
      refine ⟨_, PSs.nox (pss_cons (ps_if (pt_val (pe_callB call_isi (by rfl) T.z_isinstance (by decide +kernel) (pa_cons (pv 0) (pa_cons (pe_bltn (v := .ty "list") (by rfl) T.z_list (by decide +kernel) rfl) pa_nil)))) (pss_one (ps_ret (pe_lc (own := [("item", 2)]) (g := gName 2) (tt := tYes) rfl sc_kept.nd (pi_list (pv 0)) (blkOk_by (own := [("item", 2)]) (N := N_kept) (sc := defScope s_kept) (by decide +kernel)) (fun _ _ _ _ _ => pg_name (i := 2) sc_kept.nd rfl (Or.inl rfl)) (fun _ _ _ _ _ => pts_nil) (fun _ _ _ _ _ => (pe_own O_kept (hr.mono (by first | decide | omega)) (pa_cons (pv 2) pa_nil)))))) pss_nil)
      (pss_cons (ps_if (pt_val (pe_callB call_isi (by rfl) T.z_isinstance (by decide +kernel) (pa_cons (pv 0) (pa_cons (pe_bltn (v := .ty "tuple") (by rfl) T.z_tuple (by decide +kernel) rfl) pa_nil)))) (pss_one (ps_ret (pe_callTy call_tuple_of (by rfl) T.z_tuple (by decide +kernel) (pa_cons (pe_lc (own := [("item", 2)]) (g := gName 2) (tt := tYes) rfl sc_kept.nd (pi_tup (pv 0)) (blkOk_by (own := [("item", 2)]) (N := N_kept) (sc := defScope s_kept) (by decide +kernel)) (fun _ _ _ _ _ => pg_name (i := 2) sc_kept.nd rfl (Or.inl rfl)) (fun _ _ _ _ _ => pts_nil) (fun _ _ _ _ _ => (pe_own O_kept (hr.mono (by first | decide | omega)) (pa_cons (pv 2) pa_nil)))) pa_nil)))) pss_nil)
      (pss_cons (ps_if (pt_val (pe_callB call_isi (by rfl) T.z_isinstance (by decide +kernel) (pa_cons (pv 0) (pa_cons (pe_bltn (v := .ty "dict") (by rfl) T.z_dict (by decide +kernel) rfl) pa_nil)))) (pss_one (ps_ret (pe_lock (pe_dc (own := [("key", 1)]) (g := gName 1) (tt := tYes) rfl sc_kept.nd (pi_keys (pv 0)) (blkOk_by (own := [("key", 1)]) (N := N_kept) (sc := defScope s_kept) (by decide +kernel)) (fun _ _ _ _ _ => pg_name (i := 1) sc_kept.nd rfl (Or.inl rfl)) (fun _ _ _ _ _ => pts_nil) (fun _ _ _ _ _ => (pv 1)) (fun _ _ _ _ _ => (pe_own O_kept (hr.mono (by first | decide | omega)) (pa_cons (pe_dget (hu_of hr) (pv 0) (pv 1) (fun _ _ => rfl)) pa_nil))))))) pss_nil)
      (pss_one (ps_ret (pv 0)))))), ?_⟩
      refine ⟨v, rfl, v, .ty "list", _, _, _, rfl, .ty _, hd.ty, kit_ty (kit_list d), _, rfl, ?_⟩
      -- what a comprehension over items keeps
      have turn : ∀ {xs : List V} {ds : List PyData} {D : Addr} {i : Nat} {x : V} {H2 : Hp} {R : V → Hp → Prop}, DqAll K H xs ds → PyData.depthAll ds < n → slimAll ds = true → ds.length ≤ 900 → H D = none → xs[i]? = some x →
          (Same H H2 ∧ ∃ ws, H2 D = some (.lst ws) ∧ ws.length = i ∧ DqAll K (nw (upd H D (.lst [])) H2) ws (ds.take i)) →
          (∀ y H4, (∃ acc, H4 D = some (.lst acc) ∧ acc.length < sizeLine ∧ (Same H (upd H4 D (.lst (acc ++ [y]))) ∧ ∃ ws, (upd H4 D (.lst (acc ++ [y]))) D = some (.lst ws) ∧ ws.length = i + 1 ∧ DqAll K (nw (upd H D (.lst [])) (upd H4 D (.lst (acc ++ [y])))) ws (ds.take (i + 1)))) → R y H4) →
          sp_kept K n [x] H2 R E0 := by
        intro xs ds D i x H2 R g hdep hsa hlen nD hx ⟨s2, ws, e2, l2, g2⟩ k
        obtain ⟨dx, hdx, dqx⟩ := dq_get g hx
        have hmem : dx ∈ ds := List.mem_of_getElem? hdx
        have hil : i < ds.length := (List.getElem?_eq_some_iff.mp hdx).1
        cases n with
        | zero => omega
        | succ n' =>
          refine ⟨x, dx, rfl, dqx.same s2, ?_, slim_at hsa hmem, fun v' H4 s4 fr => k v' H4 ⟨ws, s4 _ _ e2, ?_, fun b o e => ?_, ws ++ [v'], upd_same, ?_, ?_⟩⟩
          · have := depth_at hmem
            omega
          · rw [l2]
            exact small1000 (by omega)
          · rw [upd_ne (ne_of_none e nD)]
            exact s4 _ _ (s2 _ _ e)
          · rw [List.length_append, l2]
            rfl
          · have hB : ∀ b, H2 b = none → upd H D (.lst []) b = none := fun b hb => by
              have nb : b ≠ D := fun e => by
                rw [e, e2] at hb
                cases hb
              rw [upd_ne nb]
              exact s2.free hb
            have a1 : Same (nw (upd H D (.lst [])) H2) (nw (upd H D (.lst [])) (upd H4 D (.lst (ws ++ [v'])))) := nw_mono (fun _ e => e) fun b o h1 h2 => by
              have nb : b ≠ D := fun e => by
                rw [e, upd_same] at h1
                cases h1
              rw [upd_ne nb]
              exact s4 _ _ h2
            have a2 : Same (nw H2 H4) (nw (upd H D (.lst [])) (upd H4 D (.lst (ws ++ [v'])))) := nw_mono hB fun b o h1 h2 => by
              have nb : b ≠ D := fun e => by
                rw [e, e2] at h1
                cases h1
              rw [upd_ne nb]
              exact h2
            rw [List.take_add_one, hdx]
            exact dqall_snoc (DqAll.same a1 g2) (Dq.same a2 fr)
      have start : ∀ {ds : List PyData} {D : Addr}, H D = none → (Same H (upd H D (.lst [])) ∧ ∃ ws, (upd H D (.lst [])) D = some (.lst ws) ∧ ws.length = 0 ∧ DqAll K (nw (upd H D (.lst [])) (upd H D (.lst []))) ws (ds.take 0)) :=
        fun nD => ⟨same_upd nD, [], upd_same, rfl, .nil⟩
      have base_ : ∀ {D : Addr} {H2 : Hp}, H D = none → Same (nw (upd H D (.lst [])) H2) (nw H H2) := fun {D H2} nD => nw_mono (fun b e => (same_upd nD).free e) fun _ _ _ e => e
      cases hd with
      | @lst a xs ds h g =>
        refine ⟨.ref a, rfl, a, rfl, ⟨_, h⟩, fun D nD => ?_⟩
        have h1 : slim (.list ds) = (decide (ds.length ≤ 900) && slimAll ds) := by simp only [slim]
        rw [h1, Bool.and_eq_true] at hsl
        have l9 : ds.length ≤ 900 := of_decide_eq_true hsl.1
        have hdep : PyData.depthAll ds < n := by
          simp only [PyData.depth] at hdp
          omega
        have le := dq_len g
        refine lc_list (K := K) (a := a) (xs := xs) (fun i H2 => Same H H2 ∧ ∃ ws, H2 D = some (.lst ws) ∧ ws.length = i ∧ DqAll K (nw (upd H D (.lst [])) H2) ws (ds.take i)) (start nD) (fun i H2 _ hp => hp.1.seq h) ?_ ?_
        · intro i x H2 hx hp
          exact ⟨rfl, x, rfl, turn g hdep hsl.2 l9 nD hx hp fun y H4 z => z⟩
        · rintro H2 ⟨s2, ws, e2, l2, g2⟩
          refine q _ H2 s2 (Dq.lst (.inl (.inl ((nw_at nD).trans e2))) ?_)
          rw [List.take_of_length_le (Nat.le_of_eq le.symm)] at g2
          exact DqAll.same (base_ nD) g2
      | @tup a xs ds h g =>
        refine iteF ?_
        refine ⟨.ref a, rfl, .ref a, .ty "tuple", _, _, _, rfl, .ty _, (Dq.tup h g).ty, kit_ty (kit_tuple (.tuple ds)), _, rfl, ?_⟩
        refine ⟨.ref a, rfl, a, rfl, ⟨_, h⟩, fun D nD => ?_⟩
        have h1 : slim (.tuple ds) = (decide (ds.length ≤ 900) && slimAll ds) := by simp only [slim]
        rw [h1, Bool.and_eq_true] at hsl
        have l9 : ds.length ≤ 900 := of_decide_eq_true hsl.1
        have hdep : PyData.depthAll ds < n := by
          simp only [PyData.depth] at hdp
          omega
        have le := dq_len g
        refine lc_tup (K := K) (a := a) (xs := xs) (fun i H2 => Same H H2 ∧ ∃ ws, H2 D = some (.lst ws) ∧ ws.length = i ∧ DqAll K (nw (upd H D (.lst [])) H2) ws (ds.take i)) (start nD) (fun i H2 _ hp => same_t hp.1 h) ?_ ?_
        · intro i x H2 hx hp
          exact ⟨rfl, x, rfl, turn g hdep hsl.2 l9 nD hx hp fun y H4 z => z⟩
        · rintro H2 ⟨s2, ws, e2, l2, g2⟩
          refine ⟨D, ws, rfl, .inl ⟨.inl (.inl e2), fun t nt => ?_⟩⟩
          have nHt : H t = none := s2.free nt
          refine q _ _ (s2.trans (same_upd nt)) (Dq.tup (.inl (.inl ((nw_at nHt).trans upd_same))) ?_)
          rw [List.take_of_length_le (Nat.le_of_eq le.symm)] at g2
          exact DqAll.same ((base_ nD).trans (nw_mono (fun _ e => e) fun b o _ e => same_upd nt _ _ e)) g2
      | @dic a h =>
        refine iteF ?_
        refine ⟨.ref a, rfl, .ref a, .ty "tuple", _, _, _, rfl, .ty _, (Dq.dic h).ty, kit_ty (kit_tuple (.dict [])), _, rfl, iteF ?_⟩
        refine ⟨.ref a, rfl, .ref a, .ty "dict", _, _, _, rfl, .ty _, (Dq.dic h).ty, kit_ty (kit_dict (.dict [])), _, rfl, ?_⟩
        refine ⟨a, .dK [], h, trivial, fun od => ?_⟩
        refine ⟨.ref a, rfl, a, od, rfl, .inl ⟨[], upd_same, fun D nD => ?_⟩⟩
        have nDa : D ≠ a := fun e => by
          rw [e, upd_same] at nD
          cases nD
        have nHD : H D = none := by
          rw [upd_ne nDa] at nD
          exact nD
        refine ⟨fun i m H2 => H2 = upd (upd H a (.frz od (.dK []))) D (.dK []), ⟨0, rfl⟩, ?_⟩
        rintro i m H2 rfl
        refine .inl ⟨⟨?_, Nat.zero_le _⟩, ?_, ?_⟩
        · rw [upd_ne nDa.symm, upd_same]
        · rw [upd_ne nDa.symm, upd_same]
        · refine q _ _ (fun b o e => ?_) (Dq.dic ?_)
          · by_cases hb : b = a
            · subst hb
              rw [upd_same]
              rw [h] at e
              exact e
            · rw [upd_ne hb, upd_ne (ne_of_none e nHD), upd_ne hb]
              exact e
          · rw [nw_at nHD, upd_ne nDa, upd_same]
      | non => exact ⟨_, rfl, _, .ty "tuple", _, _, _, rfl, .ty _, Dq.ty .non, kit_ty (kit_tuple .none), _, rfl, _, rfl, _, .ty "dict", _, _, _, rfl, .ty _, Dq.ty .non, kit_ty (kit_dict .none), _, rfl, _, rfl, q _ H (Same.refl H) Dq.non⟩
      | bl b => exact ⟨_, rfl, _, .ty "tuple", _, _, _, rfl, .ty _, Dq.ty (.bl b), kit_ty (kit_tuple (.bool b)), _, rfl, _, rfl, _, .ty "dict", _, _, _, rfl, .ty _, Dq.ty (.bl b), kit_ty (kit_dict (.bool b)), _, rfl, _, rfl, q _ H (Same.refl H) (Dq.bl b)⟩
      | int i => exact ⟨_, rfl, _, .ty "tuple", _, _, _, rfl, .ty _, Dq.ty (.int i), kit_ty (kit_tuple (.int i)), _, rfl, _, rfl, _, .ty "dict", _, _, _, rfl, .ty _, Dq.ty (.int i), kit_ty (kit_dict (.int i)), _, rfl, _, rfl, q _ H (Same.refl H) (Dq.int i)⟩
      | str z => exact ⟨_, rfl, _, .ty "tuple", _, _, _, rfl, .ty _, Dq.ty (.str z), kit_ty (kit_tuple (.str z)), _, rfl, _, rfl, _, .ty "dict", _, _, _, rfl, .ty _, Dq.ty (.str z), kit_ty (kit_dict (.str z)), _, rfl, _, rfl, q _ H (Same.refl H) (Dq.str z)⟩
end
end K14

set_option Elab.async false
set_option linter.all false
set_option maxRecDepth 100000
set_option maxHeartbeats 4000000
namespace K14
open PySem PySem.Spec PyProof.Rows L2 Lw
abbrev s_ini : Stmt := inClass (topS 3) 0
abbrev W_ini : IniW := ⟨"__init__", "InvalidNumber.__init__", defArgs s_ini, defBody s_ini, defScope s_ini⟩
abbrev N_ini : List Str := ["self", "value", "__class__"]
theorem sc_ini : NdefX.NScope N_ini ["self", "value"] ["__class__"] (defScope s_ini) := NdefX.nscope_by (by decide +kernel)
section
variable {P : Program} {w : World} {K : PySem.W.Frag} {mg : Str → Option Value} {base : Heap} {f : Addr} {fd : FuncData} {fK fI fL fW fR : Addr} {fdK fdI fdL fdW fdR : FuncData} {C cc cda : Addr}
/-! ### init -/
def sp_ini (K : PySem.W.Frag) (C : Addr) (n : Nat) : Sp := fun vs H Q _ => ∃ (a : Addr) (v : V) (d : PyData), vs = [.ref a, v] ∧ H a = some (exo a C none) ∧ Dq K H v d ∧ d.depth ≤ n ∧ slim d = true ∧
  ∀ v' H' dx, Same H H' → Fresh K H H' v' d → H' dx = none → dx ≠ a → Q .non (upd (upd H' dx (exd dx [("value", v')])) a (exo a C (some dx)))
theorem ok_ini {n : Nat} (T : ExcK K C (tlOf "ValueError") "ValueError.__new__") (S : IniK P K mg W_ini f cc cda C "ValueError" "ValueError.__init__") (hno : PySem.W.findIn K (.ref C) "value" = some none)
    (hfd : ∃ (oc : Value) (od : Option Addr) (osl : Array (Option Value)), K.lookup f = some ⟨oc, od, .func fd, osl⟩) (O_kept : Own P w K mg base CX0 (n + 2) "kept" ["value"] (sp_kept K (n + 1)) fK fdK) :
    FnOk P w K mg base CX0 (n + 3) f fd ["self", "value"] (sp_ini K C n) := by
  refine ini_ok (N := N_ini) exb_V T S rfl sc_ini rfl (fun vs H Q E h => ?_) (fun vs H Q E h => ?_) (fun L => ⟨_, rfl⟩) (fun A outer s H vs Q E hr h => ?_) hfd
  · obtain ⟨a, v, d, rfl, _⟩ := h
    rfl
  · obtain ⟨a, v, d, rfl, ha, _⟩ := h
    exact ⟨a, rfl, ha⟩
  · obtain ⟨a, v, d, rfl, ha, hd, hdp, hsl, q⟩ := h
    refine ⟨_, pss_one (ps_ostB exb_V (pv 0) (pe_own O_kept hr (pa_cons (pv 1) pa_nil))), ?_⟩
    refine ⟨v, rfl, v, d, rfl, hd, hdp, hsl, fun v' H' s' fr => ?_⟩
    exact ⟨.ref a, rfl, a, C, rfl, T, hno, s' _ _ ha, fun dx nd ne => q v' H' dx s' fr nd ne⟩

/-- InvalidNumber with the value d leaves -/
def Out (K : PySem.W.Frag) (C : Addr) (H : Hp) (d : PyData) (E : XK) : Prop := ∀ v' dx H', Same H H' → H dx = none → H' dx = some (.xd [("value", v')]) → Fresh K H H' v' d → E (.ref C) (some dx) H'
/-- what a raise of InvalidNumber asks -/
theorem raise_it {n : Nat} {H : Hp} {v : V} {d : PyData} {E : XK} (hd : Dq K H v d) (hdp : d.depth ≤ n) (hsl : slim d = true) (o : Out K C H d E) : [v].length ≤ 1000 ∧ ∀ a, H a = none → sp_ini K C n (.ref a :: ([v] ++ [])) (upd H a (exo a C none))
    (fun u H2 => u = .non ∧ ∃ (dd : Addr) (fs : List (Str × V)), H2 a = some (exo a C (some dd)) ∧ H2 dd = some (exd dd fs) ∧ H dd = none ∧ E (.ref C) (some dd) (upd (del H2 a) dd (.xd fs))) (fun _ _ _ => False) := by
  refine ⟨by show 1 ≤ 1000; decide, fun a na => ⟨a, v, d, rfl, upd_same, hd.same (same_upd na), hdp, hsl, fun v' H' dx s' fr nd ne => ⟨rfl, dx, [("value", v')], upd_same, ?_, ?_, ?_⟩⟩⟩
  · rw [upd_ne ne, upd_same]
  · exact (same_upd na).free (s'.free nd)
  · have nHd : H dx = none := (same_upd na).free (s'.free nd)
    refine o v' dx _ (fun b x e => ?_) nHd upd_same (Dq.same (nw_mono (fun b e => (same_upd na).free e) fun b x h1 h2 => ?_) fr)
    · have ba : b ≠ a := ne_of_none e na
      have bd : b ≠ dx := ne_of_none e nHd
      rw [upd_ne bd, del_ne ba, upd_ne ba, upd_ne bd]
      exact s' _ _ (same_upd na _ _ e)
    · have ba : b ≠ a := fun e => by
        rw [e, upd_same] at h1
        cases h1
      have bd : b ≠ dx := ne_of_none h2 nd
      rw [upd_ne bd, del_ne ba, upd_ne ba, upd_ne bd]
      exact h2

end
end K14

set_option Elab.async false
set_option linter.all false
set_option maxRecDepth 100000
set_option maxHeartbeats 4000000
namespace K14
open PySem PySem.Spec PyProof.Rows L2 Lw
/-! ### numbers as rationals -/
theorem rz {e : Int} (h : e ≠ 0) : (e : Rat) ≠ 0 := fun z => h (Rat.intCast_inj.mp z)
def ofR (q : Rat) : PyData := if q.den = 1 then .int q.num else .tuple [.int q.num, .int (q.den : Int)]
theorem ofR_num (q : Rat) : numD (ofR q) = true := by
  unfold ofR
  split
  · rfl
  · rename_i h
    have h1 := q.reduced
    have h2 := q.den_nz
    show (decide (2 ≤ (q.den : Int)) && decide (Int.gcd q.num (q.den : Int) = 1)) = true
    rw [Bool.and_eq_true, decide_eq_true_eq, decide_eq_true_eq]
    exact ⟨by omega, h1⟩
theorem den_pos (q : Rat) : (0 : Int) < q.den := by
  have := q.den_nz
  omega
theorem den_ne (q : Rat) : (q.den : Int) ≠ 0 := by
  have := q.den_nz
  omega
theorem q_eq (q : Rat) : q = (q.num : Rat) / ((q.den : Int) : Rat) := by
  have e : q = mkRat q.num q.den := by
    conv => lhs; rw [show q = ⟨q.num, q.den, q.den_nz, q.reduced⟩ from rfl]
    exact Rat.mk_eq_mkRat q.num q.den q.den_nz q.reduced
  have e2 := Rat.mkRat_eq_div q.num q.den
  rw [← e] at e2
  exact e2
theorem q_of {n e : Int} (h : 0 < e) (c : Int.gcd n e = 1) : ((n : Rat) / (e : Rat)).num = n ∧ (((n : Rat) / (e : Rat)).den : Int) = e := by
  have h1 : e.toNat ≠ 0 := by omega
  have h2 : n.natAbs.Coprime e.toNat := by
    have : e.natAbs = e.toNat := by omega
    unfold Nat.Coprime
    rw [← this]
    exact c
  have e1 := (Rat.mk_eq_mkRat n e.toNat h1 h2).trans (Rat.mkRat_eq_div n e.toNat)
  have e2 : ((e.toNat : Nat) : Rat) = (e : Rat) := by
    have : ((e.toNat : Int) : Rat) = (e : Rat) := by rw [Int.toNat_of_nonneg (by omega)]
    exact this
  rw [e2] at e1
  rw [← e1]
  exact ⟨rfl, Int.toNat_of_nonneg (by omega)⟩
theorem ofR_div {n e : Int} (h : 0 < e) (c : Int.gcd n e = 1) : ofR ((n : Rat) / (e : Rat)) = if e = 1 then .int n else .tuple [.int n, .int e] := by
  obtain ⟨h1, h2⟩ := q_of h c
  unfold ofR
  by_cases z : e = 1
  · rw [if_pos (by omega), if_pos z, h1]
  · rw [if_neg (by omega), if_neg z, h1, h2]
theorem low_parts {n d : Int} (h : d ≠ 0) : ∃ x y c : Int, c ≠ 0 ∧ 0 < y ∧ Int.gcd x y = 1 ∧ n = c * x ∧ d = c * y ∧ n.fdiv (lowC n d) = x ∧ d.fdiv (lowC n d) = y := by
  have hp := gcd_pos (n := n) h
  obtain ⟨x, hx⟩ := Int.gcd_dvd_left n d
  obtain ⟨y, hy⟩ := Int.gcd_dvd_right n d
  generalize hG : (Int.gcd n d : Int) = G at hx hy
  have hg : Int.gcd x y = 1 := by
    have e : Int.gcd n d = Int.gcd (G * x) (G * y) := by rw [← hx, ← hy]
    rw [Int.gcd_mul_left] at e
    have e2 : G.natAbs = Int.gcd n d := by omega
    have e3 : Int.gcd n d * 1 = Int.gcd n d * Int.gcd x y := by
      rw [Nat.mul_one]
      conv => lhs; rw [e]
      rw [e2]
    exact (Nat.eq_of_mul_eq_mul_left (by omega) e3).symm
  have hy0 : y ≠ 0 := by
    rintro rfl
    rw [Int.mul_zero] at hy
    exact h hy
  by_cases hd : d < 0
  · have yn : y < 0 := by
      rcases Int.lt_trichotomy y 0 with q | q | q
      · exact q
      · exact absurd q hy0
      · have := Int.mul_pos (show 0 < G by omega) q
        omega
    have eC : lowC n d = -G := by
      unfold lowC
      rw [if_pos hd, hG]
    refine ⟨-x, -y, -G, by omega, by omega, by rw [Int.gcd_neg, Int.neg_gcd]; exact hg, by rw [hx]; grind, by rw [hy]; grind, ?_, ?_⟩
    · rw [eC, show n = (-G) * (-x) by rw [hx]; grind]
      exact Int.mul_fdiv_cancel_left _ (by omega)
    · rw [eC, show d = (-G) * (-y) by rw [hy]; grind]
      exact Int.mul_fdiv_cancel_left _ (by omega)
  · have yp : 0 < y := by
      rcases Int.lt_trichotomy y 0 with q | q | q
      · have := Int.mul_neg_of_pos_of_neg (show 0 < G by omega) q
        omega
      · exact absurd q hy0
      · exact q
    have eC : lowC n d = G := by
      unfold lowC
      rw [if_neg hd, hG]
    refine ⟨x, y, G, by omega, yp, hg, hx, hy, ?_, ?_⟩
    · rw [eC]
      conv => lhs; rw [hx]
      exact Int.mul_fdiv_cancel_left _ (by omega)
    · rw [eC]
      conv => lhs; rw [hy]
      exact Int.mul_fdiv_cancel_left _ (by omega)
theorem low_ofR {n d : Int} (h : d ≠ 0) : lowD n d = ofR ((n : Rat) / (d : Rat)) := by
  obtain ⟨x, y, c, hc, hy, hg, e1, e2, f1, f2⟩ := low_parts (n := n) h
  have e : (n : Rat) / (d : Rat) = (x : Rat) / (y : Rat) := by
    rw [e1, e2, Rat.intCast_mul, Rat.intCast_mul]
    have := rz hc
    have : (y : Rat) ≠ 0 := rz (by omega)
    grind
  rw [e, ofR_div hy hg]
  unfold lowD
  rw [f1, f2]
def vr : PyData → Rat
  | .int i => (i : Rat)
  | .tuple [.int n, .int e] => (n : Rat) / (e : Rat)
  | _ => 0
theorem ofR_int (i : Int) : ofR (i : Rat) = .int i := by
  unfold ofR
  rw [Rat.den_intCast, Rat.num_intCast, if_pos rfl]
theorem ofR_vr {d : PyData} (h : numD d = true) : ofR (vr d) = d := by
  match d, h with
  | .int i, _ => exact ofR_int i
  | .tuple [.int n, .int e], h =>
    have h' : (decide (2 ≤ e) && decide (Int.gcd n e = 1)) = true := h
    rw [Bool.and_eq_true, decide_eq_true_eq, decide_eq_true_eq] at h'
    show ofR ((n : Rat) / (e : Rat)) = _
    rw [ofR_div (by omega) h'.2, if_neg (by omega)]
/-- what the code and the law work out -/
theorem l_add (q r : Rat) : lowD (q.num * r.den + r.num * q.den) (q.den * r.den) = ofR (q + r) := by
  rw [low_ofR (Int.mul_ne_zero (den_ne q) (den_ne r))]
  congr 1
  have h1 := rz (den_ne q)
  have h2 := rz (den_ne r)
  conv => rhs; rw [q_eq q, q_eq r]
  rw [Rat.intCast_add, Rat.intCast_mul, Rat.intCast_mul, Rat.intCast_mul]
  grind
theorem l_mul (q r : Rat) : lowD (q.num * r.num) (q.den * r.den) = ofR (q * r) := by
  rw [low_ofR (Int.mul_ne_zero (den_ne q) (den_ne r))]
  congr 1
  have h1 := rz (den_ne q)
  have h2 := rz (den_ne r)
  conv => rhs; rw [q_eq q, q_eq r]
  rw [Rat.intCast_mul, Rat.intCast_mul]
  grind
theorem num_ne {r : Rat} (h : r ≠ 0) : r.num ≠ 0 := fun z => h (by
  rw [q_eq r, z]
  grind)
theorem l_div (q : Rat) {r : Rat} (h : r ≠ 0) : lowD (q.num * r.den) (q.den * r.num) = ofR (q / r) := by
  rw [low_ofR (Int.mul_ne_zero (den_ne q) (num_ne h))]
  congr 1
  have h1 := rz (den_ne q)
  have h2 := rz (den_ne r)
  have h3 := rz (num_ne h)
  conv => rhs; rw [q_eq q, q_eq r]
  rw [Rat.intCast_mul, Rat.intCast_mul]
  grind
theorem l_inv {r : Rat} (h : r ≠ 0) : lowD r.den r.num = ofR (r⁻¹) := by
  rw [low_ofR (num_ne h)]
  congr 1
  have h2 := rz (den_ne r)
  have h3 := rz (num_ne h)
  conv => rhs; rw [q_eq r]
  grind
/-! ### sizes -/
def Bq (k : Nat) (q : Rat) : Prop := q.num.natAbs < 2 ^ k ∧ q.den < 2 ^ k
theorem Bq.mono {j k : Nat} {q : Rat} (h : Bq j q) (e : j ≤ k) : Bq k q := ⟨Nat.lt_of_lt_of_le h.1 (Nat.pow_le_pow_right (by decide) e), Nat.lt_of_lt_of_le h.2 (Nat.pow_le_pow_right (by decide) e)⟩
theorem bq_low {n d : Int} {k : Nat} (h : d ≠ 0) (h1 : n.natAbs < 2 ^ k) (h2 : d.natAbs < 2 ^ k) : Bq k ((n : Rat) / (d : Rat)) := by
  obtain ⟨x, y, c, hc, hy, hg, e1, e2, f1, f2⟩ := low_parts (n := n) h
  have e : (n : Rat) / (d : Rat) = (x : Rat) / (y : Rat) := by
    rw [e1, e2, Rat.intCast_mul, Rat.intCast_mul]
    have := rz hc
    have : (y : Rat) ≠ 0 := rz (by omega)
    grind
  obtain ⟨g1, g2⟩ := q_of hy hg
  have c1 := lowC_dvd n d
  have b1 := fdiv_le (lowC_ne h) c1.1
  have b2 := fdiv_le (lowC_ne h) c1.2
  rw [f1] at b1
  rw [f2] at b2
  rw [e]
  refine ⟨by rw [g1]; omega, ?_⟩
  have : (((x : Rat) / (y : Rat)).den : Int) = y := g2
  omega
theorem nat_mul_lt {a b j k : Nat} (h1 : a < 2 ^ j) (h2 : b < 2 ^ k) : a * b < 2 ^ (j + k) := by
  rw [Nat.pow_add]
  exact Nat.mul_lt_mul'' h1 h2
theorem bq_add {q r : Rat} {j k : Nat} (h1 : Bq j q) (h2 : Bq k r) : Bq (j + k + 1) (q + r) := by
  have e : q + r = ((q.num * r.den + r.num * q.den : Int) : Rat) / ((q.den * r.den : Int) : Rat) := by
    have h1 := rz (den_ne q)
    have h2 := rz (den_ne r)
    conv => lhs; rw [q_eq q, q_eq r]
    rw [Rat.intCast_add, Rat.intCast_mul, Rat.intCast_mul, Rat.intCast_mul]
    grind
  rw [e]
  have e1 : (q.num * (r.den : Int)).natAbs < 2 ^ (j + k) := by
    rw [Int.natAbs_mul]
    exact nat_mul_lt h1.1 h2.2
  have e2 : (r.num * (q.den : Int)).natAbs < 2 ^ (j + k) := by
    rw [Int.natAbs_mul, Nat.mul_comm]
    exact nat_mul_lt h1.2 h2.1
  have e3 : ((q.den : Int) * (r.den : Int)).natAbs < 2 ^ (j + k) := by
    rw [Int.natAbs_mul]
    exact nat_mul_lt h1.2 h2.2
  refine bq_low (Int.mul_ne_zero (den_ne q) (den_ne r)) ?_ ?_
  · rw [Nat.pow_succ]
    have := Int.natAbs_add_le (q.num * (r.den : Int)) (r.num * (q.den : Int))
    omega
  · rw [Nat.pow_succ]
    omega
theorem bq_mul {q r : Rat} {j k : Nat} (h1 : Bq j q) (h2 : Bq k r) : Bq (j + k) (q * r) := by
  have e : q * r = ((q.num * r.num : Int) : Rat) / ((q.den * r.den : Int) : Rat) := by
    have h1 := rz (den_ne q)
    have h2 := rz (den_ne r)
    conv => lhs; rw [q_eq q, q_eq r]
    rw [Rat.intCast_mul, Rat.intCast_mul]
    grind
  rw [e]
  refine bq_low (Int.mul_ne_zero (den_ne q) (den_ne r)) ?_ ?_
  · rw [Int.natAbs_mul]
    exact nat_mul_lt h1.1 h2.1
  · rw [Int.natAbs_mul]
    exact nat_mul_lt h1.2 h2.2
theorem bq_int {i : Int} {k : Nat} (h : i.natAbs < 2 ^ k) (h0 : 0 < k) : Bq k (i : Rat) := by
  refine ⟨by rw [Rat.num_intCast]; exact h, ?_⟩
  rw [Rat.den_intCast]
  exact Nat.one_lt_two_pow (by omega)
theorem bq_neg {q : Rat} {k : Nat} (h : Bq k q) : Bq k (-q) := by
  unfold Bq
  simp only [Rat.neg_num, Rat.neg_den, Int.natAbs_neg]
  exact h
theorem bq_inv {r : Rat} {k : Nat} (h : Bq k r) (z : r ≠ 0) : Bq k (r⁻¹) := by
  have e : r⁻¹ = (((r.den : Int) : Rat)) / ((r.num : Int) : Rat) := by
    have h2 := rz (den_ne r)
    have h3 := rz (num_ne z)
    conv => lhs; rw [q_eq r]
    grind
  rw [e]
  exact bq_low (num_ne z) h.2 h.1
/-! ### sums and products of lists -/
def rsum (qs : List Rat) : Rat := qs.foldl (fun a b => a + b) 0
def rprod (qs : List Rat) : Rat := qs.foldl (fun a b => a * b) 1
theorem foldl_add {qs : List Rat} {a : Rat} : qs.foldl (fun a b => a + b) a = a + rsum qs := by
  unfold rsum
  induction qs generalizing a with
  | nil => show a = a + 0; grind
  | cons q qs ih =>
    rw [List.foldl_cons, List.foldl_cons, ih, ih (a := 0 + q)]
    grind
theorem foldl_mul {qs : List Rat} {a : Rat} : qs.foldl (fun a b => a * b) a = a * rprod qs := by
  unfold rprod
  induction qs generalizing a with
  | nil => show a = a * 1; grind
  | cons q qs ih =>
    rw [List.foldl_cons, List.foldl_cons, ih, ih (a := 1 * q)]
    grind
theorem rsum_perm {xs ys : List Rat} (h : xs.Perm ys) : rsum xs = rsum ys := by
  induction h with
  | nil => rfl
  | cons x _ ih =>
    unfold rsum at *
    rw [List.foldl_cons, List.foldl_cons, foldl_add, foldl_add]
    unfold rsum
    rw [ih]
  | swap x y l =>
    unfold rsum
    rw [List.foldl_cons, List.foldl_cons, List.foldl_cons, List.foldl_cons, foldl_add, foldl_add]
    grind
  | trans _ _ h1 h2 => exact h1.trans h2
theorem rprod_perm {xs ys : List Rat} (h : xs.Perm ys) : rprod xs = rprod ys := by
  induction h with
  | nil => rfl
  | cons x _ ih =>
    unfold rprod at *
    rw [List.foldl_cons, List.foldl_cons, foldl_mul, foldl_mul]
    unfold rprod
    rw [ih]
  | swap x y l =>
    unfold rprod
    rw [List.foldl_cons, List.foldl_cons, List.foldl_cons, List.foldl_cons, foldl_mul, foldl_mul]
    grind
  | trans _ _ h1 h2 => exact h1.trans h2
theorem rsum_snoc {qs : List Rat} {q : Rat} : rsum (qs ++ [q]) = rsum qs + q := by
  unfold rsum
  rw [List.foldl_append]
  rfl
theorem rprod_snoc {qs : List Rat} {q : Rat} : rprod (qs ++ [q]) = rprod qs * q := by
  unfold rprod
  rw [List.foldl_append]
  rfl
theorem bq_rsum {k : Nat} : ∀ {qs : List Rat} (n : Nat), (∀ q ∈ qs, Bq k q) → Bq (1 + n * (k + 1)) (rsum (qs.take n)) := by
  intro qs n h
  induction n with
  | zero =>
    show Bq (1 + 0 * (k + 1)) ((0 : Int) : Rat)
    exact bq_int (by rw [Nat.zero_mul]; decide) (by omega)
  | succ n ih =>
    rw [List.take_add_one]
    cases e : qs[n]? with
    | none =>
      show Bq _ (rsum (qs.take n ++ []))
      rw [List.append_nil]
      exact ih.mono (by rw [Nat.succ_mul]; omega)
    | some q =>
      show Bq _ (rsum (qs.take n ++ [q]))
      rw [rsum_snoc]
      exact (bq_add ih (h q (List.mem_of_getElem? e))).mono (by rw [Nat.succ_mul]; omega)
theorem bq_rprod {k : Nat} : ∀ {qs : List Rat} (n : Nat), (∀ q ∈ qs, Bq k q) → Bq (1 + n * (k + 1)) (rprod (qs.take n)) := by
  intro qs n h
  induction n with
  | zero =>
    show Bq (1 + 0 * (k + 1)) ((1 : Int) : Rat)
    exact bq_int (by rw [Nat.zero_mul]; decide) (by omega)
  | succ n ih =>
    rw [List.take_add_one]
    cases e : qs[n]? with
    | none =>
      show Bq _ (rprod (qs.take n ++ []))
      rw [List.append_nil]
      exact ih.mono (by rw [Nat.succ_mul]; omega)
    | some q =>
      show Bq _ (rprod (qs.take n ++ [q]))
      rw [rprod_snoc]
      exact (bq_mul ih (h q (List.mem_of_getElem? e))).mono (by rw [Nat.succ_mul]; omega)
end K14

set_option Elab.async false
set_option linter.all false
set_option maxRecDepth 100000
set_option maxHeartbeats 4000000
namespace K14
open PySem PySem.Spec PyProof.Rows L2 Lw
section
variable {P : Program} {w : World} {K : PySem.W.Frag} {mg : Str → Option Value} {base : Heap} {f : Addr} {fd : FuncData} {fD fS fR : Addr} {fdD fdS fdR : FuncData}
/-- a number is an integer, or a tuple of its parts -/
theorem ofR_cases {H : Hp} {v : V} {q : Rat} (h : Dq K H v (ofR q)) : (v = .int q.num ∧ (q.den : Int) = 1 ∧ ofR q = .int q.num) ∨ (∃ t, v = .ref t ∧ SqT K H t [.int q.num, .int (q.den : Int)] ∧ ofR q = .tuple [.int q.num, .int (q.den : Int)] ∧ (q.den : Int) ≠ 1) := by
  by_cases z : q.den = 1
  · have e : ofR q = .int q.num := by unfold ofR; rw [if_pos z]
    rw [e] at h
    cases h
    exact .inl ⟨rfl, by omega, e⟩
  · have e : ofR q = .tuple [.int q.num, .int (q.den : Int)] := by unfold ofR; rw [if_neg z]
    rw [e] at h
    cases h with
    | tup hs hg =>
      cases hg with
      | cons a b =>
        cases b with
        | cons c d =>
          cases d
          cases a
          cases c
          exact .inr ⟨_, rfl, hs, e, by omega⟩
/-! ### worth -/
/-- the numbers that the law draws: great integers, or fractions of small parts -/
structure Bw (q : Rat) : Prop where
  big : Bq 97 q
  two : q.den = 1 ∨ Bq 40 q
theorem bw_int {i : Int} (h : i.natAbs < 2 ^ 97) : Bw (i : Rat) := ⟨bq_int h (by decide), .inl (Rat.den_intCast i)⟩
theorem bw_low {n d : Int} (h : d ≠ 0) (h1 : n.natAbs < 2 ^ 40) (h2 : d.natAbs < 2 ^ 40) : Bw ((n : Rat) / (d : Rat)) := ⟨(bq_low h h1 h2).mono (by decide), .inr (bq_low h h1 h2)⟩
theorem bw_one {n : Int} (h : n.natAbs < 2 ^ 97) : Bw ((n : Rat) / ((1 : Int) : Rat)) := by
  have e : (n : Rat) / ((1 : Int) : Rat) = (n : Rat) := by
    have : ((1 : Int) : Rat) = 1 := rfl
    rw [this]
    grind
  rw [e]
  exact bw_int h
def sp_worth (K : PySem.W.Frag) : Sp := fun vs H Q _ => ∃ a : Addr, vs = [.ref a] ∧ PotAt H a ∧ ∀ v q H', Bw q → Dq K (off H' a) v (ofR q) → PotAt H' a → Off a H H' → Q v H'
theorem dq_int {H : Hp} {i : Int} : Dq K H (.int i) (ofR (i : Rat)) := by
  rw [ofR_int]
  exact .int i
theorem ok_worth (F : FnP K "_law_worth" s_worth f fd) (T : Tz mg) (O_draw : Own P w K mg base CX0 1 "_law_draw" ["_law_pot_here", "_law_many"] sp_draw fD fdD) (O_ratio : Own P w K mg base CX0 2 "_law_ratio" ["_law_top", "_law_low"] (sp_lowest K) fR fdR) :
    FnOk P w K mg base CX0 3 f fd ["_law_pot_here"] (sp_worth K) := by
  refine F.ok sc_worth (fun vs H Q E h => ?_) (fun cdv A outer s H vs Q E hr h => ?_)
  · obtain ⟨a, rfl, _⟩ := h
    rfl
  · obtain ⟨a, rfl, hp, qq⟩ := h
    refine ⟨_, PSs.nox (pss_cons (ps_par (i := 1) (j := 2) (by rfl) sc_worth.nd rfl rfl (by decide) rfl rfl (pa_cons (pe_own O_draw (hr.mono (by first | decide | omega)) (pa_cons (pv 0) (pa_cons pe_int pa_nil))) (pa_cons (pe_op op_sub (pe_own O_draw (hr.mono (by first | decide | omega)) (pa_cons (pv 0) (pa_cons (pe_op op_pow pe_int pe_int) pa_nil))) (pe_op op_mulX pe_int (pe_op op_pow pe_int pe_int))) pa_nil)) (by rfl))
      (pss_cons (ps_if (pt_cmpR op_lt (pv 1) pe_int (nomark _)) (pss_one (ps_ret (pe_ix ix_list (pe_lst (pa_cons pe_int (pa_cons pe_int (pa_cons (pe_un un_neg pe_int) (pa_cons (pe_tup (pa_cons pe_int (pa_cons pe_int pa_nil))) (pa_cons pe_int pa_nil)))))) (pv 1) (fun _ _ => rfl)))) pss_nil)
      (pss_one (ps_ret (pe_own O_ratio (hr.mono (by first | decide | omega)) (pa_cons (pe_ix ix_list (pe_lst (pa_cons (pe_op op_sub (pe_op op_mod (pv 2) pe_int) pe_int) (pa_cons (pv 2) (pa_cons (pe_op op_add (pe_op op_mulX (pv 2) (pe_op op_pow pe_int pe_int)) pe_int) pa_nil)))) (pe_op op_sub (pv 1) pe_int) (fun _ _ => rfl)) (pa_cons (pe_ix ix_list (pe_lst (pa_cons (pe_op op_add pe_int (pe_op op_mod (pv 2) pe_int)) (pa_cons (pe_op op_add pe_int (pe_op op_mod (pv 2) pe_int)) (pa_cons pe_int pa_nil)))) (pe_op op_sub (pv 1) pe_int) (fun _ _ => rfl)) pa_nil))))))), ?_⟩
    refine ⟨.ref a, rfl, a, 8, rfl, hp, by decide, by decide, fun wy H1 w0 w1 p1 o1 => ?_⟩
    refine ⟨.ref a, rfl, 10, 12, rfl, rfl, ⟨by decide, by decide, by decide⟩, a, 10 ^ 12, rfl, p1, by decide, by decide, fun tp H2 t0 t1 p2 o2 => ?_⟩
    have t2 : (tp - 5 * 10 ^ 11).natAbs < 2 ^ 40 := by
      have e1 : tp < 1000000000000 := t1
      omega
    refine ⟨_, _, rfl, rfl, ⟨by decide, by decide, by decide⟩, _, _, rfl, rfl, mulx_ok (a := 3) (b := 40) (by decide) (by decide +kernel) (by decide), _, _, rfl, rfl, _, _, rfl, ?_⟩
    have o12 := o1.trans o2
    change tSeq _ _ _ [some (.ref a), some (.int wy), some (.int (tp - 5 * 10 ^ 11))] H2
    generalize tp - 5 * 10 ^ 11 = top at t2 ⊢
    refine ⟨.int wy, rfl, _, _, rfl, rfl, _, rfl, ite2 (fun e => ?_) (fun e => ?_)⟩
    · have wl : wy < 5 := of_decide_eq_true e
      refine ⟨_, rfl, by show 2 ≤ sizeLine; decide, fun t nt => ⟨by show 5 ≤ sizeLine; decide, fun l nl => ?_⟩⟩
      have p3 := p2.new (o := .tup [.int 1, .int 2]) nt
      have p4 := p3.new (o := .lst [.int 0, .int 1, .int (-2), .ref t, .int 10]) nl
      obtain ⟨v, hv, _, ev⟩ := at_in (xs := ([.int 0, .int 1, .int (-2), .ref t, .int 10] : List V)) w0 wl
      refine ⟨.int wy, rfl, l, _, wy, v, rfl, rfl, .inl (.inl upd_same), ev, ?_⟩
      have oo := (o12.trans (Off.new (o := .tup [.int 1, .int 2]) nt)).trans (Off.new (o := .lst [.int 0, .int 1, .int (-2), .ref t, .int 10]) nl)
      have ta : t ≠ a := p2.ne nt
      have tl : t ≠ l := fun z => by
        rw [← z, upd_same] at nl
        cases nl
      simp only [List.mem_cons, List.not_mem_nil, or_false] at hv
      rcases hv with rfl | rfl | rfl | rfl | rfl
      · exact qq _ ((0 : Int) : Rat) _ (bw_int (by decide)) dq_int p4 oo
      · exact qq _ ((1 : Int) : Rat) _ (bw_int (by decide +kernel)) dq_int p4 oo
      · exact qq _ ((-2 : Int) : Rat) _ (bw_int (by decide +kernel)) dq_int p4 oo
      · refine qq _ (((1 : Int) : Rat) / ((2 : Int) : Rat)) _ (bw_low (by decide) (by decide +kernel) (by decide +kernel)) ?_ p4 oo
        rw [ofR_div (by decide) (by decide), if_neg (by decide)]
        refine .tup (.inl (.inl ?_)) (.cons (.int 1) (.cons (.int 2) .nil))
        rw [off_ne ta, upd_ne tl, upd_same]
      · exact qq _ ((10 : Int) : Rat) _ (bw_int (by decide +kernel)) dq_int p4 oo
    · have wl : ¬ wy < 5 := fun z => e (decide_eq_true z)
      refine ⟨.int top, rfl, _, _, rfl, rfl, pos_c (by decide), _, _, rfl, rfl, .int top, rfl, .int top, rfl, _, _, rfl, rfl, ⟨by decide, by decide, by decide⟩, _, _, rfl, rfl, mulx_ok (a := 40) (b := 57) t2 (by decide +kernel) (by decide), _, _, rfl, rfl, by show 3 ≤ sizeLine; decide, fun l1 n1 => ?_⟩
      obtain ⟨vn, hn, _, en⟩ := at_in (xs := ([.int (top % 41 - 20), .int top, .int (top * 10 ^ 17 + 1)] : List V)) (i := wy - 5) (by omega) (show wy - 5 < 3 by omega)
      obtain ⟨vd, hd, _, ed⟩ := at_in (xs := ([.int (1 + top % 7), .int (1 + top % 999983), .int 1] : List V)) (i := wy - 5) (by omega) (show wy - 5 < 3 by omega)
      refine ⟨.int wy, rfl, _, _, rfl, rfl, l1, _, wy - 5, vn, rfl, rfl, .inl (.inl upd_same), en, ?_⟩
      refine ⟨.int top, rfl, _, _, rfl, rfl, pos_c (by decide), _, _, rfl, rfl, .int top, rfl, _, _, rfl, rfl, pos_c (by decide), _, _, rfl, rfl, by show 3 ≤ sizeLine; decide, fun l2 n2 => ?_⟩
      refine ⟨.int wy, rfl, _, _, rfl, rfl, l2, _, wy - 5, vd, rfl, rfl, .inl (.inl upd_same), ed, ?_⟩
      have oo := (o12.trans (Off.new (o := .lst [.int (top % 41 - 20), .int top, .int (top * 10 ^ 17 + 1)]) n1)).trans (Off.new (o := .lst [.int (1 + top % 7), .int (1 + top % 999983), .int 1]) n2)
      have p3 := (p2.new (o := .lst [.int (top % 41 - 20), .int top, .int (top * 10 ^ 17 + 1)]) n1).new (o := .lst [.int (1 + top % 7), .int (1 + top % 999983), .int 1]) n2
      have fin : ∃ n d : Int, vn = .int n ∧ vd = .int d ∧ 0 < d ∧ d.natAbs < 2 ^ 97 ∧ Bw ((n : Rat) / (d : Rat)) := by
        have w3 : wy = 5 ∨ wy = 6 ∨ wy = 7 := by omega
        rcases w3 with rfl | rfl | rfl
        · cases (show some (V.int (top % 41 - 20)) = some vn from en)
          cases (show some (V.int (1 + top % 7)) = some vd from ed)
          exact ⟨_, _, rfl, rfl, by omega, by omega, bw_low (by omega) (by omega) (by omega)⟩
        · cases (show some (V.int top) = some vn from en)
          cases (show some (V.int (1 + top % 999983)) = some vd from ed)
          exact ⟨_, _, rfl, rfl, by omega, by omega, bw_low (by omega) (by omega) (by omega)⟩
        · cases (show some (V.int (top * 10 ^ 17 + 1)) = some vn from en)
          cases (show some (V.int 1) = some vd from ed)
          exact ⟨_, _, rfl, rfl, by omega, by decide, bw_one (by omega)⟩
      obtain ⟨n, d, rfl, rfl, hd0, hd2, bw⟩ := fin
      refine ⟨n, d, rfl, by omega, Nat.lt_of_lt_of_le hd2 (by decide +kernel), fun v H' s' fr => ?_⟩
      rw [low_ofR (by omega)] at fr
      exact qq v _ H' bw (fr.away (pot_some p3)) (p3.same s') (oo.trans (Off.same s'))
end
end K14

set_option Elab.async false
set_option linter.all false
set_option maxRecDepth 100000
set_option maxHeartbeats 4000000
namespace K14
open PySem PySem.Spec PyProof.Rows L2 Lw
section
variable {P : Program} {w : World} {K : PySem.W.Frag} {mg : Str → Option Value} {base : Heap} {f : Addr} {fd : FuncData} {fN fI fS fR fL fC : Addr} {fdN fdI fdS fdR fdL : FuncData} {C : Addr}
theorem Out.later {H H1 : Hp} {d : PyData} {E : XK} (o : Out K C H d E) (s : Same H H1) : Out K C H1 d E := fun v' dx H' s' nd hd fr => o v' dx H' (s.trans s') (s.free nd) hd (fr.sooner s)
/-- the first that is no number -/
def badD (ds : List PyData) : Option PyData := ds.find? fun d => !numD d
/-- data that may be handed to the package -/
structure Hd (d : PyData) : Prop where
  dp : d.depth ≤ 5
  sl : slim d = true
theorem lean_slim {d : PyData} (h : slim d = true) : Lean_ d := by
  rintro ds rfl
  have h' : (decide (ds.length ≤ 900) && slimAll ds) = true := by simpa only [slim] using h
  rw [Bool.and_eq_true] at h'
  exact of_decide_eq_true h'.1
def sp_check (K : PySem.W.Frag) (C : Addr) : Sp := fun vs H Q E => ∃ (t : Addr) (xs : List V) (ds : List PyData), vs = [.ref t] ∧ SqT K H t xs ∧ DqAll K H xs ds ∧ (∀ d ∈ ds, Hd d) ∧
  (∀ d, badD ds = some d → Out K C H d E) ∧ (badD ds = none → ∀ H', Same H H' → Q .non H')
theorem bad_at {ds : List PyData} {i : Nat} {d : PyData} (h0 : ∀ x ∈ ds.take i, numD x = true) (h : ds[i]? = some d) (hn : numD d = false) : badD ds = some d := by
  induction ds generalizing i with
  | nil => cases h
  | cons a r ih =>
    cases i with
    | zero =>
      cases h
      unfold badD
      rw [List.find?_cons, hn]
      rfl
    | succ i =>
      have ha : numD a = true := h0 a (by simp)
      unfold badD
      rw [List.find?_cons, ha]
      exact ih (i := i) (fun x hx => h0 x (by rw [List.take_succ_cons]; exact List.mem_cons_of_mem _ hx)) (by simpa using h)
theorem bad_none {ds : List PyData} (h : ∀ x ∈ ds, numD x = true) : badD ds = none := by
  unfold badD
  rw [List.find?_eq_none]
  intro x hx
  rw [h x hx]
  decide
theorem ok_check_numbers (F : FnP K "check_numbers" s_check_numbers f fd) (T : Tz mg) (E_InvalidNumber : OwnE P w K mg base 8 "InvalidNumber" ["self", "value"] (sp_ini K C 5) C fI fdI (tlOf "ValueError") "ValueError.__new__")
    (O_is_number : Own P w K mg base CX0 2 "is_number" ["value"] (sp_num K) fN fdN) : FnOk P w K mg base (L2.CX P w) 10 f fd ["values"] (sp_check K C) := by
  refine F.ok sc_check_numbers (fun vs H Q E h => ?_) (fun cdv A outer s H vs Q E hr h => ?_)
  · obtain ⟨t, xs, ds, rfl, _⟩ := h
    rfl
  · obtain ⟨t, xs, ds, rfl, hs, hd, hh, hbad, qq⟩ := h
    refine ⟨_, (pss_one (ps_for (passes_of rfl) rfl (pi_tup (pv 0)) (pg_name (i := 1) sc_check_numbers.nd rfl (Or.inl rfl)) (pss_one (ps_if (pt_not (pt_val (pe_own O_is_number (hr.mono (by first | decide | omega)) (pa_cons (pv 1) pa_nil)))) (pss_one (ps_raise rfl (takes_of rfl rfl rfl rfl) (pmk_e exb_V E_InvalidNumber (hr.mono (by first | decide | omega)) (pa_cons (pv 1) pa_nil)))) pss_nil)))), ?_⟩
    refine ⟨.ref t, rfl, t, rfl, ⟨xs, hs⟩, ?_⟩
    refine for_tup (K := K) (a := t) (xs := xs) (fun i σ H1 => ∃ y, σ = [some (.ref t), y] ∧ Same H H1 ∧ ∀ x ∈ ds.take i, numD x = true) ⟨none, rfl, Same.refl H, fun x hx => by simp at hx⟩ (fun i σ H1 _ p => ?_) ?_ ?_
    · obtain ⟨y, _, s1, _⟩ := p
      exact same_t s1 hs
    · rintro i x σ H1 hx ⟨y, rfl, s1, h0⟩
      obtain ⟨d, hi, dx⟩ := dq_get hd hx
      have hdd := hh d (List.mem_of_getElem? hi)
      refine ⟨x, rfl, x, d, rfl, dx.same s1, lean_slim hdd.sl, fun H2 s2 => ⟨_, rfl, ?_⟩⟩
      by_cases hn : numD d = true
      · rw [hn]
        refine iteF ⟨_, rfl, s1.trans s2, fun z hz => ?_⟩
        rw [List.take_add_one, hi] at hz
        rcases List.mem_append.mp hz with hz | hz
        · exact h0 z hz
        · cases List.mem_singleton.mp (show z ∈ [d] from hz)
          exact hn
      · have hn0 := Bool.eq_false_iff.mpr hn
        rw [hn0]
        exact iteT ⟨x, rfl, raise_it ((dx.same s1).same s2) hdd.dp hdd.sl (Out.later (hbad d (bad_at h0 hi hn0)) (s1.trans s2))⟩
    · rintro σ H1 ⟨y, rfl, s1, h0⟩
      rw [dq_len hd, List.take_length] at h0
      exact qq (bad_none h0) H1 s1
end
end K14

set_option Elab.async false
set_option linter.all false
set_option maxRecDepth 100000
set_option maxHeartbeats 4000000
namespace K14
open PySem PySem.Spec PyProof.Rows L2 Lw
/-! ### texts of numbers -/
def numTx : PyData → Str
  | .int i => iTx i
  | .tuple [.int n, .int e] => Txt.join "/" [iTx n, iTx e]
  | _ => ""
def wordsD (ws : List Str) : List PyData := ws.map fun w => .int (ivl (TL.tl w))
def oneD : List PyData → PyData
  | [d] => d
  | ds => .tuple ds
def allI (ws : List Str) : Bool := ws.all fun w => itx (TL.tl w)
def parseD (z : Str) : Option PyData := if allI (Txt.split z "/") = true then (if numD (oneD (wordsD (Txt.split z "/"))) = true then some (oneD (wordsD (Txt.split z "/"))) else none) else none
theorem parse_some {z : Str} (h1 : allI (Txt.split z "/") = true) (h2 : numD (oneD (wordsD (Txt.split z "/"))) = true) : parseD z = some (oneD (wordsD (Txt.split z "/"))) := by
  unfold parseD
  rw [if_pos h1, if_pos h2]
theorem parse_none1 {z : Str} (h1 : allI (Txt.split z "/") = false) : parseD z = none := by
  unfold parseD
  rw [if_neg (by rw [h1]; decide)]
theorem parse_none2 {z : Str} (h1 : allI (Txt.split z "/") = true) (h2 : numD (oneD (wordsD (Txt.split z "/"))) = false) : parseD z = none := by
  unfold parseD
  rw [if_pos h1, if_neg (by rw [h2]; decide)]
theorem num_three {a b c : Str} {r : List Str} : numD (oneD (wordsD (a :: b :: c :: r))) = false := by
  show ratioB (wordsD (a :: b :: c :: r)) = false
  exact ratio_len (by simp [wordsD])
theorem parse_text {z : Str} {d : PyData} (h : parseD z = some d) : numTx d = z ∧ numD d = true ∧ d = oneD (wordsD (Txt.split z "/")) ∧ allI (Txt.split z "/") = true := by
  have j := StrLaws.join_split z "/"
  have ne := split_ne z
  unfold parseD at h
  split at h
  · rename_i h1
    split at h
    · rename_i h2
      cases h
      refine ⟨?_, h2, rfl, h1⟩
      revert j h1 h2 ne
      generalize Txt.split z "/" = ws
      intro j ne h1 h2
      match ws, ne with
      | [w], _ =>
        have i1 : itx (TL.tl w) = true := by
          simpa [allI] using h1
        show iTx (ivl (TL.tl w)) = z
        rw [itx_tx i1]
        exact j
      | [a, b], _ =>
        have i1 : itx (TL.tl a) = true ∧ itx (TL.tl b) = true := by
          simpa [allI] using h1
        show Txt.join "/" [iTx (ivl (TL.tl a)), iTx (ivl (TL.tl b))] = z
        rw [itx_tx i1.1, itx_tx i1.2, TL.join_eq]
        exact j
      | a :: b :: c :: r, _ =>
        have e := num_three (a := a) (b := b) (c := c) (r := r)
        rw [e] at h2
        cases h2
    · cases h
  · cases h
theorem num_shape {d : PyData} (h : numD d = true) : (∃ i, d = .int i) ∨ ∃ n e, d = .tuple [.int n, .int e] := by
  match d, h with
  | .int i, _ => exact .inl ⟨i, rfl⟩
  | .tuple [.int n, .int e], _ => exact .inr ⟨n, e, rfl⟩
theorem split_one (i : Int) : Txt.split (iTx i) "/" = [iTx i] := by
  have e := TL.split_join (y := ("/" : Str)) slash_tl slash_ok (parts := [iTx i]) (by simp) (fun p hp => by
    cases List.mem_singleton.mp hp
    rw [tl_iTx]
    exact sgn_free (.inl rfl))
  have j : Txt.join ("/" : Str) [iTx i] = iTx i := by
    rw [TL.join_eq]
    rfl
  rw [j] at e
  exact e
theorem split_two (n e : Int) : Txt.split (Txt.join "/" [iTx n, iTx e]) "/" = [iTx n, iTx e] :=
  TL.split_join (y := ("/" : Str)) slash_tl slash_ok (by simp) (fun p hp => by
    simp only [List.mem_cons, List.not_mem_nil, or_false] at hp
    rcases hp with rfl | rfl
    · rw [tl_iTx]
      exact sgn_free (.inl rfl)
    · rw [tl_iTx]
      exact sgn_free (.inl rfl))
theorem itx_i (i : Int) : itx (TL.tl (iTx i)) = true := by
  rw [tl_iTx]
  exact itx_sgn i
theorem ivl_i (i : Int) : ivl (TL.tl (iTx i)) = i := by
  rw [tl_iTx]
  exact ivl_sgn i
theorem parse_num {d : PyData} (h : numD d = true) : parseD (numTx d) = some d := by
  rcases num_shape h with ⟨i, rfl⟩ | ⟨n, e, rfl⟩
  · have s : Txt.split (numTx (.int i)) "/" = [iTx i] := split_one i
    have w : oneD (wordsD [iTx i]) = .int i := by
      show PyData.int (ivl (TL.tl (iTx i))) = _
      rw [ivl_i]
    rw [parse_some (by rw [s]; simp [allI, itx_i]) (by rw [s, w]; rfl), s, w]
  · have s : Txt.split (numTx (.tuple [.int n, .int e])) "/" = [iTx n, iTx e] := split_two n e
    have w : oneD (wordsD [iTx n, iTx e]) = .tuple [.int n, .int e] := by
      show PyData.tuple [.int (ivl (TL.tl (iTx n))), .int (ivl (TL.tl (iTx e)))] = _
      rw [ivl_i, ivl_i]
    rw [parse_some (by rw [s]; simp [allI, itx_i]) (by rw [s, w]; exact h), s, w]
/-- what is told of a value -/
def refD (n : Int) : PyData := .list [.str "refused", .int n, .bool true]
def toldS (z : Str) : PyData := match parseD z with
  | some d => d
  | none => refD 1
def toldD : PyData → PyData
  | .str z => toldS z
  | _ => refD 0
theorem told_some {z : Str} {d : PyData} (h : parseD z = some d) : toldS z = d := by
  unfold toldS
  rw [h]
theorem told_none {z : Str} (h : parseD z = none) : toldS z = refD 1 := by
  unfold toldS
  rw [h]
theorem told_num {d : PyData} (h : numD (toldD d) = true) : ∃ z, d = .str z ∧ parseD z = some (toldD d) := by
  cases d with
  | str z =>
    refine ⟨z, rfl, ?_⟩
    show parseD z = some (toldS z)
    have h' : numD (toldS z) = true := h
    cases e : parseD z with
    | some d' => rw [told_some e]
    | none =>
      rw [told_none e] at h'
      cases h'
  | _ => cases h
/-! ### the law's own reading -/
def plainR (l : List Nat) (s : Bool) : List Nat := if (s && minus1 l) = true then cut1 l else l
def plainL (l : List Nat) (s : Bool) : Bool := decide (plainR l s ≠ []) && ((plainR l s).all digN && (decide (l = [48]) || decide ((plainR l s).head? ≠ some 48)))
theorem plain_by {l : List Nat} {s : Bool} (h : plainR l s = cut1 l) : plainL l s = itx l := by
  unfold plainL itx
  rw [h]
  by_cases z : l = [48]
  · subst z
    rfl
  · rw [decide_eq_false z, Bool.false_or, Bool.false_or, Bool.and_comm ((cut1 l).all digN)]
theorem plain_t (l : List Nat) : plainL l true = itx l := by
  refine plain_by ?_
  unfold plainR
  rw [Bool.true_and]
  by_cases m : minus1 l = true
  · rw [if_pos m]
  · rw [if_neg m, cut_no (Bool.eq_false_iff.mpr m)]
theorem plain_f (l : List Nat) : plainL l false = (itx l && !minus1 l) := by
  by_cases m : minus1 l = true
  · rw [m, Bool.not_true, Bool.and_false]
    unfold plainL plainR
    rw [Bool.false_and, if_neg (by decide)]
    have e := cut_yes m
    have a : l.all digN = false := by
      rw [e]
      rfl
    rw [a, Bool.false_and, Bool.and_false]
  · have m0 := Bool.eq_false_iff.mpr m
    rw [m0, Bool.not_false, Bool.and_true]
    refine plain_by ?_
    unfold plainR
    rw [Bool.false_and, if_neg (by decide), cut_no m0]
theorem ivl_neg {l : List Nat} (m : minus1 l = true) : ivl l ≤ 0 := by
  unfold ivl
  rw [if_pos m]
  omega
/-- the law's own word on a text -/
def dueS (ws : List Str) : PyData := match ws with
  | [a] => if plainL (TL.tl a) true = true then .int (ivl (TL.tl a)) else refD 1
  | [a, b] => if (plainL (TL.tl a) true && plainL (TL.tl b) false) = true then (if numD (.tuple [.int (ivl (TL.tl a)), .int (ivl (TL.tl b))]) = true then .tuple [.int (ivl (TL.tl a)), .int (ivl (TL.tl b))] else refD 1) else refD 1
  | _ => refD 1
theorem due_told (z : Str) : dueS (Txt.split z "/") = toldS z := by
  have n1 := fun h => told_none (parse_none1 (z := z) h)
  have n2 := fun h h2 => told_none (parse_none2 (z := z) h h2)
  have s1 := fun h h2 => told_some (parse_some (z := z) h h2)
  have ne := split_ne z
  revert n1 n2 s1 ne
  generalize Txt.split z "/" = ws
  intro n1 n2 s1 ne
  match ws, ne with
  | [a], _ =>
    have ea : allI [a] = itx (TL.tl a) := by
      show (itx (TL.tl a) && true) = _
      rw [Bool.and_true]
    show (if plainL (TL.tl a) true = true then _ else _) = _
    rw [plain_t]
    by_cases h : itx (TL.tl a) = true
    · rw [if_pos h, s1 (ea.trans h) rfl]
      rfl
    · rw [if_neg h, n1 (ea.trans (Bool.eq_false_iff.mpr h))]
  | [a, b], _ =>
    have ea : allI [a, b] = (itx (TL.tl a) && itx (TL.tl b)) := by
      show (itx (TL.tl a) && (itx (TL.tl b) && true)) = _
      rw [Bool.and_true]
    show (if (plainL (TL.tl a) true && plainL (TL.tl b) false) = true then _ else _) = _
    rw [plain_t, plain_f]
    by_cases h1 : itx (TL.tl a) = true
    · by_cases h2 : itx (TL.tl b) = true
      · have e1 : allI [a, b] = true := by rw [ea, h1, h2]; rfl
        by_cases m : minus1 (TL.tl b) = true
        · rw [h1, h2, m, if_neg (by decide)]
          refine (n2 e1 ?_).symm
          show (decide (2 ≤ ivl (TL.tl b)) && _) = false
          rw [decide_eq_false (by have := ivl_neg m; omega), Bool.false_and]
        · rw [h1, h2, Bool.eq_false_iff.mpr m, if_pos (by rfl)]
          by_cases nn : numD (.tuple [.int (ivl (TL.tl a)), .int (ivl (TL.tl b))]) = true
          · rw [if_pos nn, s1 e1 nn]
            rfl
          · rw [if_neg nn, n2 e1 (Bool.eq_false_iff.mpr nn)]
      · rw [Bool.eq_false_iff.mpr h2, Bool.false_and, Bool.and_false, if_neg (by decide), n1 (by rw [ea, Bool.eq_false_iff.mpr h2, Bool.and_false])]
    · rw [Bool.eq_false_iff.mpr h1, Bool.false_and, if_neg (by decide), n1 (by rw [ea, Bool.eq_false_iff.mpr h1, Bool.false_and])]
  | a :: b :: c :: r, _ =>
    show refD 1 = _
    by_cases h : allI (a :: b :: c :: r) = true
    · exact (n2 h num_three).symm
    · exact (n1 (Bool.eq_false_iff.mpr h)).symm
end K14

set_option Elab.async false
set_option linter.all false
set_option maxRecDepth 100000
set_option maxHeartbeats 4000000
namespace K14
open PySem PySem.Spec PyProof.Rows L2 Lw
section
variable {P : Program} {w : World} {K : PySem.W.Frag} {mg : Str → Option Value} {base : Heap} {f : Addr} {fd : FuncData}
/-! ### integer_text -/
def sp_itext : Sp := fun vs H Q _ => ∃ i : Int, vs = [.int i] ∧ i.natAbs < 10 ^ 60 ∧ ∀ H', Same H H' → Q (.str (iTx i)) H'
theorem abs_tx (i : Int) : (if i < 0 then ("-" : Str) else ("" : Str)) ++ Txt.join "" [iTx (i.natAbs : Int)] = iTx i := by
  refine TL.ext_tl ?_
  rw [TL.tl_append, TL.join_eq, tl_iTx]
  have e : TL.tl (Str.join "" [iTx (i.natAbs : Int)]) = sgnL (i.natAbs : Int) := tl_iTx _
  rw [e]
  unfold sgnL
  by_cases h : i < 0
  · rw [if_pos h, if_pos h, if_neg (by omega), dash_tl, Int.natAbs_natCast]
    rfl
  · rw [if_neg h, if_neg h, if_neg (by omega), Int.natAbs_natCast]
    rfl
theorem ok_integer_text (F : FnP K "integer_text" s_integer_text f fd) (T : Tz mg) : FnOk P w K mg base CX0 1 f fd ["value"] sp_itext := by
  refine F.ok sc_integer_text (fun vs H Q E h => ?_) (fun cdv A outer s H vs Q E hr h => ?_)
  · obtain ⟨i, rfl, _⟩ := h
    rfl
  · obtain ⟨i, rfl, hi, q⟩ := h
    refine ⟨_, PSs.nox (pss_cons (ps_set (i := 1) sc_integer_text.nd rfl (Or.inl rfl) (pe_callB call_abs (by rfl) T.z_abs (by decide +kernel) (pa_cons (pv 0) pa_nil)))
      (pss_cons (ps_set (i := 2) sc_integer_text.nd rfl (Or.inl rfl) (pe_lst pa_nil))
      (pss_cons (ps_while0 PassesOwn.never (pt_cmpR op_ge (pv 1) (pe_op op_pow pe_int pe_int) (nomark _)))
      (pss_cons (ps_expr (pe_bm PySem.F.plainAttrs_list PySem.F.slot_list_append PySem.F.type_list_append mt_append (pv 2) (pa_cons (pe_callTy call_str_int (by rfl) T.z_str (by decide +kernel) (pa_cons (pv 1) pa_nil)) pa_nil)))
      (pss_cons (ps_set (i := 4) sc_integer_text.nd rfl (Or.inl rfl) (pe_ifExp (pt_cmpR op_lt (pv 0) pe_int (nomark _)) pe_str pe_str))
      (pss_one (ps_ret (pe_op op_add_str (pv 4) (pe_join pe_str (pe_revL (pv 2))))))))))), ?_⟩
    refine ⟨.int i, rfl, i, rfl, ?_⟩
    rw [abs_if]
    refine ⟨Nat.zero_le _, fun l nl => ?_⟩
    refine ⟨_, rfl, 10, 60, rfl, rfl, ⟨by decide, by decide, by decide⟩, _, _, rfl, rfl, _, rfl, ?_, ?_⟩
    · refine decide_eq_false ?_
      show ¬ ((10 : Int) ^ 60 ≤ (i.natAbs : Int))
      have : ((10 ^ 60 : Nat) : Int) = (10 : Int) ^ 60 := by decide +kernel
      omega
    have hlog : ((i.natAbs : Int)).natAbs.log2 < 1920 := by
      rw [Int.natAbs_natCast]
      exact Nat.lt_of_lt_of_le (PySem.Flt.log2_lt_of (k := 200) (by decide) (Nat.lt_of_lt_of_le hi (by decide +kernel))) (by decide)
    refine ⟨.ref l, rfl, .inl ⟨rfl, [], .inl (.inl upd_same)⟩, _, rfl, (i.natAbs : Int), rfl, hlog, l, [], _, rfl, rfl, upd_same, by decide, ?_⟩
    have len : (iTx (i.natAbs : Int)).length ≤ 61 := iTx_len (k := 60) (by decide) (by rw [Int.natAbs_natCast]; exact hi)
    have jl : Txt.join "" [iTx (i.natAbs : Int)] = iTx (i.natAbs : Int) := by
      rw [TL.join_eq]
      rfl
    have fin : ∀ (z : Str) (y : Option V), z.length ≤ 1 → z ++ Txt.join "" [iTx (i.natAbs : Int)] = iTx i →
        tRet (tOp (fun x y H Q => ∃ i j, x = .str i ∧ y = .str j ∧ i.length + j.length ≤ sizeLine ∧ Q (.str (i ++ j)) H) (tVar 4) (tM1 (fun x xs H Q => ∃ a p, ∃ ys : List Str, x = .str a ∧ xs = [.ref p] ∧ (SqL K H p (ys.map V.str) ∨ SqT K H p (ys.map V.str)) ∧
          (ys.map (·.length)).sum + ys.length * a.length ≤ 16777216 ∧ Q (.str (Txt.join a ys)) H) (tC (.str "")) (tRevL K (tVar 2)))) { nx := fun _ H' => Q .non H', rt := Q }
          [some (.int i), some (.int (i.natAbs : Int)), some (.ref l), y, some (.str z)] (upd (upd H l (.lst [])) l (.lst [.str (iTx (i.natAbs : Int))])) := by
      intro z y hz e
      refine ⟨_, rfl, ⟨"", rfl⟩, .ref l, rfl, l, _, rfl, .inl (.inl upd_same), fun p np => ⟨"", p, [iTx (i.natAbs : Int)], rfl, rfl, .inl (.inl (.inl upd_same)), ?_, z, _, rfl, rfl, ?_, ?_⟩⟩
      · show ((iTx (i.natAbs : Int)).length + 0) + 1 * 0 ≤ 16777216
        omega
      · rw [jl]
        exact Nat.le_of_lt (small1000 (by omega))
      · rw [e]
        refine q _ fun b o hb => ?_
        have bl : b ≠ l := ne_of_none hb nl
        have bp : b ≠ p := fun z => by
          rw [← z, upd_ne bl, upd_ne bl] at np
          rw [np] at hb
          cases hb
        rw [upd_ne bp, upd_ne bl, upd_ne bl]
        exact hb
    have ab := abs_tx i
    refine ⟨.int i, rfl, _, _, rfl, rfl, _, rfl, ?_⟩
    by_cases h : i < 0
    · rw [decide_eq_true h]
      rw [if_pos h] at ab
      exact fin "-" _ (by decide) ab
    · rw [decide_eq_false h]
      rw [if_neg h] at ab
      exact fin "" _ (by decide) ab
/-! ### is_integer_text -/
def sp_isit : Sp := fun vs H Q _ => ∃ z : Str, vs = [.str z] ∧ z.length ≤ 900 ∧ ∀ H', Same H H' → Q (.bl (itx (TL.tl z))) H'
theorem map_take {z : Str} {i : Nat} {c : Nat} {g : Nat → Bool} (h : z.cps[i]? = some c) : ((z.cps.toList.take (i + 1)).map g) = ((z.cps.toList.take i).map g) ++ [g c] := by
  have e : z.cps.toList[i]? = some c := by
    rw [Array.getElem?_toList]
    exact h
  rw [List.take_add_one, e, List.map_append]
  rfl
theorem all_id {l : List Nat} {g : Nat → Bool} : (l.map g).all id = l.all g := by
  rw [List.all_map]
  rfl
theorem cut_le (l : List Nat) : (cut1 l).length ≤ l.length := by
  by_cases m : minus1 l = true
  · have e := congrArg List.length (cut_yes m)
    rw [List.length_cons] at e
    omega
  · rw [cut_no (Bool.eq_false_iff.mpr m)]
    exact Nat.le_refl _
theorem zero_tl : TL.tl ("0" : Str) = [48] := by decide +kernel
theorem eq_tl {x y : Str} : decide (V.str x = V.str y) = decide (TL.tl x = TL.tl y) := by
  rw [Bool.eq_iff_iff, decide_eq_true_eq, decide_eq_true_eq]
  exact ⟨fun h => by rw [V.str.inj h], fun h => congrArg V.str (TL.ext_tl h)⟩
theorem eq_zero (z : Str) : decide (V.str z = V.str ("0" : Str)) = decide (TL.tl z = [48]) := by
  rw [eq_tl, zero_tl]
theorem eq_none (z : Str) : decide (V.str z = V.str ("" : Str)) = decide (TL.tl z = []) := by
  rw [eq_tl]
  rfl
theorem eq_sign (c : Nat) : decide (V.str (⟨#[c]⟩ : Str) = V.str ("0" : Str)) = decide (c = 48) := by
  rw [eq_zero, Bool.eq_iff_iff, decide_eq_true_eq, decide_eq_true_eq]
  show [c] = [48] ↔ c = 48
  simp
/-- all([sign in DIGITS for sign in z]) -/
theorem all_digits {z : Str} {te : TE} {g : TG} {σ : L2.St} {vs : List Nat} {H : Hp} {D : Addr} {Qd : Hp → Prop} (hz : z.length ≤ 900) (nD : H D = none)
    (hg : ∀ c H2 (R : L2.St → Hp → Prop), (∀ σ2, wipe σ2 vs = wipe σ vs → (∀ H3 (Q : VK), Q (.bl (digN c)) H3 → te σ2 H3 Q) → R σ2 H2) → g (.str ⟨#[c]⟩) (wipe σ vs) H2 R)
    (hd : ∀ H2, Same H H2 → H2 D = some (.lst (((TL.tl z).map digN).map V.bl)) → Qd H2) :
    ∃ W : Nat → Nat → Hp → Prop, (∃ m, W 0 m (upd H D (.lst []))) ∧ ∀ i m H, W i m H →
      ((Its z).stop i H ∧ Qd H) ∨ ((Its z).go i H ∧ ∃ Nx : Hp → Prop, (∀ H', Nx H' → ∃ m', m' < m ∧ W (i + 1) m' H') ∧ ∀ x H', (Its z).yld i H x H' → g x (wipe σ vs) H' fun σ2 H2 => wipe σ2 vs = wipe σ vs ∧ tYes σ2 H2 fun b H3 =>
        if b = true then te σ2 H3 fun y H4 => ∃ acc, H4 D = some (.lst acc) ∧ acc.length < sizeLine ∧ Nx (upd H4 D (.lst (acc ++ [y]))) else Nx H3) := by
  refine lc_it walk_str (fun i H2 => Same H H2 ∧ H2 D = some (.lst (((z.cps.toList.take i).map digN).map V.bl))) ⟨same_upd nD, upd_same⟩ (fun _ _ _ _ => trivial) ?_ ?_
  · rintro i x H2 H3 hi ⟨s2, e3⟩ ⟨rfl, c, hc, rfl⟩
    refine hg c _ _ fun σ2 w2 ht => ⟨w2, ?_⟩
    refine ht _ _ ⟨_, e3, ?_, fun b o e => ?_, ?_⟩
    · rw [List.length_map, List.length_map, List.length_take]
      refine small1000 (Nat.le_trans (Nat.min_le_left _ _) ?_)
      have : z.cps.size = z.length := rfl
      omega
    · rw [upd_ne (ne_of_none e nD)]
      exact s2 _ _ e
    · rw [upd_same, map_take hc, List.map_append]
      rfl
  · rintro H2 ⟨s2, e3⟩
    refine hd H2 s2 ?_
    rw [e3, List.take_of_length_le (Nat.le_of_eq (Array.length_toList))]
theorem ok_is_integer_text (F : FnP K "is_integer_text" s_is_integer_text f fd) (T : Tz mg) : FnOk P w K mg base CX0 1 f fd ["text"] sp_isit := by
  refine F.ok sc_is_integer_text (fun vs H Q E h => ?_) (fun cdv A outer s H vs Q E hr h => ?_)
  · obtain ⟨z, rfl, _⟩ := h
    rfl
  · obtain ⟨z, rfl, hz, q⟩ := h
    refine ⟨_, PSs.nox (pss_cons (ps_if (pt_cmpR op_eq (pv 0) pe_str (nomark _)) (pss_one (ps_ret pe_bl)) pss_nil)
      (pss_cons (ps_set (i := 1) sc_is_integer_text.nd rfl (Or.inl rfl) (pe_m1 PySem.F.slot_str_removeprefix PySem.F.type_str_removeprefix mt_removeprefix (pv 0) pe_str))
      (pss_one (ps_ret (pe_and (pe_cmpR op_ne (pv 1) pe_str (nomark _)) (pe_and (pe_cmpR op_ne (pe_ix ix_str (pv 1) pe_int (fun _ _ => rfl)) pe_str (nomark _)) (pe_one (pe_callB (cr_all rfl) (by rfl) T.z_all (by decide +kernel) (pa_cons (pe_lc (own := [("sign", 2)]) (g := gName 2) (tt := tYes) rfl sc_is_integer_text.nd (pi_str (pv 1)) (blkOk_by (own := [("sign", 2)]) (N := N_is_integer_text) (sc := defScope s_is_integer_text) (by decide +kernel)) (fun _ _ _ _ _ => pg_name (i := 2) sc_is_integer_text.nd rfl (Or.inl rfl)) (fun _ _ _ _ _ => pts_nil) (fun _ _ _ _ _ => (pe_cmpR op_in_sign (pv 2) (pe_gs T.c_DIGITS) (by with_unfolding_all rfl)))) pa_nil))))))))), ?_⟩
    have hz2 := Nat.le_of_lt (small1000 (Nat.le_trans hz (by decide)))
    refine ⟨.str z, rfl, rfl, _, rfl, ?_⟩
    rw [eq_zero]
    by_cases h0 : TL.tl z = [48]
    · rw [decide_eq_true h0]
      refine iteT ?_
      have e : itx (TL.tl z) = true := by rw [h0]; rfl
      rw [e] at q
      exact q H (Same.refl H)
    · rw [decide_eq_false h0]
      refine iteF ?_
      refine ⟨.str z, rfl, ⟨z, rfl⟩, z, "-", rfl, rfl, hz2, ?_⟩
      have et := tl_cut z
      have ei : itx (TL.tl z) = (decide (cut1 (TL.tl z) ≠ []) && (decide ((cut1 (TL.tl z)).head? ≠ some 48) && (cut1 (TL.tl z)).all digN)) := by
        unfold itx
        rw [decide_eq_false h0, Bool.false_or]
      have el : (Txt.removeprefix z "-").length ≤ 900 := by
        have := cut_le (TL.tl z)
        rw [TL.len_tl, et]
        rw [TL.len_tl] at hz
        omega
      revert et el
      generalize Txt.removeprefix z "-" = y
      intro et el
      rw [← et] at ei
      have el2 := Nat.le_of_lt (small1000 (Nat.le_trans el (by decide)))
      refine ⟨.str y, rfl, rfl, ?_⟩
      rw [eq_none]
      refine ⟨_, rfl, ?_⟩
      cases e1 : TL.tl y with
      | nil =>
        rw [e1] at ei
        rw [ei] at q
        exact q H (Same.refl H)
      | cons c r =>
        rw [e1] at ei
        refine ⟨.str y, rfl, y, 0, c, rfl, rfl, el2, by rw [show y.cps.toList = c :: r from e1]; exact atI_nat (xs := c :: r) (j := 0) rfl, rfl, ?_⟩
        rw [eq_sign]
        refine ⟨_, rfl, ?_⟩
        by_cases hc : c = 48
        · have e2 : itx (TL.tl z) = false := by
            rw [ei, hc]
            rfl
          rw [e2] at q
          rw [decide_eq_true hc]
          exact q H (Same.refl H)
        · rw [decide_eq_false hc]
          refine ⟨.str y, rfl, y, rfl, fun D nD => ?_⟩
          refine all_digits el nD (fun c2 H2 R k => ?_) fun H2 s2 e3 => ?_
          · refine k _ rfl fun H3 Q3 q3 => ⟨_, rfl, c2, _, rfl, rfl, ?_⟩
            rw [dig_mem]
            exact q3
          · refine ⟨D, _, rfl, .inl (.inl e3), ?_⟩
            rw [all_id]
            have e2 : itx (TL.tl z) = (TL.tl y).all digN := by
              rw [ei, e1]
              have n1 : decide ((c :: r).head? ≠ some 48) = true := decide_eq_true fun z => hc (Option.some.inj z)
              rw [n1]
              rfl
            rw [← e2]
            exact q H2 s2
/-! ### integer_of_text -/
def sp_iof : Sp := fun vs H Q _ => ∃ z : Str, vs = [.str z] ∧ z.length ≤ 900 ∧ itx (TL.tl z) = true ∧ Q (.int (ivl (TL.tl z))) H
def readF (l : List Nat) : Int := l.foldl (fun (t : Int) (c : Nat) => t * 10 + ((c : Int) - 48)) 0
theorem read_snoc {l : List Nat} {i : Nat} {c : Nat} (h : l[i]? = some c) : readF (l.take (i + 1)) = readF (l.take i) * 10 + ((c : Int) - 48) := by
  unfold readF
  rw [List.take_add_one, h, List.foldl_append]
  rfl
theorem ok_integer_of_text (F : FnP K "integer_of_text" s_integer_of_text f fd) (T : Tz mg) : FnOk P w K mg base CX0 1 f fd ["text"] sp_iof := by
  refine F.ok sc_integer_of_text (fun vs H Q E h => ?_) (fun cdv A outer s H vs Q E hr h => ?_)
  · obtain ⟨z, rfl, _⟩ := h
    rfl
  · obtain ⟨z, rfl, hz, hi, q⟩ := h
    refine ⟨_, PSs.nox (pss_cons (ps_set (i := 1) sc_integer_of_text.nd rfl (Or.inl rfl) pe_int)
      (pss_cons (ps_for PassesOwn.never rfl (pi_str (pe_m1 PySem.F.slot_str_removeprefix PySem.F.type_str_removeprefix mt_removeprefix (pv 0) pe_str)) (pg_name (i := 2) sc_integer_of_text.nd rfl (Or.inl rfl)) (pss_one (ps_set (i := 1) sc_integer_of_text.nd rfl (Or.inl rfl) (pe_op op_add (pe_op op_mul (pv 1) pe_int) (pe_callTy call_int_str (by rfl) T.z_int (by decide +kernel) (pa_cons (pv 2) pa_nil))))))
      (pss_one (ps_ret (pe_ifExp (pt_val (pe_m1 PySem.F.slot_str_startswith PySem.F.type_str_startswith mt_startswith (pv 0) pe_str)) (pe_un un_neg (pv 1)) (pv 1)))))), ?_⟩
    have hz2 := Nat.le_of_lt (small1000 (Nat.le_trans hz (by decide)))
    refine ⟨.str z, rfl, ⟨z, rfl⟩, z, "-", rfl, rfl, hz2, ?_⟩
    have et := tl_cut z
    have hd : NumText.AllDigits (cut1 (TL.tl z)) := by
      rcases itx_cases hi with e | ⟨c, r, e, c0, hd⟩
      · rw [e]
        intro c hc
        cases List.mem_singleton.mp hc
        decide
      · rw [e]
        exact hd
    revert et
    generalize Txt.removeprefix z "-" = y
    intro et
    rw [← et] at hd
    refine ⟨y, rfl, ?_⟩
    refine for_it walk_str (fun i σ H2 => ∃ x, σ = [some (.str z), some (.int (readF ((TL.tl y).take i))), x] ∧ H2 = H) ⟨none, rfl, rfl⟩ (fun _ _ _ _ _ => trivial) ?_ ?_
    · rintro i x σ H2 H3 hi2 ⟨x0, rfl, rfl⟩ ⟨rfl, c, hc, rfl⟩
      have hc2 : (TL.tl y)[i]? = some c := by
        show y.cps.toList[i]? = some c
        rw [Array.getElem?_toList]
        exact hc
      have cd : digN c = true := digN_iff.mpr (hd c (List.mem_of_getElem? hc2))
      refine ⟨_, rfl, _, _, rfl, rfl, .inr ⟨by decide, by decide⟩, _, rfl, ⟨#[c]⟩, _, rfl, int_dig cd, by show 1 ≤ 640; decide, _, _, rfl, rfl, ?_⟩
      refine ⟨some (.str ⟨#[c]⟩), ?_, rfl⟩
      rw [read_snoc hc2]
      rfl
    · rintro σ H2 ⟨x0, rfl, rfl⟩
      have ey : (TL.tl y).take y.cps.size = TL.tl y := List.take_of_length_le (Nat.le_of_eq (Array.length_toList))
      rw [ey]
      have ev : readF (TL.tl y) = ((NumText.digitsVal (cut1 (TL.tl z)) : Nat) : Int) := by
        unfold readF NumText.digitsVal
        rw [← et]
        exact TL.fold_digits (TL.tl y) 0 hd
      rw [ev]
      refine ⟨.str z, rfl, ⟨z, rfl⟩, z, "-", rfl, rfl, _, rfl, ?_⟩
      rw [starts_dash]
      unfold ivl at q
      by_cases m : minus1 (TL.tl z) = true
      · rw [if_pos m] at q
        rw [m]
        exact ⟨_, rfl, _, rfl, q⟩
      · rw [if_neg m] at q
        rw [Bool.eq_false_iff.mpr m]
        exact ⟨_, rfl, q⟩
end
end K14

set_option Elab.async false
set_option linter.all false
set_option maxRecDepth 100000
set_option maxHeartbeats 4000000
namespace K14
open PySem PySem.Spec PyProof.Rows L2 Lw
abbrev s_iniT : Stmt := inClass (topS 4) 0
abbrev W_iniT : IniW := ⟨"__init__", "InvalidText.__init__", defArgs s_iniT, defBody s_iniT, defScope s_iniT⟩
abbrev N_iniT : List Str := ["self", "line", "__class__"]
theorem sc_iniT : NdefX.NScope N_iniT ["self", "line"] ["__class__"] (defScope s_iniT) := NdefX.nscope_by (by decide +kernel)
section
variable {P : Program} {w : World} {K : PySem.W.Frag} {mg : Str → Option Value} {base : Heap} {f : Addr} {fd : FuncData} {fN fI fT fO fC : Addr} {fdN fdI fdT fdO : FuncData} {C cc cda : Addr}
/-! ### InvalidText -/
def sp_iniT (C : Addr) : Sp := fun vs H Q _ => ∃ (a : Addr) (v : V), vs = [.ref a, v] ∧ H a = some (exo a C none) ∧ ∀ dx, H dx = none → dx ≠ a → Q .non (upd (upd H dx (exd dx [("line", v)])) a (exo a C (some dx)))
theorem ok_iniT (T : ExcK K C (tlOf "ValueError") "ValueError.__new__") (S : IniK P K mg W_iniT f cc cda C "ValueError" "ValueError.__init__") (hno : PySem.W.findIn K (.ref C) "line" = some none)
    (hfd : ∃ (oc : Value) (od : Option Addr) (osl : Array (Option Value)), K.lookup f = some ⟨oc, od, .func fd, osl⟩) : FnOk P w K mg base CX0 1 f fd ["self", "line"] (sp_iniT C) := by
  refine ini_ok (N := N_iniT) exb_V T S rfl sc_iniT rfl (fun vs H Q E h => ?_) (fun vs H Q E h => ?_) (fun L => ⟨_, rfl⟩) (fun A outer s H vs Q E hr h => ?_) hfd
  · obtain ⟨a, v, rfl, _⟩ := h
    rfl
  · obtain ⟨a, v, rfl, ha, _⟩ := h
    exact ⟨a, rfl, ha⟩
  · obtain ⟨a, v, rfl, ha, q⟩ := h
    refine ⟨_, pss_one (ps_ostB exb_V (pv 0) (pv 1)), ?_⟩
    exact ⟨v, rfl, .ref a, rfl, a, C, rfl, T, hno, ha, fun dx nd ne => q dx nd ne⟩
/-- InvalidText with this line leaves -/
def OutT (C : Addr) (H : Hp) (n : Int) (E : XK) : Prop := ∀ dx H', Same H H' → H dx = none → H' dx = some (.xd [("line", .int n)]) → E (.ref C) (some dx) H'
theorem OutT.later {H H1 : Hp} {n : Int} {E : XK} (o : OutT C H n E) (s : Same H H1) : OutT C H1 n E := fun dx H' s' nd hd => o dx H' (s.trans s') (s.free nd) hd
theorem raise_T {H : Hp} {n : Int} {E : XK} (o : OutT C H n E) : [V.int n].length ≤ 1000 ∧ ∀ a, H a = none → sp_iniT C (.ref a :: ([.int n] ++ [])) (upd H a (exo a C none))
    (fun u H2 => u = .non ∧ ∃ (dd : Addr) (fs : List (Str × V)), H2 a = some (exo a C (some dd)) ∧ H2 dd = some (exd dd fs) ∧ H dd = none ∧ E (.ref C) (some dd) (upd (del H2 a) dd (.xd fs))) (fun _ _ _ => False) := by
  refine ⟨by show 1 ≤ 1000; decide, fun a na => ⟨a, .int n, rfl, upd_same, fun dx nd ne => ⟨rfl, dx, [("line", .int n)], upd_same, ?_, ?_, ?_⟩⟩⟩
  · rw [upd_ne ne, upd_same]
  · exact (same_upd na).free nd
  · have nHd : H dx = none := (same_upd na).free nd
    refine o dx _ (fun b x e => ?_) nHd upd_same
    have ba : b ≠ a := ne_of_none e na
    have bd : b ≠ dx := ne_of_none e nHd
    rw [upd_ne bd, del_ne ba, upd_ne ba, upd_ne bd, upd_ne ba]
    exact e
/-! ### number_text -/
def smallD : PyData → Prop
  | .int i => i.natAbs < 10 ^ 60
  | .tuple [.int n, .int e] => n.natAbs < 10 ^ 60 ∧ e.natAbs < 10 ^ 60
  | _ => True
def sp_ntext (K : PySem.W.Frag) (C : Addr) : Sp := fun vs H Q E => ∃ (v : V) (d : PyData), vs = [v] ∧ Dq K H v d ∧ Hd d ∧ (numD d = false → Out K C H d E) ∧ (numD d = true → smallD d ∧ ∀ H', Same H H' → Q (.str (numTx d)) H')
theorem ok_number_text (F : FnP K "number_text" s_number_text f fd) (T : Tz mg) (O_check_numbers : OwnR P w K mg base 10 "check_numbers" (sp_check K C) fC) (O_integer_text : Own P w K mg base CX0 1 "integer_text" ["value"] sp_itext fT fdT) :
    FnOk P w K mg base (L2.CX P w) 11 f fd ["value"] (sp_ntext K C) := by
  refine F.ok sc_number_text (fun vs H Q E h => ?_) (fun cdv A outer s H vs Q E hr h => ?_)
  · obtain ⟨v, d, rfl, _⟩ := h
    rfl
  · obtain ⟨v, d, rfl, hd, hh, hbad, qq⟩ := h
    refine ⟨_, (pss_cons (ps_expr (pe_ownR O_check_numbers (takes_of rfl rfl rfl rfl) (hr.mono (by first | decide | omega)) (pa_cons (pe_tup (pa_cons (pv 0) pa_nil)) pa_nil)))
      (pss_cons (ps_if (pt_val (pe_callB call_isi (by rfl) T.z_isinstance (by decide +kernel) (pa_cons (pv 0) (pa_cons (pe_bltn (v := .ty "tuple") (by rfl) T.z_tuple (by decide +kernel) rfl) pa_nil)))) (pss_one (ps_ret (pe_join pe_str (pe_lc (own := [("part", 1)]) (g := gName 1) (tt := tYes) rfl sc_number_text.nd (pi_tup (pv 0)) (blkOk_by (own := [("part", 1)]) (N := N_number_text) (sc := defScope s_number_text) (by decide +kernel)) (fun _ _ _ _ _ => pg_name (i := 1) sc_number_text.nd rfl (Or.inl rfl)) (fun _ _ _ _ _ => pts_nil) (fun _ _ _ _ _ => (pe_own O_integer_text (hr.mono (by first | decide | omega)) (pa_cons (pv 1) pa_nil))))))) pss_nil)
      (pss_one (ps_ret (pe_own O_integer_text (hr.mono (by first | decide | omega)) (pa_cons (pv 0) pa_nil)))))), ?_⟩
    refine ⟨v, rfl, by show 1 ≤ sizeLine; decide, fun t nt => ?_⟩
    have s1 : Same H (upd H t (.tup [v])) := same_upd nt
    refine ⟨t, [v], [d], rfl, .inl (.inl upd_same), .cons (hd.same s1) .nil, ?_, ?_, ?_⟩
    · intro d' h'
      cases List.mem_singleton.mp h'
      exact hh
    · intro d' h'
      by_cases n : numD d = true
      · rw [bad_none (by intro x hx; cases List.mem_singleton.mp hx; exact n)] at h'
        cases h'
      · have n0 := Bool.eq_false_iff.mpr n
        have e : badD [d] = some d := bad_at (i := 0) (fun x hx => by simp at hx) rfl n0
        rw [e] at h'
        cases h'
        exact (hbad n0).later s1
    · intro hb H2 s2
      have n : numD d = true := by
        refine Classical.byContradiction fun n => ?_
        rw [bad_at (i := 0) (fun x hx => by simp at hx) rfl (Bool.eq_false_iff.mpr n)] at hb
        cases hb
      obtain ⟨sm, q⟩ := qq n
      have s3 := s1.trans s2
      have hd2 := hd.same s3
      refine ⟨v, rfl, v, .ty "tuple", _, _, _, rfl, .ty _, hd2.ty, kit_ty (kit_tuple d), _, rfl, ?_⟩
      rcases num_shape n with ⟨i, rfl⟩ | ⟨a, b, rfl⟩
      · refine iteF ?_
        cases hd2
        exact ⟨_, rfl, i, rfl, sm, fun H4 s4 => q H4 (s3.trans s4)⟩
      · refine iteT ?_
        cases hd2 with
        | @tup p xs _ hs hg =>
          obtain ⟨e1, e2⟩ : xs = [.int a, .int b] ∧ True := by
            cases hg with
            | cons h1 hg =>
              cases hg with
              | cons h2 hg =>
                cases hg
                cases h1
                cases h2
                exact ⟨rfl, trivial⟩
          subst e1
          refine ⟨⟨"/", rfl⟩, .ref p, rfl, p, rfl, ⟨_, hs⟩, fun D nD => ?_⟩
          have sz : ∀ i : Int, i.natAbs < 10 ^ 60 → (iTx i).length ≤ 61 := fun i h => iTx_len (k := 60) (by decide) h
          refine lc_tup (K := K) (a := p) (xs := [.int a, .int b]) (fun i H4 => Same H2 H4 ∧ H4 D = some (.lst (([iTx a, iTx b].take i).map V.str))) ⟨same_upd nD, upd_same⟩ (fun i H4 _ hp => same_t hp.1 hs) ?_ ?_
          · rintro i x H4 hx ⟨s4, e4⟩
            have go : ∀ k : Int, k.natAbs < 10 ^ 60 → x = .int k → ([iTx a, iTx b] : List Str)[i]? = some (iTx k) → i < 2 → sp_itext [x] H4 (fun y H5 => ∃ acc, H5 D = some (.lst acc) ∧ acc.length < sizeLine ∧ Same H2 (upd H5 D (.lst (acc ++ [y]))) ∧ (upd H5 D (.lst (acc ++ [y]))) D = some (.lst (([iTx a, iTx b].take (i + 1)).map V.str))) E0 := by
              rintro k hk rfl hi hi2
              refine ⟨k, rfl, hk, fun H5 s5 => ⟨_, s5 _ _ e4, ?_, fun z o e => ?_, ?_⟩⟩
              · rw [List.length_map, List.length_take]
                exact small1000 (by omega)
              · rw [upd_ne (ne_of_none e nD)]
                exact s5 _ _ (s4 _ _ e)
              · rw [upd_same, List.take_add_one, hi, List.map_append]
                rfl
            match i, hx with
            | 0, hx =>
              cases (show some (V.int a) = some x from hx)
              exact ⟨rfl, _, rfl, go a sm.1 rfl rfl (by decide)⟩
            | 1, hx =>
              cases (show some (V.int b) = some x from hx)
              exact ⟨rfl, _, rfl, go b sm.2 rfl rfl (by decide)⟩
          · rintro H4 ⟨s4, e4⟩
            refine ⟨"/", D, [iTx a, iTx b], rfl, rfl, .inl (.inl (.inl e4)), ?_, q H4 (s3.trans s4)⟩
            have l1 := sz a sm.1
            have l2 := sz b sm.2
            show ((iTx a).length + ((iTx b).length + 0)) + 2 * Str.length "/" ≤ 16777216
            have l3 : Str.length ("/" : Str) = 1 := by decide +kernel
            omega
end
end K14

set_option Elab.async false
set_option linter.all false
set_option maxRecDepth 100000
set_option maxHeartbeats 4000000
namespace K14
open PySem PySem.Spec PyProof.Rows L2 Lw
section
variable {P : Program} {w : World} {K : PySem.W.Frag} {mg : Str → Option Value} {base : Heap} {f : Addr} {fd : FuncData} {fN fI fT fO fC : Addr} {fdN fdI fdT fdO : FuncData} {C cc cda : Addr}
/-! ### parse_number -/
def isS : PyData → Bool
  | .str _ => true
  | _ => false
theorem kit_str (d : PyData) : kitB (tyD d) "str" = some (isS d) := by
  cases d
  all_goals
    simp only [tyD, isS]
    decide +kernel
def sp_parse (K : PySem.W.Frag) (C : Addr) : Sp := fun vs H Q E => ∃ (v : V) (d : PyData), vs = [v] ∧ Dq K H v d ∧ (isS d = false → OutT C H 0 E) ∧
  ∀ z, d = .str z → z.length ≤ 100 ∧ (parseD z = none → OutT C H 1 E) ∧ ∀ d', parseD z = some d' → ∀ v' H', Same H H' → Dq K H' v' d' → Q v' H'
theorem strs_get {ws : List Str} {i : Nat} {x : V} (h : (ws.map V.str)[i]? = some x) : ∃ z, ws[i]? = some z ∧ x = .str z := by
  rw [List.getElem?_map] at h
  obtain ⟨z, e, rfl⟩ := Option.map_eq_some_iff.mp h
  exact ⟨z, e, rfl⟩
theorem slim_word (ws : List Str) (h : ws.length ≤ 200) : Lean_ (oneD (wordsD ws)) := by
  intro ds e
  have l : (wordsD ws).length ≤ 200 := by
    unfold wordsD
    rw [List.length_map]
    exact h
  match q : wordsD ws with
  | [d] =>
    rw [q] at e
    have e' : d = .tuple ds := e
    have : d ∈ wordsD ws := by
      rw [q]
      exact List.mem_singleton.mpr rfl
    obtain ⟨z, _, rfl⟩ := List.mem_map.mp this
    cases e'
  | [] =>
    rw [q] at e
    cases e
    show 0 ≤ 900
    decide
  | a :: b :: r =>
    rw [q] at e l
    cases e
    omega
theorem words_dq {H : Hp} : ∀ ws : List Str, DqAll K H (ws.map fun x => V.int (ivl (TL.tl x))) (wordsD ws)
  | [] => .nil
  | _ :: r => .cons (.int _) (words_dq r)
theorem ok_parse_number (F : FnP K "parse_number" s_parse_number f fd) (T : Tz mg) (E_InvalidText : OwnE P w K mg base 1 "InvalidText" ["self", "line"] (sp_iniT C) C fI fdI (tlOf "ValueError") "ValueError.__new__")
    (O_is_integer_text : Own P w K mg base CX0 1 "is_integer_text" ["text"] sp_isit fT fdT) (O_integer_of_text : Own P w K mg base CX0 1 "integer_of_text" ["text"] sp_iof fO fdO) (O_is_number : Own P w K mg base CX0 2 "is_number" ["value"] (sp_num K) fN fdN) :
    FnOk P w K mg base (L2.CX P w) 4 f fd ["text"] (sp_parse K C) := by
  refine F.ok sc_parse_number (fun vs H Q E h => ?_) (fun cdv A outer s H vs Q E hr h => ?_)
  · obtain ⟨v, d, rfl, _⟩ := h
    rfl
  · obtain ⟨v, d, rfl, hd, hno, hz⟩ := h
    refine ⟨_, (pss_cons (ps_if (pt_not (pt_val (pe_callB call_isi (by rfl) T.z_isinstance (by decide +kernel) (pa_cons (pv 0) (pa_cons (pe_bltn (v := .ty "str") (by rfl) T.z_str (by decide +kernel) rfl) pa_nil))))) (pss_one (ps_raise rfl (takes_of rfl rfl rfl rfl) (pmk_e exb_V E_InvalidText (hr.mono (by first | decide | omega)) (pa_cons pe_int pa_nil)))) pss_nil)
      (pss_cons (ps_set (i := 1) sc_parse_number.nd rfl (Or.inl rfl) (pe_split (pv 0) pe_str))
      (pss_cons (ps_if (pt_not (pt_val (pe_callB (cr_all rfl) (by rfl) T.z_all (by decide +kernel) (pa_cons (pe_lc (own := [("word", 4)]) (g := gName 4) (tt := tYes) rfl sc_parse_number.nd (pi_list (pv 1)) (blkOk_by (own := [("word", 4)]) (N := N_parse_number) (sc := defScope s_parse_number) (by decide +kernel)) (fun _ _ _ _ _ => pg_name (i := 4) sc_parse_number.nd rfl (Or.inl rfl)) (fun _ _ _ _ _ => pts_nil) (fun _ _ _ _ _ => (pe_own O_is_integer_text (hr.mono (by first | decide | omega)) (pa_cons (pv 4) pa_nil)))) pa_nil)))) (pss_one (ps_raise rfl (takes_of rfl rfl rfl rfl) (pmk_e exb_V E_InvalidText (hr.mono (by first | decide | omega)) (pa_cons pe_int pa_nil)))) pss_nil)
      (pss_cons (ps_setLc (i := 2) (own := [("word", 4)]) (g := gName 4) (tt := tYes) rfl sc_parse_number.nd rfl rfl (sw_true rfl rfl rfl (by decide +kernel)) (pi_list (pv 1)) (blkOk_by (own := [("word", 4)]) (N := N_parse_number) (sc := defScope s_parse_number) (by decide +kernel)) (fun _ _ _ _ _ => pg_name (i := 4) sc_parse_number.nd rfl (Or.inl rfl)) (fun _ _ _ _ _ => pts_nil) (fun _ _ _ _ _ => (pe_own O_integer_of_text (hr.mono (by first | decide | omega)) (pa_cons (pv 4) pa_nil))))
      (pss_cons (ps_set (i := 3) sc_parse_number.nd rfl (Or.inl rfl) (pe_ifExp (pt_cmpR op_eq (pe_callB call_len_seq (by rfl) T.z_len (by decide +kernel) (pa_cons (pv 2) pa_nil)) pe_int (nomark _)) (pe_ix ix_list (pv 2) pe_int (fun _ _ => rfl)) (pe_callTy call_tuple_of (by rfl) T.z_tuple (by decide +kernel) (pa_cons (pv 2) pa_nil))))
      (pss_cons (ps_if (pt_not (pt_val (pe_own O_is_number (hr.mono (by first | decide | omega)) (pa_cons (pv 3) pa_nil)))) (pss_one (ps_raise rfl (takes_of rfl rfl rfl rfl) (pmk_e exb_V E_InvalidText (hr.mono (by first | decide | omega)) (pa_cons pe_int pa_nil)))) pss_nil)
      (pss_one (ps_ret (pv 3))))))))), ?_⟩
    refine ⟨v, rfl, v, .ty "str", _, _, _, rfl, .ty _, hd.ty, kit_ty (kit_str d), _, rfl, ?_⟩
    by_cases hs : isS d = true
    case neg =>
      rw [Bool.eq_false_iff.mpr hs]
      exact iteT (raise_T (hno (Bool.eq_false_iff.mpr hs)))
    rw [hs]
    refine iteF ?_
    cases hd with
    | str z =>
      obtain ⟨lz, h1, h2⟩ := hz z rfl
      refine ⟨.str z, rfl, ⟨z, rfl⟩, z, "/", rfl, rfl, by decide +kernel, small1000 (by omega), fun p np => ?_⟩
      have s1 : Same H (upd H p (.lst ((Txt.split z "/").map V.str))) := same_upd np
      have hp : (upd H p (.lst ((Txt.split z "/").map V.str))) p = some (.lst ((Txt.split z "/").map V.str)) := upd_same
      have wl := Lw.split_len z
      have wp : ∀ x ∈ Txt.split z "/", x.length ≤ 100 := fun x hx => Nat.le_trans (split_part hx) lz
      have n1 := fun h => h1 (parse_none1 (z := z) h)
      have n2 := fun h h' => h1 (parse_none2 (z := z) h h')
      have y1 := fun h h' => h2 _ (parse_some (z := z) h h')
      have ne := split_ne z
      revert s1 hp wl wp n1 n2 y1 ne
      generalize upd H p (.lst ((Txt.split z "/").map V.str)) = H1
      generalize Txt.split z "/" = ws
      intro s1 hp wl wp n1 n2 y1 ne
      -- all of them texts of integers
      refine ⟨.ref p, rfl, p, rfl, ⟨_, .inl (.inl hp)⟩, fun D nD => ?_⟩
      refine lc_list (K := K) (a := p) (xs := ws.map V.str) (fun i H2 => Same H1 H2 ∧ H2 D = some (.lst (((ws.take i).map fun x => itx (TL.tl x)).map V.bl))) ⟨same_upd nD, upd_same⟩ (fun i H2 _ q => q.1.seq (.inl (.inl hp))) ?_ ?_
      · rintro i x H2 hx ⟨s2, e2⟩
        obtain ⟨y, hy, rfl⟩ := strs_get hx
        have hi := (List.getElem?_eq_some_iff.mp hy).1
        refine ⟨rfl, _, rfl, y, rfl, Nat.le_trans (wp y (List.mem_of_getElem? hy)) (by decide), fun H3 s3 => ⟨_, s3 _ _ e2, ?_, fun b o e => ?_, ?_⟩⟩
        · rw [List.length_map, List.length_map, List.length_take]
          exact small1000 (by omega)
        · rw [upd_ne (ne_of_none e nD)]
          exact s3 _ _ (s2 _ _ e)
        · rw [upd_same, List.take_add_one, hy, List.map_append, List.map_append]
          rfl
      · rintro H2 ⟨s2, e2⟩
        refine ⟨D, _, rfl, .inl (.inl e2), _, rfl, ?_⟩
        rw [List.length_map, List.take_length, List.all_map]
        have ea : (ws.all (id ∘ fun x => itx (TL.tl x))) = allI ws := rfl
        rw [ea]
        by_cases ha : allI ws = true
        case neg =>
          rw [Bool.eq_false_iff.mpr ha]
          exact iteT (raise_T ((n1 (Bool.eq_false_iff.mpr ha)).later (s1.trans s2)))
        rw [ha]
        refine iteF ?_
        have hp2 := s2 _ _ hp
        have s12 := s1.trans s2
        refine ⟨.ref p, rfl, p, rfl, ⟨_, .inl (.inl hp2)⟩, fun D2 nD2 => ?_⟩
        refine lc_list (K := K) (a := p) (xs := ws.map V.str) (fun i H3 => Same H2 H3 ∧ H3 D2 = some (.lst ((ws.take i).map fun x => V.int (ivl (TL.tl x))))) ⟨same_upd nD2, upd_same⟩ (fun i H3 _ q => q.1.seq (.inl (.inl hp2))) ?_ ?_
        · rintro i x H3 hx ⟨s3, e3⟩
          obtain ⟨y, hy, rfl⟩ := strs_get hx
          have hi := (List.getElem?_eq_some_iff.mp hy).1
          have it : itx (TL.tl y) = true := List.all_eq_true.mp ha y (List.mem_of_getElem? hy)
          refine ⟨rfl, _, rfl, y, rfl, Nat.le_trans (wp y (List.mem_of_getElem? hy)) (by decide), it, _, e3, ?_, fun b o e => ?_, ?_⟩
          · rw [List.length_map, List.length_take]
            exact small1000 (by omega)
          · rw [upd_ne (ne_of_none e nD2)]
            exact s3 _ _ e
          · rw [upd_same, List.take_add_one, hy, List.map_append]
            rfl
        · rintro H3 ⟨s3, e3⟩
          rw [List.length_map, List.take_length] at e3
          have s13 := s12.trans s3
          have lean := slim_word ws (by omega)
          have tail : ∀ v H4, Same H3 H4 → Dq K H4 v (oneD (wordsD ws)) → ∀ R : Bool → Hp → Prop, (∀ H5, Same H4 H5 → R (numD (oneD (wordsD ws))) H5) → sp_num K [v] H4 (fun x H5 => ∃ c, x = .bl c ∧ R c H5) E0 := fun v H4 s4 dv R k => ⟨v, _, rfl, dv, lean, fun H5 s5 => ⟨_, rfl, k H5 s5⟩⟩
          refine ⟨.ref D2, rfl, D2, _, rfl, .inl (.inl (.inl e3)), rfl, _, rfl, ?_⟩
          by_cases l1 : ws.length = 1
          · have ew : ∃ x, ws = [x] := by
              match ws, l1 with
              | [x], _ => exact ⟨x, rfl⟩
            obtain ⟨x, rfl⟩ := ew
            rw [decide_eq_true (by rfl)]
            refine iteT ⟨.ref D2, rfl, D2, _, 0, _, rfl, rfl, .inl (.inl e3), rfl, ?_⟩
            refine ⟨_, rfl, tail _ H3 (Same.refl H3) (.int _) _ fun H5 s5 => ?_⟩
            exact iteF ⟨_, rfl, y1 ha rfl _ H5 (s13.trans s5) (.int _)⟩
          · rw [decide_eq_false (by intro q; have := V.int.inj q; rw [List.length_map] at this; omega)]
            have eo : oneD (wordsD ws) = .tuple (wordsD ws) := by
              match ws, l1 with
              | [], _ => rfl
              | _ :: _ :: _, _ => rfl
            refine iteF ⟨.ref D2, rfl, D2, _, rfl, .inl ⟨.inl (.inl e3), fun t nt => ?_⟩⟩
            have dv : Dq K (upd H3 t (.tup (ws.map fun x => V.int (ivl (TL.tl x))))) (.ref t) (oneD (wordsD ws)) := by
              rw [eo]
              refine .tup (.inl (.inl upd_same)) ?_
              exact words_dq ws
            have s4 : Same H3 (upd H3 t (.tup (ws.map fun x => V.int (ivl (TL.tl x))))) := same_upd nt
            revert dv s4
            generalize upd H3 t (.tup (ws.map fun x => V.int (ivl (TL.tl x)))) = H4
            intro dv s4
            refine ⟨_, rfl, tail _ H4 s4 dv _ fun H5 s5 => ?_⟩
            by_cases nn : numD (oneD (wordsD ws)) = true
            · rw [nn]
              exact iteF ⟨_, rfl, y1 ha nn _ H5 (s13.trans (s4.trans s5)) (dv.same s5)⟩
            · rw [Bool.eq_false_iff.mpr nn]
              exact iteT (raise_T ((n2 ha (Bool.eq_false_iff.mpr nn)).later (s13.trans (s4.trans s5))))
    | _ => cases hs
end
end K14

set_option Elab.async false
set_option linter.all false
set_option maxRecDepth 100000
set_option maxHeartbeats 4000000
namespace K14
open PySem PySem.Spec PyProof.Rows L2 Lw
/-- a value that is known is set -/
theorem s_one {te : TE} {i : Nat} {u : TS} {D : Ends} {σ : L2.St} {H : Hp} (v : V) (h : ∀ Q : VK, Q v H → te σ H Q) (k : u D (σ.set i (some v)) H) : tSeq (tAsg te (gName i)) u D σ H := h _ k
section
variable {P : Program} {w : World} {K : PySem.W.Frag} {mg : Str → Option Value} {base : Heap} {f : Addr} {fd : FuncData} {fN fI fT fO fC : Addr} {fdN fdI fdT fdO : FuncData} {C cc cda : Addr}
/-! ### written -/
def sp_written (K : PySem.W.Frag) : Sp := fun vs H Q _ => ∃ (v : V) (d : PyData), vs = [v] ∧ Dq K H v d ∧ numD d = true ∧ smallD d ∧ Q (.str (numTx d)) H
theorem log_small {i : Int} (h : i.natAbs < 10 ^ 60) : i.natAbs.log2 < 1920 := Nat.lt_of_lt_of_le (PySem.Flt.log2_lt_of (k := 200) (by decide) (Nat.lt_of_lt_of_le h (by decide +kernel))) (by decide)
theorem len60 {i : Int} (h : i.natAbs < 10 ^ 60) : (iTx i).length ≤ 61 := iTx_len (k := 60) (by decide) h
theorem ok_written (F : FnP K "_law_written" s_written f fd) (T : Tz mg) : FnOk P w K mg base CX0 1 f fd ["_law_thing"] (sp_written K) := by
  refine F.ok sc_written (fun vs H Q E h => ?_) (fun cdv A outer s H vs Q E hr h => ?_)
  · obtain ⟨v, d, rfl, _⟩ := h
    rfl
  · obtain ⟨v, d, rfl, hd, n, sm, q⟩ := h
    refine ⟨_, PSs.nox (pss_one (ps_ret (pe_ifExp (pt_val (pe_callB call_isi (by rfl) T.z_isinstance (by decide +kernel) (pa_cons (pv 0) (pa_cons (pe_bltn (v := .ty "tuple") (by rfl) T.z_tuple (by decide +kernel) rfl) pa_nil)))) (pe_op op_add_str (pe_op op_add_str (pe_callTy call_str_int (by rfl) T.z_str (by decide +kernel) (pa_cons (pe_ix ix_tup (pv 0) pe_int (fun _ _ => rfl)) pa_nil)) pe_str) (pe_callTy call_str_int (by rfl) T.z_str (by decide +kernel) (pa_cons (pe_ix ix_tup (pv 0) pe_int (fun _ _ => rfl)) pa_nil))) (pe_callTy call_str_int (by rfl) T.z_str (by decide +kernel) (pa_cons (pv 0) pa_nil))))), ?_⟩
    refine ⟨v, rfl, v, .ty "tuple", _, _, _, rfl, .ty _, hd.ty, kit_ty (kit_tuple d), _, rfl, ?_⟩
    rcases num_shape n with ⟨i, rfl⟩ | ⟨a, b, rfl⟩
    · refine iteF ?_
      cases hd
      exact ⟨_, rfl, i, rfl, log_small sm, q⟩
    · refine iteT ?_
      cases hd with
      | @tup p xs _ hs hg =>
        have e1 : xs = [.int a, .int b] := by
          cases hg with
          | cons h1 hg =>
            cases hg with
            | cons h2 hg =>
              cases hg
              cases h1
              cases h2
              rfl
        subst e1
        have l1 := len60 sm.1
        have l2 := len60 sm.2
        have l3 : Str.length ("/" : Str) = 1 := by decide +kernel
        have j : (iTx a ++ ("/" : Str)) ++ iTx b = numTx (.tuple [.int a, .int b]) := by
          show _ = Txt.join "/" [iTx a, iTx b]
          rw [TL.join_eq]
          rfl
        refine ⟨.ref p, rfl, p, _, 0, _, rfl, rfl, hs, rfl, a, rfl, log_small sm.1, iTx a, "/", rfl, rfl, ?_, .ref p, rfl, p, _, 1, _, rfl, rfl, hs, rfl, b, rfl, log_small sm.2, iTx a ++ "/", iTx b, rfl, rfl, ?_, ?_⟩
        · exact Nat.le_of_lt (small1000 (by omega))
        · rw [strLen_append]
          exact Nat.le_of_lt (small1000 (by omega))
        · rw [j]
          exact q
/-! ### is_plain -/
def sp_plain : Sp := fun vs H Q _ => ∃ (z : Str) (s : Bool), vs = [.str z, .bl s] ∧ z.length ≤ 900 ∧ ∀ H', Same H H' → Q (.bl (plainL (TL.tl z) s)) H'
theorem ok_is_plain (F : FnP K "_law_is_plain" s_is_plain f fd) (T : Tz mg) : FnOk P w K mg base CX0 1 f fd ["_law_word", "_law_is_signed"] sp_plain := by
  refine F.ok sc_is_plain (fun vs H Q E h => ?_) (fun cdv A outer s H vs Q E hr h => ?_)
  · obtain ⟨z, s, rfl, _⟩ := h
    rfl
  · obtain ⟨z, sg, rfl, hz, q⟩ := h
    refine ⟨_, PSs.nox (pss_cons (ps_set (i := 2) sc_is_plain.nd rfl (Or.inl rfl) (pe_ifExp (PW.pt (pw_and (pt_val (pv 1)) (pw_and1 (pt_cmpR op_eq (pe_slice sl_str (pv 0) po_none (po_some pe_int)) pe_str (nomark _))))) (pe_slice sl_str (pv 0) (po_some pe_int) po_none) (pv 0)))
      (pss_cons (ps_if (PW.pt (pw_or (pt_cmpR op_eq (pv 2) pe_str (nomark _)) (pw_or1 (pt_not (pt_val (pe_callB (cr_all rfl) (by rfl) T.z_all (by decide +kernel) (pa_cons (pe_lc (own := [("_law_sign", 3)]) (g := gName 3) (tt := tYes) rfl sc_is_plain.nd (pi_str (pv 2)) (blkOk_by (own := [("_law_sign", 3)]) (N := N_is_plain) (sc := defScope s_is_plain) (by decide +kernel)) (fun _ _ _ _ _ => pg_name (i := 3) sc_is_plain.nd rfl (Or.inl rfl)) (fun _ _ _ _ _ => pts_nil) (fun _ _ _ _ _ => (pe_cmpR op_in_sign (pv 3) pe_str (by with_unfolding_all rfl)))) pa_nil))))))) (pss_one (ps_ret pe_bl)) pss_nil)
      (pss_one (ps_ret (pe_or (pe_and (pe_cmpR op_eq (pv 2) pe_str (nomark _)) (pe_one (pe_cmpR op_eq (pv 0) pe_str (nomark _)))) (pe_one (pe_cmpR op_ne (pe_ix ix_str (pv 2) pe_int (fun _ _ => rfl)) pe_str (nomark _)))))))), ?_⟩
    have hz2 := Nat.le_of_lt (small1000 (Nat.le_trans hz (by decide)))
    have ey : ∃ y : Str, TL.tl y = plainR (TL.tl z) sg ∧ y.length ≤ 900 ∧ ((sg && minus1 (TL.tl z)) = true → y = cutS z (some 1) none) ∧ ((sg && minus1 (TL.tl z)) = false → y = z) := by
      by_cases m : (sg && minus1 (TL.tl z)) = true
      · refine ⟨cutS z (some 1) none, ?_, Nat.le_trans (cutS_length z _ _) hz, fun _ => rfl, fun h => by rw [m] at h; cases h⟩
        unfold plainR
        rw [if_pos m, tl_tail1]
        rw [Bool.and_eq_true] at m
        have e := cut_yes m.2
        conv => lhs; rw [e]
        rfl
      · refine ⟨z, ?_, hz, fun h => absurd h m, fun _ => rfl⟩
        unfold plainR
        rw [if_neg m]
    obtain ⟨y, et, el, c1, c2⟩ := ey
    refine s_one (.str y) (fun Q2 q2 => ?_) ?_
    · refine ⟨_, rfl, _, rfl, ?_⟩
      cases sg with
      | false =>
        rw [c2 rfl] at q2
        exact ⟨_, rfl, q2⟩
      | true =>
        rw [Bool.true_and] at c1 c2
        refine iteT ⟨_, rfl, 1, rfl, z, rfl, hz2, rfl, _, rfl, ?_⟩
        rw [head_dash]
        by_cases m : minus1 (TL.tl z) = true
        · rw [m]
          rw [c1 m] at q2
          exact iteT ⟨_, rfl, 1, rfl, z, rfl, hz2, q2⟩
        · rw [Bool.eq_false_iff.mpr m]
          rw [c2 (Bool.eq_false_iff.mpr m)] at q2
          exact iteF ⟨_, rfl, q2⟩
    have el2 := Nat.le_of_lt (small1000 (Nat.le_trans el (by decide)))
    have ep : plainL (TL.tl z) sg = (decide (TL.tl y ≠ []) && ((TL.tl y).all digN && (decide (TL.tl z = [48]) || decide ((TL.tl y).head? ≠ some 48)))) := by
      unfold plainL
      rw [et]
    have yz : TL.tl z = [48] → TL.tl y = [48] := fun h => by
      rw [et, h]
      unfold plainR
      rw [show minus1 [48] = false from rfl, Bool.and_false, if_neg (by decide)]
    refine ⟨.str y, rfl, rfl, _, rfl, ?_⟩
    rw [eq_none]
    cases e1 : TL.tl y with
    | nil =>
      rw [e1] at ep
      rw [ep] at q
      exact q H (Same.refl H)
    | cons c r =>
      rw [e1] at ep
      refine iteF ?_
      refine ⟨.str y, rfl, y, rfl, fun D nD => ?_⟩
      refine all_digits el nD (fun c2 H2 R k => ?_) fun H2 s2 e3 => ?_
      · refine k _ rfl fun H3 Q3 q3 => ⟨_, rfl, c2, _, rfl, rfl, ?_⟩
        rw [dig_mem]
        exact q3
      · refine ⟨D, _, rfl, .inl (.inl e3), _, rfl, ?_⟩
        rw [all_id, e1]
        by_cases ad : (c :: r).all digN = true
        case neg =>
          have e2 : plainL (TL.tl z) sg = false := by
            rw [ep, Bool.eq_false_iff.mpr ad]
            rfl
          rw [e2] at q
          rw [Bool.eq_false_iff.mpr ad]
          exact iteT (q H2 s2)
        rw [ad]
        refine iteF ?_
        have e2 : plainL (TL.tl z) sg = (decide (TL.tl z = [48]) || decide (c ≠ 48)) := by
          rw [ep, ad]
          have n1 : decide ((c :: r).head? ≠ some 48) = decide (c ≠ 48) := by
            rw [Bool.eq_iff_iff, decide_eq_true_eq, decide_eq_true_eq]
            exact ⟨fun h z => h (by rw [z]; rfl), fun h z => h (Option.some.inj z)⟩
          rw [n1]
          rfl
        have at0 : atI y.cps.toList 0 = some c := by
          rw [show y.cps.toList = c :: r from e1]
          exact atI_nat (xs := c :: r) (j := 0) rfl
        refine ⟨.str y, rfl, rfl, _, rfl, ?_⟩
        rw [eq_zero, e1]
        by_cases y0 : (c :: r) = [48]
        · rw [decide_eq_true y0]
          refine iteT ⟨.str z, rfl, rfl, _, rfl, ?_⟩
          rw [eq_zero]
          by_cases z0 : TL.tl z = [48]
          · rw [decide_eq_true z0]
            rw [e2, decide_eq_true z0, Bool.true_or] at q
            exact q H2 s2
          · rw [decide_eq_false z0]
            refine iteF ⟨.str y, rfl, y, 0, c, rfl, rfl, el2, at0, rfl, ?_⟩
            rw [eq_sign]
            rw [e2, decide_eq_false z0, Bool.false_or] at q
            have e4 : decide (c ≠ 48) = !decide (c = 48) := by
              by_cases h : c = 48 <;> simp [h]
            rw [e4] at q
            exact q H2 s2
        · rw [decide_eq_false y0]
          have z0 : ¬ TL.tl z = [48] := fun h => y0 (by rw [← e1]; exact yz h)
          refine ⟨_, rfl, ?_⟩
          refine iteF ⟨.str y, rfl, y, 0, c, rfl, rfl, el2, at0, rfl, ?_⟩
          rw [eq_sign]
          rw [e2, decide_eq_false z0, Bool.false_or] at q
          have e4 : decide (c ≠ 48) = !decide (c = 48) := by
            by_cases h : c = 48 <;> simp [h]
          rw [e4] at q
          exact q H2 s2
end
end K14

set_option Elab.async false
set_option linter.all false
set_option maxRecDepth 100000
set_option maxHeartbeats 4000000
namespace K14
open PySem PySem.Spec PyProof.Rows L2 Lw
/-- the classes that the law names -/
structure Tc (K : PySem.W.Frag) (mg : Str → Option Value) (C CT c1 c2 c3 c4 : Addr) : Prop where
  m_InvalidNumber : mg "InvalidNumber" = some (.ref C)
  m_InvalidText : mg "InvalidText" = some (.ref CT)
  m_LastheldError : mg "LastheldError" = some (.ref c1)
  m_LimitError : mg "LimitError" = some (.ref c2)
  m_MissingError : mg "MissingError" = some (.ref c3)
  m_StateError : mg "StateError" = some (.ref c4)
  xN : PySem.W.exmOne K (.ref C) (.ref C) = some true
  xT : PySem.W.exmOne K (.ref CT) (.ref CT) = some true
  ec : ExcC K CT
  xfN : XfC K C
  xfT : XfC K CT
  hnoN : PySem.W.findIn K (.ref C) "value" = some none
  hnoT : PySem.W.findIn K (.ref CT) "line" = some none
  kT : PySem.W.kitAny K (.ref CT) [.ref C, .ref c2, .ref c3, .ref c4] = some false
  kL : PySem.W.kitOne K (.ref CT) (.ref c1) = some true
section
variable {P : Program} {w : World} {K : PySem.W.Frag} {mg : Str → Option Value} {base : Heap} {f : Addr} {fd : FuncData} {fN fI fT fO fC fR : Addr} {fdN fdI fdT fdO fdR : FuncData} {C CT c1 c2 c3 c4 : Addr}
def sp_told (K : PySem.W.Frag) : Sp := fun vs H Q _ => ∃ (v : V) (d : PyData), vs = [v] ∧ Dq K H v d ∧ (∀ z, d = .str z → z.length ≤ 100) ∧ ∀ v' H', Same H H' → Dq K H' v' (toldD d) → Q v' H'
theorem told_other {d : PyData} (h : isS d = false) : toldD d = refD 0 := by
  cases d with
  | str z => cases h
  | _ => rfl
theorem dq_ref {H : Hp} {l : Addr} {n : Int} (h : H l = some (.lst [.str "refused", .int n, .bl true])) : Dq K H (.ref l) (refD n) := .lst (.inl (.inl h)) (.cons (.str _) (.cons (.int n) (.cons (.bl true) .nil)))
/-! ### parsed -/
theorem ok_parsed (F : FnP K "_law_parsed" s_parsed f fd) (T : Tz mg) (TC : Tc K mg C CT c1 c2 c3 c4) (O_parse_number : OwnR P w K mg base 4 "parse_number" (sp_parse K CT) fC) : FnOk P w K mg base CX0 5 f fd ["_law_words"] (sp_told K) := by
  refine F.ok sc_parsed (fun vs H Q E h => ?_) (fun cdv A outer s H vs Q E hr h => ?_)
  · obtain ⟨v, d, rfl, _⟩ := h
    rfl
  · obtain ⟨v, d, rfl, hd, hz, qq⟩ := h
    refine ⟨_, PSs.nox (pss_cons (ps_set (i := 1) sc_parsed.nd rfl (Or.inl rfl) pe_non)
      (pss_cons (ps_try_as (i := 2) rfl rfl sc_parsed.nd rfl rfl ⟨rfl, by decide, .inl TC.m_InvalidText⟩ takes0
        (fun W pn xe tk _ => pss_one (ps_set (i := 1) sc_parsed.nd rfl (Or.inl rfl) (pe_ownR O_parse_number tk hr (pa_cons (pv 0) pa_nil))))
        (fun a oe cls d pn hz hf => pss_cons (ps_set (i := 3) sc_parsed.nd rfl (Or.inl rfl) (pe_callB (call_isXT hz hf) (by rfl) T.z_isinstance (by decide +kernel) (pa_cons (pv 2) (pa_cons (pe_tup (pa_cons (pe_glob (v := .ref C) (by rfl) TC.m_InvalidNumber rfl) (pa_cons (pe_glob (v := .ref c2) (by rfl) TC.m_LimitError rfl) (pa_cons (pe_glob (v := .ref c3) (by rfl) TC.m_MissingError rfl) (pa_cons (pe_glob (v := .ref c4) (by rfl) TC.m_StateError rfl) pa_nil))))) pa_nil))))
          (pss_one (ps_set (i := 1) sc_parsed.nd rfl (Or.inl rfl) (pe_lst (pa_cons pe_str (pa_cons (pe_xf TC.xfT TC.hnoT hz hf (pv 2)) (pa_cons (pe_and (pe_callB (call_isX hz hf) (by rfl) T.z_isinstance (by decide +kernel) (pa_cons (pv 2) (pa_cons (pe_glob (v := .ref c1) (by rfl) TC.m_LastheldError rfl) pa_nil))) (pe_one (pe_not (pv 3)))) pa_nil))))))))
      (pss_one (ps_ret (pv 1))))), ?_⟩
    have suite : ∀ n : Int, toldD d = refD n → _ := fun n en => (show OutT CT H n (WE (wAs K (.ref CT) 2 (fun a cls d => tSeq (tAsg (tCB (rIsXT K a cls d) (tCons (tVar 2) (tCons (tTup (tCons (tC (.ref C)) (tCons (tC (.ref c2)) (tCons (tC (.ref c3)) (tCons (tC (.ref c4)) tNil))))) tNil))) (gName 3))
          (tAsg (tLst (tCons (tC (.str "refused")) (tCons (tXf a cls d CT "line" (tVar 2)) (tCons (tAndV (tCB (rIsX K a cls d) (tCons (tVar 2) (tCons (tC (.ref c1)) tNil))) (tNotV (tVar 3))) tNil)))) (gName 1))) (fun _ _ _ _ => False) { nx := fun σ' H' => tRet (tVar 1) { nx := fun _ H' => Q .non H', rt := Q } σ' H', rt := Q }) [some v, some .non, none, none]) from by
      intro dx H' s' nd hxd
      refine ⟨true, TC.xT, fun _ a na => ?_, fun z => nomatch z⟩
      refine ⟨.ref a, rfl, by show 4 ≤ sizeLine; decide, fun tp ntp => ?_⟩
      have hx2 : (upd H' tp (.tup [.ref C, .ref c2, .ref c3, .ref c4])) dx = some (.xd [("line", .int n)]) := by
        rw [upd_ne (ne_of_none hxd ntp)]
        exact hxd
      refine ⟨CT, dx, tp, _, _, false, _, rfl, rfl, TC.ec, rfl, upd_same, .cons (.own _) (.cons (.own _) (.cons (.own _) (.cons (.own _) .nil))), TC.kT, hx2, ?_⟩
      refine ⟨.ref a, rfl, rfl, rfl, dx, _, .int n, rfl, hx2, rfl, .ref a, rfl, CT, dx, .ref c1, _, true, _, rfl, rfl, TC.ec, rfl, .own _, TC.kL, hx2, _, rfl, ?_⟩
      refine iteT ⟨_, rfl, _, rfl, by show 3 ≤ sizeLine; decide, fun m nm => ?_⟩
      refine ⟨_, rfl, qq _ _ (s'.trans ((same_upd ntp).trans (same_upd nm))) ?_⟩
      rw [en]
      exact dq_ref upd_same)
    refine ⟨v, rfl, v, d, rfl, hd, fun h0 => suite 0 (told_other h0), fun z e => ?_⟩
    subst e
    refine ⟨hz z rfl, fun h1 => suite 1 (told_none h1), fun d' h1 v' H' s' dv => ⟨_, rfl, qq _ H' s' ?_⟩⟩
    show Dq K H' v' (toldS z)
    rw [told_some h1]
    exact dv
/-! ### refused -/
def sp_refused (K : PySem.W.Frag) : Sp := fun vs H Q _ => ∃ (v : V) (d : PyData), vs = [v] ∧ Dq K H v d ∧ Hd d ∧ numD d = false ∧ ∀ v' H', Same H H' → Dq K H' v' (.list [d]) → Q v' H'
theorem ok_refused (F : FnP K "_law_refused" s_refused f fd) (T : Tz mg) (TC : Tc K mg C CT c1 c2 c3 c4) (O_number_text : OwnR P w K mg base 11 "number_text" (sp_ntext K C) fC) : FnOk P w K mg base CX0 12 f fd ["_law_thing"] (sp_refused K) := by
  refine F.ok sc_refused (fun vs H Q E h => ?_) (fun cdv A outer s H vs Q E hr h => ?_)
  · obtain ⟨v, d, rfl, _⟩ := h
    rfl
  · obtain ⟨v, d, rfl, hd, hh, hn, qq⟩ := h
    refine ⟨_, PSs.nox (pss_cons (ps_set (i := 1) sc_refused.nd rfl (Or.inl rfl) pe_non)
      (pss_cons (ps_try_as (i := 2) rfl rfl sc_refused.nd rfl rfl ⟨rfl, by decide, .inl TC.m_InvalidNumber⟩ takes0
        (fun W pn xe tk _ => pss_one (ps_expr (pe_ownR O_number_text tk hr (pa_cons (pv 0) pa_nil))))
        (fun a oe cls d pn hz hf => pss_one (ps_set (i := 1) sc_refused.nd rfl (Or.inl rfl) (pe_lst (pa_cons (pe_xf TC.xfN TC.hnoN hz hf (pv 2)) pa_nil)))))
      (pss_one (ps_ret (pv 1))))), ?_⟩
    refine ⟨v, rfl, v, d, rfl, hd, hh, fun _ => ?_, fun n => ?_⟩
    · intro v' dx H' s' nd hxd fr
      refine ⟨true, TC.xN, fun _ a na => ?_, fun z => nomatch z⟩
      refine ⟨.ref a, rfl, rfl, rfl, dx, _, v', rfl, hxd, rfl, by show 1 ≤ sizeLine; decide, fun m nm => ?_⟩
      refine ⟨_, rfl, qq _ _ (s'.trans (same_upd nm)) ?_⟩
      exact .lst (.inl (.inl upd_same)) (.cons ((fr.dq).same (same_upd nm)) .nil)
    · rw [hn] at n
      cases n
/-! ### due -/
theorem ok_due (F : FnP K "_law_due" s_due f fd) (T : Tz mg) (O_is_plain : Own P w K mg base CX0 1 "_law_is_plain" ["_law_word", "_law_is_signed"] sp_plain fI fdI) (O_is_ratio : Own P w K mg base CX0 2 "_law_is_ratio" ["_law_thing"] (sp_num K) fR fdR) :
    FnOk P w K mg base CX0 3 f fd ["_law_words"] (sp_told K) := by
  refine F.ok sc_due (fun vs H Q E h => ?_) (fun cdv A outer s H vs Q E hr h => ?_)
  · obtain ⟨v, d, rfl, _⟩ := h
    rfl
  · obtain ⟨v, d, rfl, hd, hz, qq⟩ := h
    refine ⟨_, PSs.nox (pss_cons (ps_if (pt_not (pt_val (pe_callB call_isi (by rfl) T.z_isinstance (by decide +kernel) (pa_cons (pv 0) (pa_cons (pe_bltn (v := .ty "str") (by rfl) T.z_str (by decide +kernel) rfl) pa_nil))))) (pss_one (ps_ret (pe_lst (pa_cons pe_str (pa_cons pe_int (pa_cons pe_bl pa_nil)))))) pss_nil)
      (pss_cons (ps_set (i := 1) sc_due.nd rfl (Or.inl rfl) (pe_split (pv 0) pe_str))
      (pss_cons (ps_if (PW.pt (pw_or (pt_cmpR op_gt (pe_callB call_len_seq (by rfl) T.z_len (by decide +kernel) (pa_cons (pv 1) pa_nil)) pe_int (nomark _)) (pw_or (pt_not (pt_val (pe_own O_is_plain (hr.mono (by first | decide | omega)) (pa_cons (pe_ix ix_list (pv 1) pe_int (fun _ _ => rfl)) (pa_cons pe_bl pa_nil))))) (pw_or1 (pt_not (pt_val (pe_own O_is_plain (hr.mono (by first | decide | omega)) (pa_cons (pe_ix ix_list (pv 1) (pe_un un_neg pe_int) (fun _ _ => rfl)) (pa_cons (pe_cmpR op_eq (pe_callB call_len_seq (by rfl) T.z_len (by decide +kernel) (pa_cons (pv 1) pa_nil)) pe_int (nomark _)) pa_nil))))))))) (pss_one (ps_ret (pe_lst (pa_cons pe_str (pa_cons pe_int (pa_cons pe_bl pa_nil)))))) pss_nil)
      (pss_cons (ps_set (i := 2) sc_due.nd rfl (Or.inl rfl) (pe_ifExp (pt_cmpR op_eq (pe_callB call_len_seq (by rfl) T.z_len (by decide +kernel) (pa_cons (pv 1) pa_nil)) pe_int (nomark _)) (pe_tup (pa_cons (pe_callTy call_int_str (by rfl) T.z_int (by decide +kernel) (pa_cons (pe_ix ix_list (pv 1) pe_int (fun _ _ => rfl)) pa_nil)) (pa_cons (pe_callTy call_int_str (by rfl) T.z_int (by decide +kernel) (pa_cons (pe_ix ix_list (pv 1) pe_int (fun _ _ => rfl)) pa_nil)) pa_nil))) (pe_callTy call_int_str (by rfl) T.z_int (by decide +kernel) (pa_cons (pe_ix ix_list (pv 1) pe_int (fun _ _ => rfl)) pa_nil))))
      (pss_one (ps_ret (pe_ifExp (pt_val (pe_own O_is_ratio (hr.mono (by first | decide | omega)) (pa_cons (pv 2) pa_nil))) (pv 2) (pe_lst (pa_cons pe_str (pa_cons pe_int (pa_cons pe_bl pa_nil))))))))))), ?_⟩
    refine ⟨v, rfl, v, .ty "str", _, _, _, rfl, .ty _, hd.ty, kit_ty (kit_str d), _, rfl, ?_⟩
    by_cases hs : isS d = true
    case neg =>
      have h0 := Bool.eq_false_iff.mpr hs
      rw [h0]
      refine iteT ⟨by show 3 ≤ sizeLine; decide, fun l nl => qq _ _ (same_upd nl) ?_⟩
      rw [told_other h0]
      exact dq_ref upd_same
    rw [hs]
    refine iteF ?_
    cases hd with
    | str z =>
      have lz := hz z rfl
      have q1 : ∀ v' H', Same H H' → Dq K H' v' (dueS (Txt.split z "/")) → Q v' H' := fun v' H' s' dv => qq v' H' s' (by rw [due_told] at dv; exact dv)
      refine ⟨.str z, rfl, ⟨z, rfl⟩, z, "/", rfl, rfl, by decide +kernel, small1000 (by omega), fun p np => ?_⟩
      have s1 : Same H (upd H p (.lst ((Txt.split z "/").map V.str))) := same_upd np
      have hp : (upd H p (.lst ((Txt.split z "/").map V.str))) p = some (.lst ((Txt.split z "/").map V.str)) := upd_same
      have wp : ∀ x ∈ Txt.split z "/", x.length ≤ 100 := fun x hx => Nat.le_trans (split_part hx) lz
      have ne := split_ne z
      revert q1 s1 hp wp ne
      generalize upd H p (.lst ((Txt.split z "/").map V.str)) = H1
      generalize Txt.split z "/" = ws
      intro q1 s1 hp wp ne
      match ws, ne with
      | [a], _ =>
        have la := wp a (by simp)
        have q2 : ∀ v' H', Same H H' → Dq K H' v' (if plainL (TL.tl a) true = true then .int (ivl (TL.tl a)) else refD 1) → Q v' H' := q1
        refine ⟨.ref p, rfl, p, _, rfl, .inl (.inl (.inl hp)), _, _, rfl, rfl, _, rfl, ?_⟩
        refine iteF ⟨.ref p, rfl, p, _, 0, _, rfl, rfl, .inl (.inl hp), rfl, a, true, rfl, Nat.le_trans la (by decide), fun H3 s3 => ⟨_, rfl, ?_⟩⟩
        by_cases pa : plainL (TL.tl a) true = true
        case neg =>
          rw [Bool.eq_false_iff.mpr pa]
          rw [if_neg pa] at q2
          exact iteT ⟨by show 3 ≤ sizeLine; decide, fun l nl => q2 _ _ ((s1.trans s3).trans (same_upd nl)) (dq_ref upd_same)⟩
        rw [if_pos pa] at q2
        rw [pa]
        have hp3 := s3 _ _ hp
        refine iteF ⟨.ref p, rfl, 1, rfl, p, _, -1, .str a, rfl, rfl, .inl (.inl hp3), rfl, .ref p, rfl, p, _, rfl, .inl (.inl (.inl hp3)), rfl, a, true, rfl, Nat.le_trans la (by decide), fun H4 s4 => ⟨_, rfl, ?_⟩⟩
        rw [pa]
        have hp4 := s4 _ _ hp3
        refine iteF ⟨.ref p, rfl, p, _, rfl, .inl (.inl (.inl hp4)), rfl, _, rfl, ?_⟩
        have it : itx (TL.tl a) = true := by
          rw [← plain_t]
          exact pa
        refine iteF ⟨.ref p, rfl, p, _, 0, _, rfl, rfl, .inl (.inl hp4), rfl, a, _, rfl, int_itx it (by omega), by omega, ?_⟩
        refine ⟨_, rfl, _, .int _, rfl, .int _, (fun ds e => by cases e), fun H5 s5 => ⟨_, rfl, ?_⟩⟩
        exact iteT ⟨_, rfl, q2 _ H5 (((s1.trans s3).trans s4).trans s5) (.int _)⟩
      | [a, b], _ =>
        have la := wp a (by simp)
        have lb := wp b (by simp)
        have q2 : ∀ v' H', Same H H' → Dq K H' v' (if (plainL (TL.tl a) true && plainL (TL.tl b) false) = true then (if numD (.tuple [.int (ivl (TL.tl a)), .int (ivl (TL.tl b))]) = true then .tuple [.int (ivl (TL.tl a)), .int (ivl (TL.tl b))] else refD 1) else refD 1) → Q v' H' := q1
        refine ⟨.ref p, rfl, p, _, rfl, .inl (.inl (.inl hp)), _, _, rfl, rfl, _, rfl, ?_⟩
        refine iteF ⟨.ref p, rfl, p, _, 0, _, rfl, rfl, .inl (.inl hp), rfl, a, true, rfl, Nat.le_trans la (by decide), fun H3 s3 => ⟨_, rfl, ?_⟩⟩
        by_cases pa : plainL (TL.tl a) true = true
        case neg =>
          rw [Bool.eq_false_iff.mpr pa]
          rw [Bool.eq_false_iff.mpr pa, Bool.false_and, if_neg (by decide)] at q2
          exact iteT ⟨by show 3 ≤ sizeLine; decide, fun l nl => q2 _ _ ((s1.trans s3).trans (same_upd nl)) (dq_ref upd_same)⟩
        rw [pa, Bool.true_and] at q2
        rw [pa]
        have hp3 := s3 _ _ hp
        refine iteF ⟨.ref p, rfl, 1, rfl, p, _, -1, .str b, rfl, rfl, .inl (.inl hp3), rfl, .ref p, rfl, p, _, rfl, .inl (.inl (.inl hp3)), rfl, b, false, rfl, Nat.le_trans lb (by decide), fun H4 s4 => ⟨_, rfl, ?_⟩⟩
        by_cases pb : plainL (TL.tl b) false = true
        case neg =>
          rw [Bool.eq_false_iff.mpr pb]
          rw [if_neg pb] at q2
          exact iteT ⟨by show 3 ≤ sizeLine; decide, fun l nl => q2 _ _ (((s1.trans s3).trans s4).trans (same_upd nl)) (dq_ref upd_same)⟩
        rw [if_pos pb] at q2
        rw [pb]
        have hp4 := s4 _ _ hp3
        have ia : itx (TL.tl a) = true := by
          rw [← plain_t]
          exact pa
        have ib : itx (TL.tl b) = true := by
          rw [plain_f, Bool.and_eq_true] at pb
          exact pb.1
        refine iteF ⟨.ref p, rfl, p, _, rfl, .inl (.inl (.inl hp4)), rfl, _, rfl, ?_⟩
        refine iteT ⟨.ref p, rfl, p, _, 0, _, rfl, rfl, .inl (.inl hp4), rfl, a, _, rfl, int_itx ia (by omega), by omega, .ref p, rfl, p, _, 1, _, rfl, rfl, .inl (.inl hp4), rfl, b, _, rfl, int_itx ib (by omega), by omega, by show 2 ≤ sizeLine; decide, fun t nt => ?_⟩
        have dt : Dq K (upd H4 t (.tup [.int (ivl (TL.tl a)), .int (ivl (TL.tl b))])) (.ref t) (.tuple [.int (ivl (TL.tl a)), .int (ivl (TL.tl b))]) := .tup (.inl (.inl upd_same)) (.cons (.int _) (.cons (.int _) .nil))
        refine ⟨_, rfl, _, _, rfl, dt, (fun ds e => by cases e; show 2 ≤ 900; decide), fun H5 s5 => ⟨_, rfl, ?_⟩⟩
        have s15 := (((s1.trans s3).trans s4).trans (same_upd nt)).trans s5
        by_cases nn : numD (.tuple [.int (ivl (TL.tl a)), .int (ivl (TL.tl b))]) = true
        · rw [nn]
          rw [if_pos nn] at q2
          exact iteT ⟨_, rfl, q2 _ H5 s15 (dt.same s5)⟩
        · rw [Bool.eq_false_iff.mpr nn]
          rw [if_neg nn] at q2
          exact iteF ⟨by show 3 ≤ sizeLine; decide, fun l nl => q2 _ _ (s15.trans (same_upd nl)) (dq_ref upd_same)⟩
      | a :: b :: c :: r, _ =>
        refine ⟨.ref p, rfl, p, _, rfl, .inl (.inl (.inl hp)), _, _, rfl, rfl, _, rfl, ?_⟩
        rw [decide_eq_true (by show (2 : Int) < (((a :: b :: c :: r).map V.str).length : Nat); simp; omega)]
        exact iteT ⟨by show 3 ≤ sizeLine; decide, fun l nl => q1 _ _ (s1.trans (same_upd nl)) (dq_ref upd_same)⟩
    | _ => cases hs
end
end K14

set_option Elab.async false
set_option linter.all false
set_option maxRecDepth 100000
set_option maxHeartbeats 4000000
namespace K14
open PySem PySem.Spec PyProof.Rows L2 Lw
section
variable {P : Program} {w : World} {K : PySem.W.Frag} {mg : Str → Option Value} {base : Heap} {f : Addr} {fd : FuncData} {fD : Addr} {fdD : FuncData}
theorem head_len (z : Str) (k : Nat) : (cutS z none (some (k : Int))).length = min k z.length := by
  rw [TL.len_tl]
  show (((TL.tl z).drop (HT.sIx z.length 0 none)).take (HT.sIx z.length z.length (some (k : Int)) - HT.sIx z.length 0 none)).length = _
  rw [HT.sIx_none, HT.sIx_nat, List.drop_zero, Nat.sub_zero, List.length_take, ← TL.len_tl]
  omega
theorem tail_len (z : Str) (k : Nat) : (cutS z (some (k : Int)) none).length = z.length - min k z.length := by
  rw [TL.len_tl]
  show (((TL.tl z).drop (HT.sIx z.length 0 (some (k : Int)))).take (HT.sIx z.length z.length none - HT.sIx z.length 0 (some (k : Int)))).length = _
  rw [HT.sIx_none, HT.sIx_nat, List.length_take, List.length_drop, ← TL.len_tl]
  omega
theorem bytes_sign {c : Nat} (h : c < 256) : Bytes (⟨#[c]⟩ : Str) := fun d hd => by
  cases List.mem_singleton.mp (show d ∈ [c] from hd)
  exact h
theorem signs_small : ∀ c ∈ ("0123456789/- +_a." : Str).cps.toList, c < 256 := by decide +kernel
theorem signs_len : ("0123456789/- +_a." : Str).cps.toList.length = 17 := by decide +kernel
def sp_spoilt : Sp := fun vs H Q _ => ∃ (a : Addr) (z : Str), vs = [.ref a, .str z] ∧ PotAt H a ∧ z.length ≤ 90 ∧ Bytes z ∧ ∀ z' H', z'.length ≤ z.length + 1 → Bytes z' → PotAt H' a → Off a H H' → Q (.str z') H'
theorem ok_spoilt (F : FnP K "_law_spoilt" s_spoilt f fd) (T : Tz mg) (O_draw : Own P w K mg base CX0 1 "_law_draw" ["_law_pot_here", "_law_many"] sp_draw fD fdD) : FnOk P w K mg base CX0 2 f fd ["_law_pot_here", "_law_words"] sp_spoilt := by
  refine F.ok sc_spoilt (fun vs H Q E h => ?_) (fun cdv A outer s H vs Q E hr h => ?_)
  · obtain ⟨a, z, rfl, _⟩ := h
    rfl
  · obtain ⟨a, z, rfl, hp, lz, bz, qq⟩ := h
    refine ⟨_, PSs.nox (pss_cons (ps_par (i := 2) (j := 3) (by rfl) sc_spoilt.nd rfl rfl (by decide) rfl rfl (pa_cons (pe_ix ix_str pe_str (pe_own O_draw (hr.mono (by first | decide | omega)) (pa_cons (pv 0) (pa_cons pe_int pa_nil))) (fun _ _ => rfl)) (pa_cons (pe_own O_draw (hr.mono (by first | decide | omega)) (pa_cons (pv 0) (pa_cons (pe_op op_add (pe_callB call_len_str (by rfl) T.z_len (by decide +kernel) (pa_cons (pv 1) pa_nil)) pe_int) pa_nil))) pa_nil)) (by rfl))
      (pss_cons (ps_set (i := 4) sc_spoilt.nd rfl (Or.inl rfl) (pe_own O_draw (hr.mono (by first | decide | omega)) (pa_cons (pv 0) (pa_cons pe_int pa_nil))))
      (pss_cons (ps_if (pt_cmpR op_eq (pv 4) pe_int (nomark _)) (pss_one (ps_ret (pe_op op_add_str (pe_op op_add_str (pe_slice sl_str (pv 1) po_none (po_some (pv 3))) (pv 2)) (pe_slice sl_str (pv 1) (po_some (pv 3)) po_none)))) pss_nil)
      (pss_cons (ps_if (pt_cmpR op_eq (pv 4) pe_int (nomark _)) (pss_one (ps_ret (pe_op op_add_str (pe_slice sl_str (pv 1) po_none (po_some (pv 3))) (pe_slice sl_str (pv 1) (po_some (pe_op op_add (pv 3) pe_int)) po_none)))) pss_nil)
      (pss_one (ps_ret (pe_ifExp (pt_cmpR op_eq (pv 4) pe_int (nomark _)) (pe_op op_add_str (pe_op op_add_str (pe_slice sl_str (pv 1) po_none (po_some (pv 3))) (pv 2)) (pe_slice sl_str (pv 1) (po_some (pe_op op_add (pv 3) pe_int)) po_none)) (pe_op op_add_str (pv 2) (pv 1))))))))), ?_⟩
    have hz := Nat.le_of_lt (small1000 (Nat.le_trans lz (by decide)))
    refine ⟨.ref a, rfl, a, 17, rfl, hp, by decide, by decide, fun r H1 r0 r1 p1 o1 => ?_⟩
    obtain ⟨c, hc, _, ec⟩ := at_in (xs := ("0123456789/- +_a." : Str).cps.toList) r0 (by rw [signs_len]; exact r1)
    refine ⟨_, r, c, rfl, rfl, by decide +kernel, ec, ?_⟩
    have bc : Bytes (⟨#[c]⟩ : Str) := bytes_sign (signs_small c hc)
    have lc : Str.length (⟨#[c]⟩ : Str) = 1 := rfl
    refine ⟨.ref a, rfl, .str z, rfl, z, rfl, hz, _, _, rfl, rfl, a, _, rfl, p1, by omega, by omega, fun k0 H2 k1 k2 p2 o2 => ?_⟩
    obtain ⟨k, rfl⟩ := Int.eq_ofNat_of_zero_le k1
    have kl : k ≤ z.length := by omega
    refine ⟨_, _, rfl, ?_⟩
    refine ⟨.ref a, rfl, a, 4, rfl, p2, by decide, by decide, fun wy H3 w0 w1 p3 o3 => ?_⟩
    have oo := (o1.trans o2).trans o3
    have h1 := head_len z k
    have h2 := tail_len z k
    have h3 := tail_len z (k + 1)
    have b1 : Bytes (cutS z none (some (k : Int))) := bytes_cut bz
    have b2 : Bytes (cutS z (some (k : Int)) none) := bytes_cut bz
    have b3 : Bytes (cutS z (some ((k + 1 : Nat) : Int)) none) := bytes_cut bz
    have big : ∀ {n : Nat}, n ≤ 200 → n ≤ sizeLine := fun h => Nat.le_of_lt (small1000 (by omega))
    refine ⟨_, rfl, rfl, _, rfl, ?_⟩
    by_cases z0 : wy = 0
    · rw [decide_eq_true (congrArg V.int z0)]
      refine iteT ⟨_, rfl, _, rfl, _, rfl, z, rfl, hz, _, rfl, _, _, rfl, rfl, big (by omega), _, rfl, _, rfl, _, rfl, z, rfl, hz, _, _, rfl, rfl, big ?_, ?_⟩
      · rw [strLen_append]
        omega
      · refine qq _ H3 ?_ (bytes_app (bytes_app b1 bc) b2) p3 oo
        rw [strLen_append, strLen_append]
        omega
    · rw [decide_eq_false (fun e => z0 (V.int.inj e))]
      refine iteF ⟨_, rfl, rfl, _, rfl, ?_⟩
      by_cases z1 : wy = 1
      · rw [decide_eq_true (congrArg V.int z1)]
        refine iteT ⟨_, rfl, _, rfl, _, rfl, z, rfl, hz, _, rfl, _, rfl, _, _, rfl, rfl, ((k + 1 : Nat) : Int), rfl, z, rfl, hz, _, _, rfl, rfl, big (by omega), ?_⟩
        refine qq _ H3 ?_ (bytes_app b1 b3) p3 oo
        rw [strLen_append]
        omega
      · rw [decide_eq_false (fun e => z1 (V.int.inj e))]
        refine iteF ⟨_, rfl, rfl, _, rfl, ?_⟩
        by_cases z2 : wy = 2
        · rw [decide_eq_true (congrArg V.int z2)]
          refine iteT ⟨_, rfl, _, rfl, _, rfl, z, rfl, hz, _, rfl, _, _, rfl, rfl, big (by omega), _, rfl, _, rfl, _, _, rfl, rfl, ((k + 1 : Nat) : Int), rfl, z, rfl, hz, _, _, rfl, rfl, big ?_, ?_⟩
          · rw [strLen_append]
            omega
          · refine qq _ H3 ?_ (bytes_app (bytes_app b1 bc) b3) p3 oo
            rw [strLen_append, strLen_append]
            omega
        · rw [decide_eq_false (fun e => z2 (V.int.inj e))]
          refine iteF ⟨_, rfl, _, rfl, _, _, rfl, rfl, big (by omega), ?_⟩
          refine qq _ H3 ?_ (bytes_app bc bz) p3 oo
          rw [strLen_append]
          omega
end
end K14

set_option Elab.async false
set_option linter.all false
set_option maxRecDepth 100000
set_option maxHeartbeats 4000000
namespace K14
open PySem PySem.Spec PyProof.Rows L2 Lw
/-! ### sizes -/
theorem hd_num (q : Rat) : Hd (ofR q) := by
  unfold ofR
  split
  · exact ⟨by simp [PyData.depth], rfl⟩
  · exact ⟨by simp [PyData.depth, PyData.depthAll], rfl⟩
theorem small_num {q : Rat} (h : Bq 1000 q) : Small 5000 (ofR q) := by
  unfold ofR
  split
  · exact (small_int h.1).mono (by decide)
  · exact (small_tup2 (small_int h.1) (small_int (i := (q.den : Int)) h.2) (by simp [PyData.depth]) (by simp [PyData.depth])).mono (by decide)
/-- what the law hands about: shown in a row, its texts short -/
structure OkS (d : PyData) : Prop where
  hd : Hd d
  sm : Small 5000 d
  st : ∀ z, d = .str z → z.length ≤ 50
theorem odds_ok : ∀ d ∈ odds, OkS d := by
  intro d hd
  simp only [odds, odds1, odds2, odds3, List.cons_append, List.nil_append, List.mem_cons, List.not_mem_nil, or_false] at hd
  rcases hd with rfl | rfl | rfl | rfl | rfl | rfl | rfl | rfl | rfl | rfl | rfl | rfl | rfl | rfl | rfl | rfl | rfl | rfl | rfl | rfl | rfl | rfl | rfl | rfl | rfl | rfl | rfl | rfl | rfl
  all_goals
    refine ⟨⟨by decide +kernel, by decide +kernel⟩, ⟨by decide +kernel, by decide +kernel, by decide +kernel⟩, fun z e => ?_⟩
    first
      | (cases e; done)
      | (cases e; decide +kernel)
theorem okS_text {z : Str} (b : Bytes z) (l : z.length ≤ 50) : OkS (.str z) := by
  refine ⟨⟨by simp [PyData.depth], rfl⟩, (small_text b l).mono (by decide), fun y e => ?_⟩
  cases e
  exact l
theorem small_ref (n : Int) (h : n.natAbs < 2 ^ 10) : Small 7000 (refD n) := by
  refine (small_list (n := 2000) (ds := [.str "refused", .int n, .bool true]) fun d hd => ?_).mono (by show 2 + 3 * 2002 ≤ 7000; decide)
  simp only [List.mem_cons, List.not_mem_nil, or_false] at hd
  rcases hd with rfl | rfl | rfl
  · exact ⟨⟨by decide +kernel, by decide +kernel, by decide +kernel⟩, by decide +kernel⟩
  · exact ⟨small_int (Nat.lt_of_lt_of_le h (by decide +kernel)), by simp [PyData.depth]⟩
  · exact ⟨⟨by decide +kernel, by decide +kernel, by decide +kernel⟩, by decide +kernel⟩
theorem parse_parts {z : Str} {d : PyData} (h : parseD z = some d) (l : z.length ≤ 50) : smallD d ∧ Small 7000 d ∧ Hd d := by
  obtain ⟨_, n, e, ai⟩ := parse_text h
  have wp : ∀ x ∈ Txt.split z "/", (ivl (TL.tl x)).natAbs < 10 ^ 50 := fun x hx => by
    have := split_part hx
    refine ivl_lt (List.all_eq_true.mp ai x hx) ?_
    rw [← TL.len_tl]
    omega
  have ne := split_ne z
  have b1 : (10 : Nat) ^ 50 ≤ 10 ^ 60 := by decide +kernel
  have b2 : (10 : Nat) ^ 50 ≤ 2 ^ 1000 := by decide +kernel
  revert e wp ne
  generalize Txt.split z "/" = ws
  intro e wp ne
  match ws, ne with
  | [a], _ =>
    cases e
    have p := wp a (by simp)
    exact ⟨Nat.lt_of_lt_of_le p b1, (small_int (Nat.lt_of_lt_of_le p b2)).mono (by decide), ⟨by show PyData.depth (.int _) ≤ 5; simp [PyData.depth], rfl⟩⟩
  | [a, b], _ =>
    cases e
    have p := wp a (by simp)
    have p' := wp b (by simp)
    refine ⟨⟨Nat.lt_of_lt_of_le p b1, Nat.lt_of_lt_of_le p' b1⟩, ?_, ⟨by show PyData.depth (.tuple [.int _, .int _]) ≤ 5; simp [PyData.depth, PyData.depthAll], rfl⟩⟩
    exact (small_tup2 (small_int (Nat.lt_of_lt_of_le p b2)) (small_int (Nat.lt_of_lt_of_le p' b2)) (by simp [PyData.depth]) (by simp [PyData.depth])).mono (by decide)
  | a :: b :: c :: r, _ =>
    rw [e, num_three] at n
    cases n
theorem small_told {d : PyData} (h : OkS d) : Small 7000 (toldD d) := by
  cases d with
  | str z =>
    show Small 7000 (toldS z)
    cases e : parseD z with
    | some d' =>
      rw [told_some e]
      exact (parse_parts e (h.st z rfl)).2.1
    | none =>
      rw [told_none e]
      exact small_ref 1 (by decide)
  | _ => exact small_ref 0 (by decide)
theorem lean_told {d : PyData} (h : OkS d) : Lean_ (toldD d) := by
  cases d with
  | str z =>
    show Lean_ (toldS z)
    cases e : parseD z with
    | some d' =>
      rw [told_some e]
      exact lean_slim (parse_parts e (h.st z rfl)).2.2.sl
    | none =>
      rw [told_none e]
      intro ds e
      cases e
  | _ =>
    intro ds e
    cases e
/-- the text of a number that the law draws -/
theorem worth_small {q : Rat} (h : Bw q) : smallD (ofR q) ∧ (numTx (ofR q)).length ≤ 40 ∧ Bytes (numTx (ofR q)) := by
  have b1 : (2 : Nat) ^ 97 ≤ 10 ^ 30 := by decide +kernel
  have b2 : (10 : Nat) ^ 30 ≤ 10 ^ 60 := by decide +kernel
  have b3 : (2 : Nat) ^ 40 ≤ 10 ^ 13 := by decide +kernel
  have n1 := Nat.lt_of_lt_of_le h.big.1 b1
  have n2 := Nat.lt_of_lt_of_le h.big.2 b1
  unfold ofR
  split
  · refine ⟨Nat.lt_of_lt_of_le n1 b2, ?_, bytes_iTx _⟩
    have := iTx_len (k := 30) (by decide) n1
    show (iTx q.num).length ≤ 40
    omega
  · rename_i hd
    have hq : Bq 40 q := by
      rcases h.two with z | z
      · exact absurd z hd
      · exact z
    refine ⟨⟨Nat.lt_of_lt_of_le n1 b2, Nat.lt_of_lt_of_le n2 b2⟩, ?_, ?_⟩
    · have l1 := iTx_len (k := 13) (by decide) (Nat.lt_of_lt_of_le hq.1 b3)
      have l2 := iTx_len (i := (q.den : Int)) (k := 13) (by decide) (Nat.lt_of_lt_of_le hq.2 b3)
      have l3 : Str.length ("/" : Str) = 1 := by decide +kernel
      show (Txt.join "/" [iTx q.num, iTx (q.den : Int)]).length ≤ 40
      rw [TL.join_eq]
      show (iTx q.num ++ ("/" : Str) ++ iTx (q.den : Int)).length ≤ 40
      rw [strLen_append, strLen_append]
      omega
    · show Bytes (Txt.join "/" [iTx q.num, iTx (q.den : Int)])
      rw [TL.join_eq]
      show Bytes (iTx q.num ++ ("/" : Str) ++ iTx (q.den : Int))
      refine bytes_app (bytes_app (bytes_iTx _) ?_) (bytes_iTx _)
      intro c hc
      cases List.mem_singleton.mp (show c ∈ [47] from by rw [← slash_tl]; exact hc)
      decide
def fix1 : List PyData := [.str "2/4", .str "4/2", .str "3/1", .str "3/0", .str "0/2", .str "-0", .str "01", .str "1/02", .str "1/-2", .str "--1", .str "", .str "/", .str "1/", .str "/2", .str "1/2/3"]
def fix2 : List PyData := [.str "1_0", .str "1/1_1"]
theorem fix_text : ∀ d ∈ fix1 ++ fix2, ∃ z, d = .str z ∧ Bytes z ∧ z.length ≤ 50 := by
  intro d hd
  simp only [fix1, fix2, List.cons_append, List.nil_append, List.mem_cons, List.not_mem_nil, or_false] at hd
  rcases hd with rfl | rfl | rfl | rfl | rfl | rfl | rfl | rfl | rfl | rfl | rfl | rfl | rfl | rfl | rfl | rfl | rfl
  all_goals
    refine ⟨_, rfl, ?_, by decide +kernel⟩
    unfold Bytes
    decide +kernel
def sp_right : Sp := fun vs H Q _ => ∃ a : Addr, vs = [.ref a] ∧ PotAt H a ∧ ∀ H', PotAt H' a → Off a H H' → Q (.bl true) H'
end K14

set_option Elab.async false
set_option linter.all false
set_option maxRecDepth 100000
set_option maxHeartbeats 4000000
namespace K14
open PySem PySem.Spec PyProof.Rows L2 Lw
section
variable {P : Program} {w : World} {K : PySem.W.Frag} {mg : Str → Option Value} {base : Heap} {f : Addr} {fd : FuncData} {C CT : Addr}
theorem no_bad {q : Rat} {H : Hp} {E : XK} : numD (ofR q) = false → Out K C H (ofR q) E := fun n => by
  rw [ofR_num] at n
  cases n
theorem ntext_ok {x : V} {q : Rat} {H : Hp} {Q : VK} {E : XK} (hx : Dq K H x (ofR q)) (sm : smallD (ofR q)) (h : ∀ H', Same H H' → Q (.str (numTx (ofR q))) H') : sp_ntext K C [x] H Q E :=
  ⟨x, _, rfl, hx, hd_num q, no_bad, fun _ => ⟨sm, h⟩⟩
theorem parse_ok {z : Str} {q : Rat} {H : Hp} {Q : VK} {E : XK} (e : numTx (ofR q) = z) (l : z.length ≤ 40) (h : ∀ v H', Same H H' → Dq K H' v (ofR q) → Q v H') : sp_parse K CT [.str z] H Q E := by
  have pn := parse_num (ofR_num q)
  rw [e] at pn
  refine ⟨.str z, .str z, rfl, .str z, (fun n => nomatch n), fun y ey => ?_⟩
  cases ey
  refine ⟨Nat.le_trans l (by decide), fun n => ?_, fun d' hd v' H' s' dv => h v' H' s' ?_⟩
  · rw [pn] at n
    cases n
  · rw [pn] at hd
    cases hd
    exact dv
theorem line_nums {q : Rat} (h : Bq 1000 q) : (PyData.list [ofR q, ofR q]).showable = true ∧ (PyData.list [ofR q, ofR q]).shown.length ≤ sizeLine ∧ (PyData.list [ofR q, ofR q]).depth ≤ 60 := by
  refine Small.line (small_list (n := 5000) fun d hd => ?_) (by show 2 + 2 * 5002 ≤ 100000; decide)
  simp only [List.mem_cons, List.not_mem_nil, or_false] at hd
  rcases hd with rfl | rfl <;> exact ⟨small_num h, by have := (hd_num q).dp; omega⟩
theorem line_texts {z : Str} (b : Bytes z) (l : z.length ≤ 50) : (PyData.list [.str z, .str z]).showable = true ∧ (PyData.list [.str z, .str z]).shown.length ≤ sizeLine ∧ (PyData.list [.str z, .str z]).depth ≤ 60 := by
  refine Small.line (small_list (n := 5000) fun d hd => ?_) (by show 2 + 2 * 5002 ≤ 100000; decide)
  simp only [List.mem_cons, List.not_mem_nil, or_false] at hd
  rcases hd with rfl | rfl <;> exact ⟨(okS_text b l).sm, by simp [PyData.depth]⟩
theorem line_one {d : PyData} (h : OkS d) : (PyData.list [d]).showable = true ∧ (PyData.list [d]).shown.length ≤ sizeLine ∧ (PyData.list [d]).depth ≤ 60 := by
  refine Small.line (small_list (n := 5000) fun d' hd => ?_) (by show 2 + 1 * 5002 ≤ 100000; decide)
  cases List.mem_singleton.mp hd
  exact ⟨h.sm, by have := h.hd.dp; omega⟩
theorem ok_right {fD fO fW fR fU fI fX fS fN fP fE : Addr} {fdD fdO fdW fdR fdU fdI fdX fdS fdN fdP fdE : FuncData} {g1 g2 : List Value → List Value → List Value} (F : FnP K "_law_right" s_right f fd) (T : Tz mg) (B : SysOk base)
    (O_draw : Own P w K mg base CX0 1 "_law_draw" ["_law_pot_here", "_law_many"] sp_draw fD fdD)
    (O_odd : Own P w K mg base CX0 2 "_law_odd" ["_law_pot_here"] (sp_odd K) fO fdO)
    (O_worth : Own P w K mg base CX0 3 "_law_worth" ["_law_pot_here"] (sp_worth K) fW fdW)
    (O_written : Own P w K mg base CX0 1 "_law_written" ["_law_thing"] (sp_written K) fR fdR)
    (O_parsed : Own P w K mg base CX0 5 "_law_parsed" ["_law_words"] (sp_told K) fU fdU)
    (O_due : Own P w K mg base CX0 3 "_law_due" ["_law_words"] (sp_told K) fX fdX)
    (O_is_ratio : Own P w K mg base CX0 2 "_law_is_ratio" ["_law_thing"] (sp_num K) fI fdI)
    (O_spoilt : Own P w K mg base CX0 2 "_law_spoilt" ["_law_pot_here", "_law_words"] sp_spoilt fS fdS)
    (O_refused : Own P w K mg base CX0 12 "_law_refused" ["_law_thing"] (sp_refused K) fE fdE)
    (O_number_text : OwnR P w K mg base 11 "number_text" (sp_ntext K C) fN) (O_parse_number : OwnR P w K mg base 4 "parse_number" (sp_parse K CT) fP)
    (X_number_text : OwnX P w K mg base 11 "number_text" ["value"] (sp_ntext K C) fN fdN) (O_number_text_kw : KBn K fdN ["value"] 0 ["value"] g1 (fun _ zs => zs))
    (X_parse_number : OwnX P w K mg base 4 "parse_number" ["text"] (sp_parse K CT) fP fdP) (O_parse_number_kw : KBn K fdP ["text"] 0 ["text"] g2 (fun _ zs => zs)) :
    FnG P w K mg base CX0 13 f fd ["_law_pot_here"] sp_right := by
  refine fn_g F sc_right (fun vs H Q E h => ?_) (fun cdv A outer s H vs Q E hg hr h => ?_)
  · obtain ⟨a, rfl, _⟩ := h
    rfl
  · obtain ⟨a, rfl, hp, qq⟩ := h
    refine ⟨_, PSs.nox (pss_cons (ps_set (i := 1) sc_right.nd rfl (Or.inl rfl) (pe_own O_worth (hr.mono (by first | decide | omega)) (pa_cons (pv 0) pa_nil)))
      (pss_cons (ps_set (i := 2) sc_right.nd rfl (Or.inl rfl) (pe_own O_written (hr.mono (by first | decide | omega)) (pa_cons (pv 1) pa_nil)))
      (pss_cons (ps_if (pt_cmpR op_ne (pe_callB (call_repr B hg hr.units) (by rfl) T.z_repr (by decide +kernel) (pa_cons (pe_lst (pa_cons (pe_ownF O_number_text (hr.mono (by first | decide | omega)) (pa_cons (pv 1) pa_nil)) (pa_cons (pe_ownXW X_number_text O_number_text_kw (hr.mono (by first | decide | omega)) (pk_cons (pv 1) pk_nil)) pa_nil))) pa_nil)) (pe_callB (call_repr B hg hr.units) (by rfl) T.z_repr (by decide +kernel) (pa_cons (pe_lst (pa_cons (pv 2) (pa_cons (pv 2) pa_nil))) pa_nil)) (nomark _)) (pss_one (ps_ret pe_bl)) pss_nil)
      (pss_cons (ps_if (pt_cmpR op_ne (pe_callB (call_repr B hg hr.units) (by rfl) T.z_repr (by decide +kernel) (pa_cons (pe_lst (pa_cons (pe_ownF O_parse_number (hr.mono (by first | decide | omega)) (pa_cons (pv 2) pa_nil)) (pa_cons (pe_ownXW X_parse_number O_parse_number_kw (hr.mono (by first | decide | omega)) (pk_cons (pv 2) pk_nil)) pa_nil))) pa_nil)) (pe_callB (call_repr B hg hr.units) (by rfl) T.z_repr (by decide +kernel) (pa_cons (pe_lst (pa_cons (pv 1) (pa_cons (pv 1) pa_nil))) pa_nil)) (nomark _)) (pss_one (ps_ret pe_bl)) pss_nil)
      (pss_cons (ps_set (i := 3) sc_right.nd rfl (Or.inl rfl) (pv 2))
      (pss_cons (ps_for PassesOwn.never rfl (pi_range1 (by rfl) T.z_range (pa_cons (pe_op op_add pe_int (pe_own O_draw (hr.mono (by first | decide | omega)) (pa_cons (pv 0) (pa_cons pe_int pa_nil)))) pa_nil)) (pg_name (i := 4) sc_right.nd rfl (Or.inl rfl)) (pss_one (ps_set (i := 3) sc_right.nd rfl (Or.inl rfl) (pe_own O_spoilt (hr.mono (by first | decide | omega)) (pa_cons (pv 0) (pa_cons (pv 3) pa_nil))))))
      (pss_cons (ps_set (i := 5) sc_right.nd rfl (Or.inl rfl) (pe_lst (pa_cons pe_str (pa_cons pe_str (pa_cons pe_str (pa_cons pe_str (pa_cons pe_str (pa_cons pe_str (pa_cons pe_str (pa_cons pe_str (pa_cons pe_str (pa_cons pe_str (pa_cons pe_str (pa_cons pe_str (pa_cons pe_str (pa_cons pe_str (pa_cons pe_str pa_nil)))))))))))))))))
      (pss_cons (ps_set (i := 5) sc_right.nd rfl (Or.inl rfl) (pe_op op_cat (pv 5) (pe_lst (pa_cons pe_str (pa_cons pe_str pa_nil)))))
      (pss_cons (ps_for PassesOwn.never rfl (pi_list (pe_lst (pa_cons (pv 3) (pa_cons (pe_ix ix_list (pv 5) (pe_own O_draw (hr.mono (by first | decide | omega)) (pa_cons (pv 0) (pa_cons (pe_callB call_len_seq (by rfl) T.z_len (by decide +kernel) (pa_cons (pv 5) pa_nil)) pa_nil))) (fun _ _ => rfl)) (pa_cons pe_str (pa_cons pe_str (pa_cons (pe_own O_odd (hr.mono (by first | decide | omega)) (pa_cons (pv 0) pa_nil)) pa_nil))))))) (pg_name (i := 6) sc_right.nd rfl (Or.inl rfl)) (pss_cons (ps_set (i := 7) sc_right.nd rfl (Or.inl rfl) (pe_own O_parsed (hr.mono (by first | decide | omega)) (pa_cons (pv 6) pa_nil)))
      (pss_one (ps_if (PW.pt (pw_or (pt_cmpR op_ne (pe_callB (call_repr B hg hr.units) (by rfl) T.z_repr (by decide +kernel) (pa_cons (pv 7) pa_nil)) (pe_callB (call_repr B hg hr.units) (by rfl) T.z_repr (by decide +kernel) (pa_cons (pe_own O_due (hr.mono (by first | decide | omega)) (pa_cons (pv 6) pa_nil)) pa_nil)) (nomark _)) (pw_or1 (PW.pt (pw_and (pt_val (pe_own O_is_ratio (hr.mono (by first | decide | omega)) (pa_cons (pv 7) pa_nil))) (pw_and1 (pt_cmpR op_ne (pe_ownF O_number_text (hr.mono (by first | decide | omega)) (pa_cons (pv 7) pa_nil)) (pv 6) (nomark _)))))))) (pss_one (ps_ret pe_bl)) pss_nil))))
      (pss_cons (ps_set (i := 8) sc_right.nd rfl (Or.inl rfl) (pe_own O_odd (hr.mono (by first | decide | omega)) (pa_cons (pv 0) pa_nil)))
      (pss_one (ps_ret (pe_or (pe_own O_is_ratio (hr.mono (by first | decide | omega)) (pa_cons (pv 8) pa_nil)) (pe_one (pe_cmpR op_eq (pe_callB (call_repr B hg hr.units) (by rfl) T.z_repr (by decide +kernel) (pa_cons (pe_own O_refused (hr.mono (by first | decide | omega)) (pa_cons (pv 8) pa_nil)) pa_nil)) (pe_callB (call_repr B hg hr.units) (by rfl) T.z_repr (by decide +kernel) (pa_cons (pe_lst (pa_cons (pv 8) pa_nil)) pa_nil)) (nomark _)))))))))))))))), ?_⟩
    refine ⟨.ref a, rfl, a, rfl, hp, fun x q H1 bw d1 p1 o1 => ?_⟩
    obtain ⟨sm, ln, bz⟩ := worth_small bw
    have hx1 : Dq K H1 x (ofR q) := Dq.same off_same d1
    refine ⟨x, rfl, x, _, rfl, hx1, ofR_num q, sm, ?_⟩
    -- number_text
    refine ⟨x, rfl, x, _, rfl, hx1, hd_num q, no_bad, fun _ => ⟨sm, fun H2 s2 => ?_⟩⟩
    refine ⟨x, rfl, rfl, rfl, x, _, rfl, hx1.same s2, hd_num q, no_bad, fun _ => ⟨sm, fun H3 s3 => ?_⟩⟩
    generalize ez : numTx (ofR q) = z at ln bz ⊢
    have ln5 : z.length ≤ 50 := Nat.le_trans ln (by decide)
    obtain ⟨w0, w1, w2⟩ := line_texts bz ln5
    refine ⟨by show 2 ≤ sizeLine; decide, fun l nl => ?_⟩
    refine ⟨.ref l, _, rfl, (.lst (.inl (.inl upd_same)) (.cons (.str z) (.cons (.str z) .nil)) : Dq K _ _ (.list [.str z, .str z])), w0, w1, w2, ?_⟩
    refine ⟨.str z, rfl, .str z, rfl, by show 2 ≤ sizeLine; decide, fun l2 nl2 => ?_⟩
    refine ⟨.ref l2, _, rfl, (.lst (.inl (.inl upd_same)) (.cons (.str z) (.cons (.str z) .nil)) : Dq K _ _ (.list [.str z, .str z])), w0, w1, w2, rfl, _, rfl, ?_⟩
    rw [decide_eq_true rfl]
    refine iteF ?_
    have t4 : Same H1 (upd (upd H3 l (.lst [.str z, .str z])) l2 (.lst [.str z, .str z])) := ((s2.trans s3).trans (same_upd nl)).trans (same_upd nl2)
    revert t4
    generalize upd (upd H3 l (.lst [.str z, .str z])) l2 (.lst [.str z, .str z]) = H4
    intro t4
    -- parse_number
    refine ⟨.str z, rfl, ?_⟩
    refine parse_ok ez ln fun v5 H5 s5 d5 => ?_
    refine ⟨.str z, rfl, rfl, rfl, ?_⟩
    refine parse_ok ez ln fun v6 H6 s6 d6 => ?_
    obtain ⟨u0, u1, u2⟩ := line_nums (bw.big.mono (show 97 ≤ 1000 by decide))
    refine ⟨by show 2 ≤ sizeLine; decide, fun l3 nl3 => ?_⟩
    have u7 : Same H6 (upd H6 l3 (.lst [v5, v6])) := same_upd nl3
    refine ⟨.ref l3, _, rfl, (.lst (.inl (.inl upd_same)) (.cons (d5.same (s6.trans u7)) (.cons (d6.same u7) .nil)) : Dq K _ _ (.list [ofR q, ofR q])), u0, u1, u2, ?_⟩
    have t7 := ((t4.trans s5).trans s6).trans u7
    revert t7
    generalize upd H6 l3 (.lst [v5, v6]) = H7
    intro t7
    refine ⟨x, rfl, x, rfl, by show 2 ≤ sizeLine; decide, fun l4 nl4 => ?_⟩
    have u8 : Same H7 (upd H7 l4 (.lst [x, x])) := same_upd nl4
    refine ⟨.ref l4, _, rfl, (.lst (.inl (.inl upd_same)) (.cons (hx1.same (t7.trans u8)) (.cons (hx1.same (t7.trans u8)) .nil)) : Dq K _ _ (.list [ofR q, ofR q])), u0, u1, u2, rfl, _, rfl, ?_⟩
    rw [decide_eq_true rfl]
    refine iteF ?_
    have t8 := t7.trans u8
    revert t8
    generalize upd H7 l4 (.lst [x, x]) = H8
    intro t8
    have p8 := p1.same t8
    have o8 := o1.trans (Off.same t8)
    -- the spoilt text
    refine ⟨.str z, rfl, ?_⟩
    refine ⟨.ref a, rfl, a, 2, rfl, p8, by decide, by decide, fun r H9 r0 r1 p9 o9 => ?_⟩
    refine ⟨_, _, rfl, rfl, 1 + r, rfl, by omega, by omega, ?_⟩
    refine for_range (lo := 0) (n := (1 + r).toNat) (fun i σ G => ∃ (y : Str) (o : Option V), σ = [some (.ref a), some x, some (.str z), some (.str y), o, none, none, none, none] ∧ y.length ≤ 40 + i ∧ Bytes y ∧ PotAt G a ∧ Off a H G)
      ⟨z, none, rfl, ln, bz, p9, o8.trans o9⟩ ?_ ?_
    · rintro i σ G hi ⟨y, o, rfl, ly, by_, pG, oG⟩
      refine ⟨.ref a, rfl, .str y, rfl, a, y, rfl, pG, by omega, by_, fun y' G' ly' by' pG' oG' => ?_⟩
      exact ⟨y', _, rfl, by omega, by', pG', oG.trans oG'⟩
    · rintro σ G ⟨y, o, rfl, ly, by_, pG, oG⟩
      have ly5 : y.length ≤ 50 := by omega
      -- the fixed texts
      dsimp only
      refine s_lst (ds := fix1) (K := K) ?m1 (by decide) fun x1 G1 t1 s1 l1 e1 n1 => ?_
      case m1 => exact .cons .str (.cons .str (.cons .str (.cons .str (.cons .str (.cons .str (.cons .str (.cons .str (.cons .str (.cons .str (.cons .str (.cons .str (.cons .str (.cons .str (.cons .str .nil))))))))))))))
      have p1' := (pG.same s1).new (o := .lst x1) n1
      refine e_cat (ds := fix2) (K := K) (t := t1) (xs := x1) ?m2 (by rw [l1]; decide) rfl upd_same fun x2 G2 t2 s2' l2' e2 n2 => ?_
      case m2 => exact .cons .str (.cons .str .nil)
      have p2' := (p1'.same s2').new (o := .lst (x1 ++ x2)) n2
      have dd : DqAll K (off G2 a) (x1 ++ x2) (fix1 ++ fix2) := dq_app (DqAll.same (off_mono ((same_upd n1).trans s2')) (e1 a (pot_some pG))) (e2 a (pot_some p1'))
      have ll : (x1 ++ x2).length = 17 := by rw [List.length_append, l1, l2']; rfl
      have sG : Same G (upd G2 t2 (.lst (x1 ++ x2))) := ((s1.trans (same_upd n1)).trans s2').trans (same_upd n2)
      have nt2 : t2 ≠ a := (p1'.same s2').ne n2
      have et2 : (upd G2 t2 (.lst (x1 ++ x2))) t2 = some (.lst (x1 ++ x2)) := upd_same
      have dd' : DqAll K (off (upd G2 t2 (.lst (x1 ++ x2))) a) (x1 ++ x2) (fix1 ++ fix2) := DqAll.same (off_mono (same_upd n2)) dd
      revert p2' sG et2 dd'
      generalize upd G2 t2 (.lst (x1 ++ x2)) = G3
      intro p3 sG et2 dd'
      refine ⟨.str y, rfl, .ref t2, rfl, .ref a, rfl, .ref t2, rfl, t2, _, rfl, .inl (.inl (.inl et2)), a, _, rfl, p3, by rw [ll]; decide, by rw [ll]; decide, fun r2 G4 r3 r4 p4 o4 => ?_⟩
      obtain ⟨v, hv, _, ev⟩ := at_in (xs := x1 ++ x2) r3 (by omega)
      obtain ⟨d, hd, dv⟩ := dq_at dd' v hv
      obtain ⟨fx, rfl, bf, lf⟩ := fix_text d hd
      have ev2 : v = .str fx := by
        cases dv
        rfl
      subst ev2
      refine ⟨t2, _, r2, _, rfl, rfl, .inl (.inl (o4.get et2 nt2)), ev, ?_⟩
      refine ⟨.ref a, rfl, a, rfl, p4, fun vo od G5 hod d5' p5 o5 => ?_⟩
      have oko := odds_ok od hod
      refine ⟨by show 5 ≤ sizeLine; decide, fun l5 nl5 => ?_⟩
      have s6' : Same G5 (upd G5 l5 (.lst [.str y, .str fx, .str " 1", .str "1 ", vo])) := same_upd nl5
      have e6 : (upd G5 l5 (.lst [.str y, .str fx, .str " 1", .str "1 ", vo])) l5 = some (.lst [.str y, .str fx, .str " 1", .str "1 ", vo]) := upd_same
      have p6 := p5.same s6'
      have o6 := ((oG.trans (Off.same sG)).trans (o4.trans o5)).trans (Off.same (a := a) s6')
      have hall : DqAll K (upd G5 l5 (.lst [.str y, .str fx, .str " 1", .str "1 ", vo])) [.str y, .str fx, .str " 1", .str "1 ", vo] [.str y, .str fx, .str " 1", .str "1 ", od] :=
        .cons (.str y) (.cons (.str fx) (.cons (.str _) (.cons (.str _) (.cons ((Dq.same off_same d5').same s6') .nil))))
      have hok : ∀ d ∈ [PyData.str y, .str fx, .str " 1", .str "1 ", od], OkS d := by
        intro d hd
        simp only [List.mem_cons, List.not_mem_nil, or_false] at hd
        rcases hd with rfl | rfl | rfl | rfl | rfl
        · exact okS_text by_ ly5
        · exact okS_text bf lf
        · exact okS_text (by unfold Bytes; decide +kernel) (by decide +kernel)
        · exact okS_text (by unfold Bytes; decide +kernel) (by decide +kernel)
        · exact oko
      revert e6 p6 o6 hall
      generalize upd G5 l5 (.lst [.str y, .str fx, .str " 1", .str "1 ", vo]) = G6
      generalize ([.str y, .str fx, .str " 1", .str "1 ", vo] : List V) = xs at *
      generalize ([PyData.str y, .str fx, .str " 1", .str "1 ", od] : List PyData) = ds at *
      intro e6 p6 o6 hall
      refine ⟨l5, rfl, ⟨xs, .inl (.inl e6)⟩, ?_⟩
      refine for_list (K := K) (a := l5) (xs := xs) (fun i σ G7 => ∃ y1 y2, σ = [some (.ref a), some x, some (.str z), some (.str y), o, some (.ref t2), y1, y2, none] ∧ Same G6 G7) ⟨_, _, rfl, Same.refl G6⟩ (fun i σ G7 _ h => ?_) ?_ ?_
      · obtain ⟨y1, y2, _, s7⟩ := h
        exact s7.seq (.inl (.inl e6))
      · rintro i v σ G7 hv ⟨y1, y2, rfl, s7⟩
        obtain ⟨d, hi, dv⟩ := dq_get hall hv
        have ok := hok d (List.mem_of_getElem? hi)
        have dv7 := dv.same s7
        have st : ∀ z, d = .str z → z.length ≤ 100 := fun z e => Nat.le_trans (ok.st z e) (by decide)
        refine ⟨v, rfl, v, d, rfl, dv7, st, fun v8 G8 s8 d8 => ?_⟩
        obtain ⟨c0, c1, c2⟩ := (small_told ok).line (by decide)
        refine ⟨v8, rfl, v8, _, rfl, d8, c0, c1, c2, ?_⟩
        refine ⟨v, rfl, v, d, rfl, dv7.same s8, st, fun v9 G9 s9 d9 => ?_⟩
        refine ⟨v9, _, rfl, d9, c0, c1, c2, rfl, _, rfl, ?_⟩
        rw [decide_eq_true rfl]
        refine iteF ?_
        refine ⟨v8, rfl, v8, _, rfl, d8.same s9, lean_told ok, fun G10 s10 => ⟨_, rfl, ?_⟩⟩
        have s710 := (s7.trans s8).trans (s9.trans s10)
        by_cases nn : numD (toldD d) = true
        · obtain ⟨zz, ed, pz⟩ := told_num nn
          obtain ⟨ps, _, ph⟩ := parse_parts pz (ok.st zz ed)
          obtain ⟨pt, _⟩ := parse_text pz
          rw [nn]
          refine iteT ⟨v8, rfl, v8, _, rfl, d8.same (s9.trans s10), ph, (fun n => by rw [nn] at n; cases n), fun _ => ⟨ps, fun G11 s11 => ?_⟩⟩
          have ev3 : v = .str zz := by
            rw [ed] at dv7
            cases dv7
            rfl
          subst ev3
          rw [pt]
          refine ⟨_, rfl, rfl, _, rfl, ?_⟩
          rw [decide_eq_true rfl]
          exact iteF ⟨_, _, rfl, s710.trans s11⟩
        · rw [Bool.eq_false_iff.mpr nn]
          exact iteF ⟨_, _, rfl, s710⟩
      · rintro σ G7 ⟨y1, y2, rfl, s7⟩
        refine ⟨.ref a, rfl, a, rfl, p6.same s7, fun vo2 od2 G8 hod2 d8 p8' o8' => ?_⟩
        have oko2 := odds_ok od2 hod2
        have dv8 : Dq K G8 vo2 od2 := Dq.same off_same d8
        have fin : ∀ {G9 : Hp}, Same G8 G9 → Q (.bl true) G9 := fun {G9} s9 => qq _ (p8'.same s9) (((o6.trans (Off.same s7)).trans o8').trans (Off.same s9))
        refine ⟨vo2, rfl, vo2, _, rfl, dv8, lean_slim oko2.hd.sl, fun G9 s9 => ⟨_, rfl, ?_⟩⟩
        by_cases nn : numD od2 = true
        · rw [nn]
          exact iteT (fin s9)
        · have n0 := Bool.eq_false_iff.mpr nn
          rw [n0]
          refine iteF ⟨vo2, rfl, vo2, od2, rfl, dv8.same s9, oko2.hd, n0, fun v10 G10 s10 d10 => ?_⟩
          obtain ⟨c0, c1, c2⟩ := line_one oko2
          refine ⟨v10, _, rfl, d10, c0, c1, c2, ?_⟩
          refine ⟨vo2, rfl, by show 1 ≤ sizeLine; decide, fun l6 nl6 => ?_⟩
          refine ⟨.ref l6, _, rfl, (.lst (.inl (.inl upd_same)) (.cons (dv8.same ((s9.trans s10).trans (same_upd nl6))) .nil) : Dq K _ _ (.list [od2])), c0, c1, c2, rfl, ?_⟩
          rw [decide_eq_true rfl]
          exact fin ((s9.trans s10).trans (same_upd nl6))
end
end K14

set_option Elab.async false
set_option linter.all false
set_option maxRecDepth 100000
set_option maxHeartbeats 4000000
namespace K14
open PySem PySem.Spec PyProof.Rows L2 Lw
section
variable {P : Program} {w : World} {K : PySem.W.Frag} {mg : Str → Option Value} {base : Heap} {f : Addr} {fd : FuncData}
theorem off_new {K : PySem.W.Frag} {H : Hp} {p s : Addr} {o : HO} {xs : List V} (h : SqL K H s xs) (n : H p = none) : SqL K (off (upd H p o) p) s xs := by
  refine Same.seq (fun b u e => ?_) h
  rw [off_ne (ne_of_none e n), upd_ne (ne_of_none e n)]
  exact e
def sp_law (K : PySem.W.Frag) : Sp := fun vs H Q _ => ∃ (s : Addr) (ns : List Int), vs = [.ref s] ∧ SqL K H s (ns.map V.int) ∧ ns.length ≤ 63 ∧ ∀ H', Q (.bl true) H'
theorem ok_law {fP fR : Addr} {fdP fdR : FuncData} (F : FnP K "law" s_law f fd) (T : Tz mg) (B : SysOk base)
    (O_pot : Own P w K mg base CX0 1 "_law_pot" ["_law_script", "_law_k"] (sp_pot K) fP fdP)
    (O_right : OwnG P w K mg base CX0 13 "_law_right" ["_law_pot_here"] sp_right fR fdR) : FnG P w K mg base CX0 14 f fd ["_law_script"] (sp_law K) := by
  refine fn_g F sc_law (fun vs H Q E h => ?_) (fun cdv A outer s H vs Q E hg hr h => ?_)
  · obtain ⟨a, ns, rfl, _⟩ := h
    rfl
  · obtain ⟨sc, ns, rfl, hS, hl, q⟩ := h
    refine ⟨_, PSs.nox (pss_cons (ps_for PassesOwn.never rfl (pi_range1 (by rfl) T.z_range (pa_cons (pe_callB (call_max2 rfl) (by rfl) T.z_max (by decide +kernel) (pa_cons pe_int (pa_cons (pe_callB (call_min2 rfl) (by rfl) T.z_min (by decide +kernel) (pa_cons pe_int (pa_cons (pe_callB call_len_seq (by rfl) T.z_len (by decide +kernel) (pa_cons (pv 0) pa_nil)) pa_nil))) pa_nil))) pa_nil)) (pg_name (i := 1) sc_law.nd rfl (Or.inl rfl)) (pss_cons (ps_set (i := 2) sc_law.nd rfl (Or.inr rfl) (pe_own O_pot (hr.mono (by first | decide | omega)) (pa_cons (pv 0) (pa_cons (pv 1) pa_nil))))
      (pss_one (ps_if (pt_not (pt_val (pe_callB (cr_all rfl) (by rfl) T.z_all (by decide +kernel) (pa_cons (pe_lc (own := [("_law_turn", 3)]) (g := gName 3) (tt := tYes) rfl sc_law.nd (pi_range1 (by rfl) T.z_range (pa_cons pe_int pa_nil)) (blkOk_by (own := [("_law_turn", 3)]) (N := N_law) (sc := defScope s_law) (by decide +kernel)) (fun _ _ _ _ _ => pg_name (i := 3) sc_law.nd rfl (Or.inl rfl)) (fun _ _ _ _ _ => pts_nil) (fun _ _ _ _ _ => (pe_owng O_right hg (hr.mono (by first | decide | omega)) (pa_cons (pv 2) pa_nil)))) pa_nil)))) (pss_one (ps_ret pe_bl)) pss_nil))))
      (pss_one (ps_ret pe_bl))), ?_⟩
    refine ⟨.ref sc, rfl, sc, _, rfl, .inl hS, _, _, rfl, _, _, rfl, _, rfl, ?_, ?_, ?_⟩
    · split <;> split <;> omega
    · rw [List.length_map]
      split <;> split <;> omega
    refine for_range (lo := 0) (n := _) (fun _ σ H1 => ∃ x1 x2 x3, σ = [some (.ref sc), x1, x2, x3] ∧ SqL K H1 sc (ns.map V.int)) ⟨none, none, none, rfl, hS⟩ ?_ ?_
    · rintro i σ H1 hi ⟨x1, x2, x3, rfl, hS1⟩
      have hi1 : i < 1000 := by
        refine Nat.lt_of_lt_of_le hi ?_
        rw [List.length_map]
        split <;> split <;> omega
      refine ⟨.ref sc, rfl, .int i, by show some (some (V.int (0 + i))) = _; rw [Int.zero_add], sc, ns, i, rfl, hS1, hi1, fun a u v na v0 v1 => ?_⟩
      have pa : PotAt (upd H1 a (.lst [.int u, .int v])) a := ⟨u, v, upd_same, v0, v1⟩
      have sa := off_new (o := .lst [.int u, .int v]) hS1 na
      revert pa sa
      generalize upd H1 a (.lst [.int u, .int v]) = H2
      intro pa sa
      refine ⟨8, rfl, by decide, by decide, fun D nD => ?_⟩
      have nDa : D ≠ a := pa.ne nD
      refine lc_range (lo := 0) (n := 8) (fun j H3 => PotAt H3 a ∧ Off a H2 H3 ∧ H3 D = some (.lst ((List.replicate j true).map V.bl))) ⟨pa.put nDa, Off.refl.put nD, upd_same⟩ ?_ ?_
      · rintro j H3 hj ⟨p3, o3, e3⟩
        refine ⟨rfl, .ref a, rfl, a, rfl, p3, fun H4 p4 o4 => ?_⟩
        refine ⟨_, o4.get e3 nDa, ?_, p4.put nDa, (o3.trans o4).put nD, ?_⟩
        · rw [List.length_map, List.length_replicate]
          exact small1000 (by omega)
        · rw [upd_same, List.replicate_succ', List.map_append]
          rfl
      · rintro H3 ⟨p3, o3, e3⟩
        refine ⟨D, _, rfl, .inl (.inl e3), _, rfl, ?_⟩
        refine iteF ⟨_, _, _, rfl, ?_⟩
        exact off_same.seq (o3.seq sa)
    · rintro σ H1 ⟨x1, x2, x3, rfl, hS1⟩
      exact q H1
end
end K14

set_option Elab.async false
set_option linter.all false
set_option maxRecDepth 100000
set_option maxHeartbeats 0
namespace K14
open PySem PySem.Spec PyProof.Rows L2 Lw
def dd (x : Str) (st : Stmt) : He.DefD := ⟨(x, none), x, x, defArgs st, defBody st, defScope st, [], []⟩
def fn : List He.DefD := ([dd "kept" s_kept, dd "is_integer" s_is_integer, dd "common_divisor" s_common_divisor, dd "is_number" s_is_number, dd "check_numbers" s_check_numbers, dd "integer_text" s_integer_text, dd "is_integer_text" s_is_integer_text, dd "integer_of_text" s_integer_of_text, dd "number_text" s_number_text, dd "parse_number" s_parse_number, dd "_law_pot" s_pot, dd "_law_draw" s_draw] : List He.DefD) ++
  ([dd "_law_common" s_common, dd "_law_ratio" s_ratio, dd "_law_worth" s_worth, dd "_law_odd" s_odd, dd "_law_is_ratio" s_is_ratio, dd "_law_written" s_written, dd "_law_parsed" s_parsed, dd "_law_is_plain" s_is_plain, dd "_law_due" s_due, dd "_law_spoilt" s_spoilt, dd "_law_refused" s_refused, dd "_law_right" s_right] : List He.DefD) ++
  ([dd "law" s_law] : List He.DefD)
def fa : List He.Fa := ([He.Fa.glo "kept", He.Fa.glo "is_integer", He.Fa.glo "common_divisor", He.Fa.glo "is_number", He.Fa.glo "check_numbers", He.Fa.glo "integer_text", He.Fa.glo "is_integer_text", He.Fa.glo "integer_of_text", He.Fa.glo "number_text", He.Fa.glo "parse_number", He.Fa.glo "_law_pot", He.Fa.glo "_law_draw"] : List He.Fa) ++
  ([He.Fa.glo "_law_common", He.Fa.glo "_law_ratio", He.Fa.glo "_law_worth", He.Fa.glo "_law_odd", He.Fa.glo "_law_is_ratio", He.Fa.glo "_law_written", He.Fa.glo "_law_parsed", He.Fa.glo "_law_is_plain", He.Fa.glo "_law_due", He.Fa.glo "_law_spoilt", He.Fa.glo "_law_refused", He.Fa.glo "_law_right"] : List He.Fa) ++
  ([He.Fa.glo "law", He.Fa.free "isinstance", He.Fa.free "list", He.Fa.free "tuple", He.Fa.free "dict", He.Fa.free "int", He.Fa.free "bool", He.Fa.free "len", He.Fa.free "all", He.Fa.free "repr", He.Fa.free "range", He.Fa.free "max"] : List He.Fa) ++
  ([He.Fa.free "min", He.Fa.free "abs", He.Fa.free "divmod", He.Fa.free "ValueError", He.Fa.free "ArithmeticError", He.Fa.free "super", He.Fa.free "str", He.Fa.str "DIGITS" "0123456789", He.Fa.glo "InvalidNumber", He.Fa.glo "InvalidText", He.Fa.glo "LastheldError", He.Fa.glo "LimitError"] : List He.Fa) ++
  ([He.Fa.glo "MissingError", He.Fa.glo "StateError"] : List He.Fa)
def iD : IniD := ⟨"InvalidNumber", W_ini, "ValueError", "ValueError.__new__", "ValueError.__init__"⟩
def iT : IniD := ⟨"InvalidText", W_iniT, "ValueError", "ValueError.__new__", "ValueError.__init__"⟩
def ex (K : PySem.W.Frag) : Bool :=
  decide (PySem.W.exmOne K (.ref (He.ga K "InvalidNumber")) (.ref (He.ga K "InvalidNumber")) = some true) && (decide (PySem.W.exmOne K (.ref (He.ga K "InvalidText")) (.ref (He.ga K "InvalidText")) = some true) && (excB K (He.ga K "InvalidText") && (xfB K (He.ga K "InvalidNumber") && (xfB K (He.ga K "InvalidText") && (He.eqO (PySem.W.findIn K (.ref (He.ga K "InvalidNumber")) "value") (some none) && (He.eqO (PySem.W.findIn K (.ref (He.ga K "InvalidText")) "line") (some none) && (decide (PySem.W.kitAny K (.ref (He.ga K "InvalidText")) [.ref (He.ga K "InvalidNumber"), .ref (He.ga K "LimitError"), .ref (He.ga K "MissingError"), .ref (He.ga K "StateError")] = some false) && (decide (PySem.W.kitOne K (.ref (He.ga K "InvalidText")) (.ref (He.ga K "LastheldError")) = some true)))))))))
abbrev R : PySem.W.OpenRow := PySem.W.OpenLaw.row PySem.Challenge.rw_lastheld_k14_number_texts
abbrev hk : PySem.W.Hook := hookW 6 (R.prog.main.file : Str) fa fn [iD, iT] ex
def ob (s : PySem.W.SharedT) : AlW := obsWG 6 (R.prog.main.file : Str) fa fn [iD, iT] ex (HandSHeadRun.getT s)
theorem ob_eq (s : PySem.W.SharedT) : ob s = hk.obs s.abs := obsWG_eq (HandSHeadRun.getT_eq s)
abbrev names : List Str := (["kept", "LastheldError", "InvalidNumber", "InvalidText", "MissingError", "StateError", "LimitError", "is_integer", "DIGITS", "common_divisor", "is_number", "check_numbers"] : List Str) ++
  (["integer_text", "is_integer_text", "integer_of_text", "number_text", "parse_number", "_law_pot", "_law_draw", "_law_common", "_law_ratio", "_law_worth", "_law_odd", "_law_is_ratio"] : List Str) ++
  (["_law_written", "_law_parsed", "_law_is_plain", "_law_due", "_law_spoilt", "_law_refused", "_law_right"] : List Str)
theorem run (w : World) : HandSHeadRun.RunEq R (PySem.W.view R.prog [35]) hk ob 6000 names w := by
  intro os
  kernel_rfl
end K14

set_option Elab.async false
set_option linter.all false
set_option maxRecDepth 100000
set_option maxHeartbeats 0
namespace K14
open PySem PySem.Spec PyProof.Rows L2 Lw
theorem F_iD : IniF R.prog iD := ⟨by kernel_rfl, by kernel_rfl, by kernel_rfl, by kernel_rfl, by kernel_rfl, by kernel_rfl⟩
theorem F_iT : IniF R.prog iT := ⟨by kernel_rfl, by kernel_rfl, by kernel_rfl, by kernel_rfl, by kernel_rfl, by kernel_rfl⟩
theorem facts {w : World} {K : PySem.W.Frag} {h : Heap} {mg : Str → Option Value} {f : Addr} (X : K.In h) (G : h.Ns mainGlobals mg) (hfa : mg ("law" : Str) = some (.ref f)) (cw : SaysW (R.prog.main.file : Str) fa fn [iD, iT] ex K) :
    ∃ fd : FuncData, (∀ (s : Shared) (v : Value), BindsTo s fd ⟨[v], []⟩ [("_law_script", v)]) ∧ ∀ base : Heap, K.In base → base.Ns mainGlobals mg → SysOk base → FnG R.prog w K mg base CX0 14 f fd ["_law_script"] (sp_law K) := by
  have c := cw.d
  obtain ⟨fd_kept, F_kept⟩ := c.def_ 0 (d := dd "kept" s_kept) rfl
  have m_kept := He.glo_ok X G (c.fact 0 (f := .glo "kept") rfl)
  obtain ⟨fd_is_integer, F_is_integer⟩ := c.def_ 1 (d := dd "is_integer" s_is_integer) rfl
  have m_is_integer := He.glo_ok X G (c.fact 1 (f := .glo "is_integer") rfl)
  obtain ⟨fd_common_divisor, F_common_divisor⟩ := c.def_ 2 (d := dd "common_divisor" s_common_divisor) rfl
  have m_common_divisor := He.glo_ok X G (c.fact 2 (f := .glo "common_divisor") rfl)
  obtain ⟨fd_is_number, F_is_number⟩ := c.def_ 3 (d := dd "is_number" s_is_number) rfl
  have m_is_number := He.glo_ok X G (c.fact 3 (f := .glo "is_number") rfl)
  obtain ⟨fd_check_numbers, F_check_numbers⟩ := c.def_ 4 (d := dd "check_numbers" s_check_numbers) rfl
  have m_check_numbers := He.glo_ok X G (c.fact 4 (f := .glo "check_numbers") rfl)
  obtain ⟨fd_integer_text, F_integer_text⟩ := c.def_ 5 (d := dd "integer_text" s_integer_text) rfl
  have m_integer_text := He.glo_ok X G (c.fact 5 (f := .glo "integer_text") rfl)
  obtain ⟨fd_is_integer_text, F_is_integer_text⟩ := c.def_ 6 (d := dd "is_integer_text" s_is_integer_text) rfl
  have m_is_integer_text := He.glo_ok X G (c.fact 6 (f := .glo "is_integer_text") rfl)
  obtain ⟨fd_integer_of_text, F_integer_of_text⟩ := c.def_ 7 (d := dd "integer_of_text" s_integer_of_text) rfl
  have m_integer_of_text := He.glo_ok X G (c.fact 7 (f := .glo "integer_of_text") rfl)
  obtain ⟨fd_number_text, F_number_text⟩ := c.def_ 8 (d := dd "number_text" s_number_text) rfl
  have m_number_text := He.glo_ok X G (c.fact 8 (f := .glo "number_text") rfl)
  obtain ⟨fd_parse_number, F_parse_number⟩ := c.def_ 9 (d := dd "parse_number" s_parse_number) rfl
  have m_parse_number := He.glo_ok X G (c.fact 9 (f := .glo "parse_number") rfl)
  obtain ⟨fd_pot, F_pot⟩ := c.def_ 10 (d := dd "_law_pot" s_pot) rfl
  have m_pot := He.glo_ok X G (c.fact 10 (f := .glo "_law_pot") rfl)
  obtain ⟨fd_draw, F_draw⟩ := c.def_ 11 (d := dd "_law_draw" s_draw) rfl
  have m_draw := He.glo_ok X G (c.fact 11 (f := .glo "_law_draw") rfl)
  obtain ⟨fd_common, F_common⟩ := c.def_ 12 (d := dd "_law_common" s_common) rfl
  have m_common := He.glo_ok X G (c.fact 12 (f := .glo "_law_common") rfl)
  obtain ⟨fd_ratio, F_ratio⟩ := c.def_ 13 (d := dd "_law_ratio" s_ratio) rfl
  have m_ratio := He.glo_ok X G (c.fact 13 (f := .glo "_law_ratio") rfl)
  obtain ⟨fd_worth, F_worth⟩ := c.def_ 14 (d := dd "_law_worth" s_worth) rfl
  have m_worth := He.glo_ok X G (c.fact 14 (f := .glo "_law_worth") rfl)
  obtain ⟨fd_odd, F_odd⟩ := c.def_ 15 (d := dd "_law_odd" s_odd) rfl
  have m_odd := He.glo_ok X G (c.fact 15 (f := .glo "_law_odd") rfl)
  obtain ⟨fd_is_ratio, F_is_ratio⟩ := c.def_ 16 (d := dd "_law_is_ratio" s_is_ratio) rfl
  have m_is_ratio := He.glo_ok X G (c.fact 16 (f := .glo "_law_is_ratio") rfl)
  obtain ⟨fd_written, F_written⟩ := c.def_ 17 (d := dd "_law_written" s_written) rfl
  have m_written := He.glo_ok X G (c.fact 17 (f := .glo "_law_written") rfl)
  obtain ⟨fd_parsed, F_parsed⟩ := c.def_ 18 (d := dd "_law_parsed" s_parsed) rfl
  have m_parsed := He.glo_ok X G (c.fact 18 (f := .glo "_law_parsed") rfl)
  obtain ⟨fd_is_plain, F_is_plain⟩ := c.def_ 19 (d := dd "_law_is_plain" s_is_plain) rfl
  have m_is_plain := He.glo_ok X G (c.fact 19 (f := .glo "_law_is_plain") rfl)
  obtain ⟨fd_due, F_due⟩ := c.def_ 20 (d := dd "_law_due" s_due) rfl
  have m_due := He.glo_ok X G (c.fact 20 (f := .glo "_law_due") rfl)
  obtain ⟨fd_spoilt, F_spoilt⟩ := c.def_ 21 (d := dd "_law_spoilt" s_spoilt) rfl
  have m_spoilt := He.glo_ok X G (c.fact 21 (f := .glo "_law_spoilt") rfl)
  obtain ⟨fd_refused, F_refused⟩ := c.def_ 22 (d := dd "_law_refused" s_refused) rfl
  have m_refused := He.glo_ok X G (c.fact 22 (f := .glo "_law_refused") rfl)
  obtain ⟨fd_right, F_right⟩ := c.def_ 23 (d := dd "_law_right" s_right) rfl
  have m_right := He.glo_ok X G (c.fact 23 (f := .glo "_law_right") rfl)
  obtain ⟨fd_law, F_law⟩ := c.def_ 24 (d := dd "law" s_law) rfl
  have m_law := He.glo_ok X G (c.fact 24 (f := .glo "law") rfl)
  have e := hfa.symm.trans m_law
  cases e
  have T : Tz mg := ⟨He.free_ok X G (c.fact 25 rfl), He.free_ok X G (c.fact 26 rfl), He.free_ok X G (c.fact 27 rfl), He.free_ok X G (c.fact 28 rfl), He.free_ok X G (c.fact 29 rfl), He.free_ok X G (c.fact 30 rfl), He.free_ok X G (c.fact 31 rfl), He.free_ok X G (c.fact 32 rfl), He.free_ok X G (c.fact 33 rfl), He.free_ok X G (c.fact 34 rfl), He.free_ok X G (c.fact 35 rfl), He.free_ok X G (c.fact 36 rfl), He.free_ok X G (c.fact 37 rfl), He.free_ok X G (c.fact 38 rfl), He.free_ok X G (c.fact 39 rfl), He.free_ok X G (c.fact 40 rfl), He.free_ok X G (c.fact 41 rfl), He.free_ok X G (c.fact 42 rfl), He.str_ok X G (c.fact 43 rfl)⟩
  have k_InvalidNumber := He.glo_ok X G (c.fact 44 (f := .glo "InvalidNumber") rfl)
  have k_InvalidText := He.glo_ok X G (c.fact 45 (f := .glo "InvalidText") rfl)
  have k_LastheldError := He.glo_ok X G (c.fact 46 (f := .glo "LastheldError") rfl)
  have k_LimitError := He.glo_ok X G (c.fact 47 (f := .glo "LimitError") rfl)
  have k_MissingError := He.glo_ok X G (c.fact 48 (f := .glo "MissingError") rfl)
  have k_StateError := He.glo_ok X G (c.fact 49 (f := .glo "StateError") rfl)
  obtain ⟨fd_iD, R_iD⟩ := ini_of (d := iD) X G T.z_super F_iD (cw.i iD (List.mem_cons_self ..)).2 (cw.i iD (List.mem_cons_self ..)).1
  obtain ⟨cc_iD, cda_iD, S_iD⟩ := R_iD.s
  obtain ⟨fd_iT, R_iT⟩ := ini_of (d := iT) X G T.z_super F_iT (cw.i iT (List.mem_cons_of_mem _ (List.mem_cons_self ..))).2 (cw.i iT (List.mem_cons_of_mem _ (List.mem_cons_self ..))).1
  obtain ⟨cc_iT, cda_iT, S_iT⟩ := R_iT.s
  have cx := cw.ex
  unfold ex at cx
  simp only [Bool.and_eq_true] at cx
  obtain ⟨x0, x1, x2, x3, x4, x5, x6, x7, x8⟩ := cx
  have TC : Tc K mg (He.ga K "InvalidNumber") (He.ga K "InvalidText") (He.ga K "LastheldError") (He.ga K "LimitError") (He.ga K "MissingError") (He.ga K "StateError") :=
    ⟨k_InvalidNumber, k_InvalidText, k_LastheldError, k_LimitError, k_MissingError, k_StateError, of_decide_eq_true x0, of_decide_eq_true x1, excB_ok x2, xfB_ok x3, xfB_ok x4, He.eqO_ok x5, He.eqO_ok x6, of_decide_eq_true x7, of_decide_eq_true x8⟩
  have b := FunD.bindsA (ps := ["_law_script"]) F_law fun _ _ _ _ _ _ us hl => match us, hl with | [_], _ => rfl
  refine ⟨fd_law, fun s v => b s [v] rfl, fun base _ _ B => ?_⟩
  have O0 : ∀ n, Own R.prog w K mg base CX0 (n + 1) "kept" ["value"] (sp_kept K n) _ fd_kept := fun n => ⟨ok_kept F_kept T m_kept n, m_kept, F_kept.kp, F_kept.bindsN fun _ _ _ _ _ _ us hl => match us, hl with | [_], _ => rfl⟩
  have O_is_integer : Own R.prog w K mg base CX0 1 "is_integer" ["value"] (sp_int K) _ fd_is_integer := ⟨ok_is_integer F_is_integer T, m_is_integer, F_is_integer.kp, F_is_integer.bindsN fun _ _ _ _ _ _ us hl => match us, hl with | [_], _ => rfl⟩
  have O_common_divisor : Own R.prog w K mg base CX0 1 "common_divisor" ["first", "second"] sp_gcd _ fd_common_divisor := ⟨ok_common_divisor F_common_divisor T, m_common_divisor, F_common_divisor.kp, F_common_divisor.bindsN fun _ _ _ _ _ _ us hl => match us, hl with | [_, _], _ => rfl⟩
  have O_is_number : Own R.prog w K mg base CX0 2 "is_number" ["value"] (sp_num K) _ fd_is_number := ⟨ok_is_number F_is_number T O_is_integer O_common_divisor, m_is_number, F_is_number.kp, F_is_number.bindsN fun _ _ _ _ _ _ us hl => match us, hl with | [_], _ => rfl⟩
  have EI : OwnE R.prog w K mg base 8 "InvalidNumber" ["self", "value"] (sp_ini K (He.ga K "InvalidNumber") 5) (He.ga K "InvalidNumber") (iniAt K iD) fd_iD (tlOf "ValueError") "ValueError.__new__" := ⟨R_iD.t, R_iD.i, R_iD.ti, ok_ini (n := 5) R_iD.t S_iD TC.hnoN R_iD.lk (O0 6), R_iD.binds fun _ _ _ _ _ us hl => match us, hl with | [_, _], _ => rfl, R_iD.m⟩
  have ET : OwnE R.prog w K mg base 1 "InvalidText" ["self", "line"] (sp_iniT (He.ga K "InvalidText")) (He.ga K "InvalidText") (iniAt K iT) fd_iT (tlOf "ValueError") "ValueError.__new__" := ⟨R_iT.t, R_iT.i, R_iT.ti, ok_iniT R_iT.t S_iT TC.hnoT R_iT.lk, R_iT.binds fun _ _ _ _ _ us hl => match us, hl with | [_, _], _ => rfl, R_iT.m⟩
  have K_check : FnOk R.prog w K mg base (L2.CX R.prog w) 10 _ fd_check_numbers ["values"] (sp_check K (He.ga K "InvalidNumber")) := ok_check_numbers F_check_numbers T EI O_is_number
  have O_check : OwnR R.prog w K mg base 10 "check_numbers" (sp_check K (He.ga K "InvalidNumber")) _ := ownR_of K_check (F_check_numbers.bindsN fun _ _ _ _ _ _ us hl => match us, hl with | [_], _ => rfl) m_check_numbers F_check_numbers.kp
  have O_integer_text : Own R.prog w K mg base CX0 1 "integer_text" ["value"] sp_itext _ fd_integer_text := ⟨ok_integer_text F_integer_text T, m_integer_text, F_integer_text.kp, F_integer_text.bindsN fun _ _ _ _ _ _ us hl => match us, hl with | [_], _ => rfl⟩
  have O_is_integer_text : Own R.prog w K mg base CX0 1 "is_integer_text" ["text"] sp_isit _ fd_is_integer_text := ⟨ok_is_integer_text F_is_integer_text T, m_is_integer_text, F_is_integer_text.kp, F_is_integer_text.bindsN fun _ _ _ _ _ _ us hl => match us, hl with | [_], _ => rfl⟩
  have O_integer_of_text : Own R.prog w K mg base CX0 1 "integer_of_text" ["text"] sp_iof _ fd_integer_of_text := ⟨ok_integer_of_text F_integer_of_text T, m_integer_of_text, F_integer_of_text.kp, F_integer_of_text.bindsN fun _ _ _ _ _ _ us hl => match us, hl with | [_], _ => rfl⟩
  have K_nt : FnOk R.prog w K mg base (L2.CX R.prog w) 11 _ fd_number_text ["value"] (sp_ntext K (He.ga K "InvalidNumber")) := ok_number_text F_number_text T O_check O_integer_text
  have O_nt : OwnR R.prog w K mg base 11 "number_text" (sp_ntext K (He.ga K "InvalidNumber")) _ := ownR_of K_nt (F_number_text.bindsN fun _ _ _ _ _ _ us hl => match us, hl with | [_], _ => rfl) m_number_text F_number_text.kp
  have X_nt : OwnX R.prog w K mg base 11 "number_text" ["value"] (sp_ntext K (He.ga K "InvalidNumber")) _ fd_number_text := ⟨K_nt, m_number_text, F_number_text.kp⟩
  have W_nt := kb1 (a := "value") F_number_text fun _ _ _ _ _ _ _ => rfl
  have K_pn : FnOk R.prog w K mg base (L2.CX R.prog w) 4 _ fd_parse_number ["text"] (sp_parse K (He.ga K "InvalidText")) := ok_parse_number F_parse_number T ET O_is_integer_text O_integer_of_text O_is_number
  have O_pn : OwnR R.prog w K mg base 4 "parse_number" (sp_parse K (He.ga K "InvalidText")) _ := ownR_of K_pn (F_parse_number.bindsN fun _ _ _ _ _ _ us hl => match us, hl with | [_], _ => rfl) m_parse_number F_parse_number.kp
  have X_pn : OwnX R.prog w K mg base 4 "parse_number" ["text"] (sp_parse K (He.ga K "InvalidText")) _ fd_parse_number := ⟨K_pn, m_parse_number, F_parse_number.kp⟩
  have W_pn := kb1 (a := "text") F_parse_number fun _ _ _ _ _ _ _ => rfl
  have O_pot : Own R.prog w K mg base CX0 1 "_law_pot" ["_law_script", "_law_k"] (sp_pot K) _ fd_pot := ⟨ok_pot F_pot T, m_pot, F_pot.kp, F_pot.bindsN fun _ _ _ _ _ _ us hl => match us, hl with | [_, _], _ => rfl⟩
  have O_draw : Own R.prog w K mg base CX0 1 "_law_draw" ["_law_pot_here", "_law_many"] sp_draw _ fd_draw := ⟨ok_draw F_draw T, m_draw, F_draw.kp, F_draw.bindsN fun _ _ _ _ _ _ us hl => match us, hl with | [_, _], _ => rfl⟩
  have O_common : Own R.prog w K mg base CX0 1 "_law_common" ["_law_a", "_law_b"] sp_gcd _ fd_common := ⟨ok_common F_common T, m_common, F_common.kp, F_common.bindsN fun _ _ _ _ _ _ us hl => match us, hl with | [_, _], _ => rfl⟩
  have O_ratio : Own R.prog w K mg base CX0 2 "_law_ratio" ["_law_top", "_law_low"] (sp_lowest K) _ fd_ratio := ⟨ok_ratio F_ratio T O_common, m_ratio, F_ratio.kp, F_ratio.bindsN fun _ _ _ _ _ _ us hl => match us, hl with | [_, _], _ => rfl⟩
  have O_worth : Own R.prog w K mg base CX0 3 "_law_worth" ["_law_pot_here"] (sp_worth K) _ fd_worth := ⟨ok_worth F_worth T O_draw O_ratio, m_worth, F_worth.kp, F_worth.bindsN fun _ _ _ _ _ _ us hl => match us, hl with | [_], _ => rfl⟩
  have O_odd : Own R.prog w K mg base CX0 2 "_law_odd" ["_law_pot_here"] (sp_odd K) _ fd_odd := ⟨ok_odd F_odd T O_draw, m_odd, F_odd.kp, F_odd.bindsN fun _ _ _ _ _ _ us hl => match us, hl with | [_], _ => rfl⟩
  have O_is_ratio : Own R.prog w K mg base CX0 2 "_law_is_ratio" ["_law_thing"] (sp_num K) _ fd_is_ratio := ⟨ok_is_ratio F_is_ratio T O_common, m_is_ratio, F_is_ratio.kp, F_is_ratio.bindsN fun _ _ _ _ _ _ us hl => match us, hl with | [_], _ => rfl⟩
  have O_written : Own R.prog w K mg base CX0 1 "_law_written" ["_law_thing"] (sp_written K) _ fd_written := ⟨ok_written F_written T, m_written, F_written.kp, F_written.bindsN fun _ _ _ _ _ _ us hl => match us, hl with | [_], _ => rfl⟩
  have O_parsed : Own R.prog w K mg base CX0 5 "_law_parsed" ["_law_words"] (sp_told K) _ fd_parsed := ⟨ok_parsed F_parsed T TC O_pn, m_parsed, F_parsed.kp, F_parsed.bindsN fun _ _ _ _ _ _ us hl => match us, hl with | [_], _ => rfl⟩
  have O_is_plain : Own R.prog w K mg base CX0 1 "_law_is_plain" ["_law_word", "_law_is_signed"] sp_plain _ fd_is_plain := ⟨ok_is_plain F_is_plain T, m_is_plain, F_is_plain.kp, F_is_plain.bindsN fun _ _ _ _ _ _ us hl => match us, hl with | [_, _], _ => rfl⟩
  have O_due : Own R.prog w K mg base CX0 3 "_law_due" ["_law_words"] (sp_told K) _ fd_due := ⟨ok_due F_due T O_is_plain O_is_ratio, m_due, F_due.kp, F_due.bindsN fun _ _ _ _ _ _ us hl => match us, hl with | [_], _ => rfl⟩
  have O_spoilt : Own R.prog w K mg base CX0 2 "_law_spoilt" ["_law_pot_here", "_law_words"] sp_spoilt _ fd_spoilt := ⟨ok_spoilt F_spoilt T O_draw, m_spoilt, F_spoilt.kp, F_spoilt.bindsN fun _ _ _ _ _ _ us hl => match us, hl with | [_, _], _ => rfl⟩
  have O_refused : Own R.prog w K mg base CX0 12 "_law_refused" ["_law_thing"] (sp_refused K) _ fd_refused := ⟨ok_refused F_refused T TC O_nt, m_refused, F_refused.kp, F_refused.bindsN fun _ _ _ _ _ _ us hl => match us, hl with | [_], _ => rfl⟩
  have O_right : OwnG R.prog w K mg base CX0 13 "_law_right" ["_law_pot_here"] sp_right _ fd_right := ⟨ok_right F_right T B O_draw O_odd O_worth O_written O_parsed O_due O_is_ratio O_spoilt O_refused O_nt O_pn X_nt W_nt X_pn W_pn, m_right, F_right.kp, F_right.bindsN fun _ _ _ _ _ _ us hl => match us, hl with | [_], _ => rfl⟩
  exact ok_law F_law T B O_pot O_right
end K14
open PySem PySem.W PySem.Calls PyProof.Rows
theorem PySem.Challenge.cw_lastheld_k14_number_texts_holds : PySem.Challenge.rw_lastheld_k14_number_texts.Holds := by
  w_on; o_law
  refine HandSHeadRun.head_any (r := OpenLaw.row PySem.Challenge.rw_lastheld_k14_number_texts) (q := view (OpenLaw.row PySem.Challenge.rw_lastheld_k14_number_texts).prog [35]) (H := K14.hk) (ob := K14.ob) (M := 6000) (loose := K14.names)
    (d := HandSHeadRun.topDef (OpenLaw.row PySem.Challenge.rw_lastheld_k14_number_texts).prog 35) (kwd := []) K14.ob_eq
    (by kernel_rfl) (fun s => by kernel_rfl) K14.run (by kernel_rfl) (by kernel_rfl) (by kernel_rfl) (by rfl) (by first | assumption | decide +kernel) (by decide +kernel) ⟨rfl, rfl, rfl, rfl, rfl, by decide +kernel⟩ ?hw ?hc
  case hw => w_witness2
  case hc =>
    refine Lw.walk_g (l := PySem.Challenge.rw_lastheld_k14_number_texts) (n := 63) (k := 14) (x := "_law_script") (CX := L2.CX0) rfl (by decide) (by kernel_rfl) (by kernel_rfl) ⟨rfl, by decide, by decide⟩ ?F (fun _ _ _ _ z => z)
    intro w mg fa h Y G hmg0
    obtain ⟨K, KX, c⟩ := Y
    have hmg : mg ("law" : PySem.Str) = some (.ref fa) := by
      have e : (HandSHeadRun.topDef (OpenLaw.row PySem.Challenge.rw_lastheld_k14_number_texts).prog 35).name = ("law" : PySem.Str) := by kernel_rfl
      rw [← e]
      exact hmg0
    obtain ⟨fd, hb, hF⟩ := K14.facts (w := w) KX G hmg c
    exact ⟨K, fd, K14.sp_law K, KX, hb, fun H a ns hl _ hS => ⟨a, ns, rfl, hS, hl, fun _ => rfl⟩, hF⟩


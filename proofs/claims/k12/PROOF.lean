import PyProof.Rows.All
import Wide.All
import OpenK.AllK
import Wide.FinOn
import PyProof.ReprRoads
import PyProof.StrBlock2
import HandS.ForMost
import HandS.Walk
import HandS.IsInst
import HandS.Defaults
import HandS.Flow
import HandS.Wide
import HandS.HeadEnd
import HandS.ForExc
import HandS.ExcInit
import HandS.ExcIs
import HandS.ExcField
import HandS.NestedK
import KE.KExcSuper
import HandS.Head0
import HandS.Head1
import HandS.Head2
import HandS.HeadHook1
import HandS.HeadHook2
import HandS.DictComp
import HandS.CallSlots
import HandS.Codes
import HandS.MakeKw
import PySem.Challenge.RW_lastheld_k12_numbers_judged
set_option Elab.async false
set_option linter.all false
set_option maxRecDepth 100000
set_option maxHeartbeats 2000000
namespace Lw
open PySem PySem.Spec PyProof.Rows L2

/-! ## data with empty dicts, and repr -/
mutual
inductive Dq (K : PySem.W.Frag) (H : Hp) : V → PyData → Prop
  | non : Dq K H .non .none
  | bl (b : Bool) : Dq K H (.bl b) (.bool b)
  | int (i : Int) : Dq K H (.int i) (.int i)
  | str (x : Str) : Dq K H (.str x) (.str x)
  | lst {a : Addr} {xs : List V} {ds : List PyData} (h : SqL K H a xs) (g : DqAll K H xs ds) : Dq K H (.ref a) (.list ds)
  | tup {a : Addr} {xs : List V} {ds : List PyData} (h : SqT K H a xs) (g : DqAll K H xs ds) : Dq K H (.ref a) (.tuple ds)
  | dic {a : Addr} (h : H a = some (.dK [])) : Dq K H (.ref a) (.dict [])
inductive DqAll (K : PySem.W.Frag) (H : Hp) : List V → List PyData → Prop
  | nil : DqAll K H [] []
  | cons {v : V} {vs : List V} {d : PyData} {ds : List PyData} (h : Dq K H v d) (g : DqAll K H vs ds) : DqAll K H (v :: vs) (d :: ds)
end

theorem same_t {K : PySem.W.Frag} {H H' : Hp} {a : Addr} {xs : List V} (e : Same H H') (h : SqT K H a xs) : SqT K H' a xs := by
  rcases h with (h | ⟨o, h⟩) | h
  · exact .inl (.inl (e _ _ h))
  · exact .inl (.inr ⟨o, e _ _ h⟩)
  · exact .inr h
theorem same_upd {H : Hp} {p : Addr} {o : HO} (h : H p = none) : Same H (upd H p o) := fun b x e => by
  rw [upd_ne (ne_of_none e h)]
  exact e
mutual
theorem Dq.same {K : PySem.W.Frag} {H H' : Hp} (e : Same H H') : ∀ {v : V} {d : PyData}, Dq K H v d → Dq K H' v d
  | _, _, .non => .non
  | _, _, .bl b => .bl b
  | _, _, .int i => .int i
  | _, _, .str x => .str x
  | _, _, .lst h g => .lst (e.seq h) (DqAll.same e g)
  | _, _, .tup h g => .tup (same_t e h) (DqAll.same e g)
  | _, _, .dic h => .dic (e _ _ h)
theorem DqAll.same {K : PySem.W.Frag} {H H' : Hp} (e : Same H H') : ∀ {v : List V} {d : List PyData}, DqAll K H v d → DqAll K H' v d
  | _, _, .nil => .nil
  | _, _, .cons h g => .cons (Dq.same e h) (DqAll.same e g)
end

/-- the table of modules stands, and is a dict -/
def SysOk (h : Heap) : Prop := ∃ o es ep, h.get? sysModules = some o ∧ o.data = Data.dict es ep

section
variable {X : Cx} {pins : List (Addr × Obj)} {σ : L2.St} {H : Hp} {s : Shared}
theorem no_sys (B : SysOk X.base) (I : Inv X pins σ H s) {a : Addr} {o : Obj} {vs : Array Value} {n : Nat} (h : s.heap.get? a = some o) (hd : o.data = .seq vs n) : sysModules ≠ a := by
  obtain ⟨o', es, ep, e1, e2⟩ := B
  intro z
  have e3 := I.bk _ _ e1
  rw [z, h] at e3
  cases e3
  rw [hd] at e2
  cases e2
theorem dict0 (I : Inv X pins σ H s) {a : Addr} (h : H a = some (.dK [])) : ∃ o es ep, s.heap.get? a = some o ∧ o.cls = .type "dict" ∧ o.data = Data.dict es ep ∧ es.toList = [] ∧ sysModules ≠ a := by
  obtain ⟨_, h1, vs, kv, o, es, ep, e1, e2, e3, _, e5, _⟩ := (show ObjOk X.prog X.w H s.heap a (.dK []) from I.hok a _ h)
  have e6 : vs = [] := by
    have := Paired.length kv
    cases vs with
    | nil => rfl
    | cons _ _ => simp at this
  subst e6
  refine ⟨o, es, ep, e1, e2.1, e3, ?_, fun z => ?_⟩
  · generalize es.toList = l at e5
    cases e5
    rfl
  · rw [← z] at h1
    exact absurd h1 (by decide)
mutual
theorem Dq.reads (B : SysOk X.base) (I : Inv X pins σ H s) : ∀ (d : PyData) (v : V) (u : Value), Dq X.K H v d → RelV v u → ∃ as, Reads s.heap u d as ∧ sysModules ∉ as
  | .none, _, _, h, r => by
    cases h
    cases r
    exact ⟨_, Reads.none, by simp⟩
  | .bool b, _, _, h, r => by
    cases h
    cases r
    exact ⟨_, Reads.bool b, by simp⟩
  | .int i, _, _, h, r => by
    cases h
    obtain ⟨t, rfl⟩ := r
    exact ⟨_, Reads.int i t, by simp⟩
  | .str x, _, _, h, r => by
    cases h
    obtain ⟨t, rfl⟩ := r
    exact ⟨_, Reads.str x t, by simp⟩
  | .list ds, _, _, h, r => by
    cases h with
    | lst hs ha =>
      cases r
      obtain ⟨its, rv, ⟨o, n, ho, hc, _, hd⟩, _⟩ := I.list hs
      obtain ⟨as, hr, hn⟩ := DqAll.reads B I ds _ its ha rv
      refine ⟨_, Reads.list ho hc hd hr, fun z => ?_⟩
      rcases List.mem_cons.mp z with z | z
      · exact no_sys B I ho hd z
      · exact hn z
  | .tuple ds, _, _, h, r => by
    cases h with
    | tup hs ha =>
      cases r
      obtain ⟨its, rv, ⟨o, ho, hc, n, hd⟩, _⟩ := I.tuple hs
      obtain ⟨as, hr, hn⟩ := DqAll.reads B I ds _ its ha rv
      exact ⟨_, Reads.tuple ho hc hd hr, hn⟩
  | .dict kvs, _, _, h, r => by
    cases h with
    | dic h =>
      cases r
      obtain ⟨o, es, ep, e1, e2, e3, e4, e5⟩ := dict0 I h
      refine ⟨_, Reads.dict (as := []) (bs := []) e1 e2 e3 ?_ ?_, fun z => ?_⟩
      · rw [e4]
        exact .nil
      · rw [e4]
        exact .nil
      · rcases List.mem_cons.mp z with z | z
        · exact e5 z
        · simp at z
theorem DqAll.reads (B : SysOk X.base) (I : Inv X pins σ H s) : ∀ (ds : List PyData) (vs : List V) (us : List Value), DqAll X.K H vs ds → Vals vs us → ∃ as, ReadsAll s.heap us ds as ∧ sysModules ∉ as
  | [], _, _, h, r => by
    cases h
    cases r
    exact ⟨_, ReadsAll.nil, by simp⟩
  | d :: ds, _, _, h, r => by
    cases h with
    | cons h1 h2 =>
      cases r with
      | cons r1 r2 =>
        obtain ⟨as, q1, n1⟩ := Dq.reads B I d _ _ h1 r1
        obtain ⟨bs, q2, n2⟩ := DqAll.reads B I ds _ _ h2 r2
        refine ⟨_, ReadsAll.cons q1 q2, fun z => ?_⟩
        rcases List.mem_append.mp z with z | z
        · exact n1 z
        · exact n2 z
end
end

/-- repr(x) of data: its text -/
def rRepr (K : PySem.W.Frag) : List V → Hp → VK → Prop := fun xs H Q =>
  ∃ (v : V) (d : PyData), xs = [v] ∧ Dq K H v d ∧ d.showable = true ∧ d.shown.length ≤ sizeLine ∧ d.depth ≤ 60 ∧ Q (.str d.shown) H
section
variable {X : Cx}
theorem call_repr (B : SysOk X.base) (hg : X.A.guards = some []) (hu : X.A.units + 64 < cLine) : CallR X (.builtin "repr") (rRepr X.K) := by
  intro pins s σ H xs us Q I r h
  obtain ⟨v, d, rfl, hd, hs, hz, hp, q⟩ := h
  obtain ⟨u, rfl, ru⟩ := vals1 r
  obtain ⟨as, r1, ns⟩ := Dq.reads B I d v u hd ru
  cases r1 with
  | none => exact PySem.P.repr_of_none ⟨.str _, H, I.tok _, ⟨_, rfl⟩, q⟩
  | bool b => exact PySem.P.repr_of_bool ⟨.str _, H, I.tok _, ⟨_, rfl⟩, q⟩
  | int i t => exact PySem.P.repr_of_int (by simpa [PyData.showable] using hs) ⟨.str _, H, I.tok _, ⟨_, rfl⟩, q⟩
  | str x t => exact PySem.P.repr_of_str ⟨.str _, H, I.tok _, ⟨_, rfl⟩, q⟩ hz
  | list h1 h2 h3 h4 => exact repr_of_reads' (Reads.list h1 h2 h3 h4) hs (fun _ => ns) hg (by omega) (fun _ _ e => e) (fun h' u tk hk => ⟨.str _, H, I.kept hk, ⟨_, rfl⟩, q⟩) hz
  | tuple h1 h2 h3 h4 => exact repr_of_reads' (Reads.tuple h1 h2 h3 h4) hs (fun _ => ns) hg (by omega) (fun _ _ e => e) (fun h' u tk hk => ⟨.str _, H, I.kept hk, ⟨_, rfl⟩, q⟩) hz
  | dict h1 h2 h3 h4 h5 => exact repr_of_reads' (Reads.dict h1 h2 h3 h4 h5) hs (fun _ => ns) hg (by omega) (fun _ _ e => e) (fun h' u tk hk => ⟨.str _, H, I.kept hk, ⟨_, rfl⟩, q⟩) hz
/-- text * int -/
def rMulS : R2 := fun x y H Q => ∃ (z : Str) (n : Int), x = .str z ∧ y = .int n ∧ MulOk z n ∧ Q (.str (Txt.mul z n)) H
theorem op_mulS : OpR X (binaryOp .Mult) rMulS := by
  intro pins s σ H x y v u Q I rx ry h
  obtain ⟨z, n, rfl, rfl, ok, q⟩ := h
  obtain ⟨t, rfl⟩ := rx
  obtain ⟨t', rfl⟩ := ry
  exact PySem.SB.mul ok fun t k => ⟨.str _, H, I.tok _, ⟨_, rfl⟩, q⟩
end

/-! ## calls by keywords alone -/
section
variable {X : Cx} {CX : CXT} {k n : Nat} {f : Addr} {fd : FuncData} {ps ks : List Str} {sp : Sp} {E : XK} {x : Str} {p pos : Pos} {kws : List Keyword} {tk : TA} {g : List Value → List Value → List Value} {gV : List V → List V → List V}
theorem pe_callW (F : FnOk X.prog X.w X.K X.mg X.base CX k f fd ps sp) (hr : Room k X.A) (hg : Gl X x) (hm : X.mg x = some (.ref f)) (hk : PySem.W.keepIn X.K (.ref f) = true) (hb : KBn X.K fd ps 0 ks g gV)
    (hx : Passes CX X E) (hkw : PK X kws tk)
    (hall : (backToKw pos (keywordEach kws X.env)).all (fun q => q.1.isSome) = true := by rfl)
    (hks : (backToKw pos (keywordEach kws X.env)).filterMap (fun q => q.1) = ks := by rfl)
    (hdb : (x == ("__debug__" : Str)) = false := by decide)
    (hpl : ((backTo pos (starEach [] X.env)).any (fun q => q.1) || (backToKw pos (keywordEach kws X.env)).any (fun q => q.1.isNone)) = false := by rfl) :
    PE X (.Call (.Name x p) [] kws pos) (tCallN 0 ks.length sp gV E tNil tk) := by
  constructor
  intro pins s σ H Q I h
  refine wpAny_Call_Name_kw (ld_glob I hg hm ?_ hdb)
  refine PySem.W.callWith_KW0 (h₀ := X.base) I.ok.mod.kin hk hall ?_ hpl
  refine thn (hkw.run pos pins s σ H _ I h) fun ws s2 hq => ?_
  obtain ⟨zs, H2, I2, rz, l1, l2, q2⟩ := hq
  refine ⟨I2.kIn, ?_⟩
  rw [hks]
  exact run_fnN (us := []) (vs := []) F hr hb hx I2 .nil rz rfl l2 q2
/-- one keyword for the one parameter -/
theorem kb1 {K : PySem.W.Frag} {y qual : Str} {params : Arguments} {body : List Stmt} {scope : Scope} {kw : List (Str × V)} {f : Addr} {fd : FuncData} {a : Str} (F : FunD K y qual params body scope [] kw f fd)
    (h : ∀ (kV doc pm : Value) (an : Option Addr) (cdv ct v : Value), bindArgs (PySem.W.fnOf y qual params body scope .none kV doc pm an cdv ct) ⟨[], [(a, v)]⟩ = pure [(a, v)]) :
    KBn K fd [a] 0 [a] (fun _ ws => ws) (fun _ zs => zs) := by
  obtain ⟨oc, od, dV, kV, doc, pm, an, cdv, ct, osl, rfl, lk, hcd, hD, hK⟩ := F.ex
  rcases hD with ⟨_, rfl⟩ | ⟨e, _⟩
  · refine ⟨fun s us ws X l1 l2 => ?_, fun _ r => r⟩
    match us, ws, l1, l2 with
    | [], [v], _, _ => exact .of_eq (h kV doc pm an cdv ct v)
  · exact absurd rfl e
end

/-! ## defs that are called where no repr is under way -/
structure FnG (P : Program) (w : World) (K : PySem.W.Frag) (mg : Str → Option Value) (base : Heap) (CX : CXT) (k : Nat) (f : Addr) (fd : FuncData) (ps : List Str) (sp : Sp) : Prop where
  len : ∀ vs H Q E, sp vs H Q E → vs.length = ps.length
  run : ∀ (A : Around) (outer : List Env) (s : Shared) (H : Hp) (args : Args) (us : List Value) (vs : List V) (Q : VK) (E : XK),
    A.guards = some [] → Room k A → Env0 P w K mg base A outer s H → BindsTo s fd args (ps.zip us) → Vals vs us → sp vs H Q E →
      codeAny (model P w) A (.call (.ref f) args) (CR CX outer P w H s Q E) s
section
variable {P : Program} {w : World} {K : PySem.W.Frag} {mg : Str → Option Value} {base : Heap} {x qual : Str} {params : Arguments} {body : List Stmt} {scope : Scope} {dvs : List V} {kws : List (Str × V)} {f : Addr} {fd : FuncData}
theorem fn_g {CX : CXT} {N ps : List Str} {k : Nat} {sp : Sp} (F : FunD K x qual params body scope dvs kws f fd) (S : FnScope N ps scope) (len : ∀ vs H Q E, sp vs H Q E → vs.length = ps.length)
    (hbody : ∀ (cdv : Value) (A : Around) (outer : List Env) (s : Shared) (H : Hp) (vs : List V) (Q : VK) (E : XK),
      A.guards = some [] → Room k (A.deeper (envOfC qual scope s.heap.objs.size f cdv)) → sp vs H Q E →
      ∃ t, PSs (cxOf CX P w K mg base N qual scope f cdv A outer s H E) body t ∧ t { nx := fun _ H' => Q .non H', rt := Q } (start N vs) H) :
    FnG P w K mg base CX (k + 1) f fd ps sp := by
  obtain ⟨oc, od, dV, kV, doc, pm, an, cdv, ct, osl, rfl, lk, hcd, _, _⟩ := F.ex
  refine ⟨len, fun A outer s H args us vs Q E hg hr e0 hb r hsp => ?_⟩
  have hk := fun b o e => (e0.bs b o e).1
  have KX : K.In s.heap := e0.mod.kin.keeps hk
  have lim : s.heap.NoLimit := e0.mod.nolimit.keeps hk
  have hkind : ∀ y ∈ ps.zip us, scope.names.lookup y.1 = some .local ∨ (scope.names.lookup y.1 = some .cell ∧ ((cellsFrom (s.heap.objs.size + 1) scope.names []).lookup y.1).isSome = true) := by
    rintro ⟨n, v⟩ hy
    exact (S.par n (List.of_mem_zip hy).1).imp (fun q => q) fun q => ⟨q, PySem.W.cellsFrom_some _ _ _ (.inl q)⟩
  refine codeAny_call_function hr.depth (KX _ _ lk) rfl S.co S.gen rfl (PySem.W.codeRec_of KX hcd) (hb _ _ _ _ ?_)
  refine wpAny_newFunctionEnv_cells S.kind hkind fun env he s1 y => ?_
  subst he
  obtain ⟨t, ht, hq⟩ := hbody cdv A outer s H vs Q E hg (hr.deeper _) hsp
  have I := inv_start (CX := CX) (E := E) S hr.hd e0 (len _ _ _ _ hsp) r y
  refine ⟨lim.keeps y.toInCall.keep, codeAny_func (wpAny_mono (ht.run [] s1 (start N vs) H _ I hq) (fun fl s' hs => ?_) fun e s' hs => hs)⟩
  cases fl with
  | ret u =>
    obtain ⟨v, σ', H', J, rv, q⟩ := hs
    exact ⟨v, H', J.os, J.bare, J.base, J.hok, rv, q⟩
  | next =>
    obtain ⟨σ', H', J, q⟩ := hs
    exact ⟨V.non, H', J.os, J.bare, J.base, J.hok, rfl, q⟩
  | brk => exact hs.elim fun _ z => z.elim fun _ z => z.2.elim
  | cont => exact hs.elim fun _ z => z.elim fun _ z => z.2.elim
end
section
variable {X : Cx} {CX : CXT} {k : Nat} {f : Addr} {fd : FuncData} {ps : List Str} {sp : Sp} {dvs : List V} {ds : List Value} {E : XK} {x : Str} {p pos : Pos} {e : Expr} {es : List Expr} {t : TA}
theorem run_g {pins : List (Addr × Obj)} {σ : L2.St} {H : Hp} {s : Shared} {Q : VK} {us : List Value} {vs : List V} (F : FnG X.prog X.w X.K X.mg X.base CX k f fd ps sp) (hgd : X.A.guards = some []) (hr : Room k X.A) (hb : Binds X.K fd ps ds) (hd : Vals dvs ds) (hx : Passes CX X E)
    (I : Inv X pins σ H s) (r : Vals vs us) (h : sp (vs ++ dvs) H Q E) : wpAny (model X.prog X.w) X.A (call (.ref f) us) (EP X pins σ Q) X.xe s := by
  have r2 : Vals (vs ++ dvs) (us ++ ds) := r.append hd
  have hl : (us ++ ds).length = ps.length := r2.length.symm.trans (F.len _ _ _ _ h)
  refine wpAny_call (codeAny_mono (F.run X.A X.stack s H ⟨us, []⟩ _ _ Q E hgd hr I.env0 (hb s us I.kIn hl) r2 h) fun r s' hq => ?_)
  match r, hq with
  | .error e, hq => exact hx pins σ H s e s' I hq
  | .ok (.ret u), hq => exact I.after hq
  | .ok .next, hq => exact False.elim hq
  | .ok .brk, hq => exact False.elim hq
  | .ok .cont, hq => exact False.elim hq
theorem pe_callg (F : FnG X.prog X.w X.K X.mg X.base CX k f fd ps sp) (hgd : X.A.guards = some []) (hr : Room k X.A) (hg : Gl X x) (hm : X.mg x = some (.ref f)) (hk : PySem.W.keepIn X.K (.ref f) = true) (hb : Binds X.K fd ps ds) (hd : Vals dvs ds) (hx : Passes CX X E)
    (ha : PA X (e :: es) t) (hdb : (x == ("__debug__" : Str)) = false := by decide) (he : starEach (e :: es) X.env = (false, eval e X.env) :: starEach es X.env := by rfl)
    (hpl : (backTo pos (starEach es X.env)).any (fun q => q.1) = false := by rfl) : PE X (.Call (.Name x p) (e :: es) [] pos) (tCall sp dvs E t) := by
  constructor
  intro pins s σ H Q I h
  refine wpAny_Call_Name_kw (ld_glob I hg hm (PySem.W.callWith_K (h₀ := X.base) I.ok.mod.kin hk ?_ he hpl) hdb)
  exact thn (ha.run pos pins s σ H _ I h) fun us s1 ⟨vs, H1, I1, r, q⟩ => ⟨I1.kIn, run_g F hgd hr hb hd hx I1 r q⟩
theorem pe_callg0 (F : FnG X.prog X.w X.K X.mg X.base CX k f fd ps sp) (hgd : X.A.guards = some []) (hr : Room k X.A) (hg : Gl X x) (hm : X.mg x = some (.ref f)) (hk : PySem.W.keepIn X.K (.ref f) = true) (hb : Binds X.K fd ps ds) (hd : Vals dvs ds) (hx : Passes CX X E)
    (hdb : (x == ("__debug__" : Str)) = false := by decide) : PE X (.Call (.Name x p) [] [] pos) (tCall sp dvs E tNil) := by
  constructor
  intro pins s σ H Q I h
  exact wpAny_Call_Name_kw (ld_glob I hg hm (PySem.W.callWith_K0 I.kIn hk (run_g (us := []) F hgd hr hb hd hx I .nil h)) hdb)
end

/-! ## the law's own call -/
theorem law_g {P : Program} {w : World} {K : PySem.W.Frag} {mg mb : Str → Option Value} {CX : CXT} {k : Nat} {fa a : Addr} {fd : FuncData} {x : Str} {sp : Sp} {s₁ : Shared} {vs : List Value} {ns : List Int}
    (KX : K.In s₁.heap) (hns : s₁.heap.Ns mainGlobals mg) (hb : s₁.heap.Ns builtinsNs mb) (hbb : ∀ x : Str, x ≠ "__name__" → mb x = bootBuiltins x) (hlim : s₁.heap.NoLimit) (hsy : SysOk s₁.heap) (hg : s₁.gens = #[])
    (ha : s₁.heap.get? a = some { cls := .type "list", data := .seq vs.toArray }) (hi : IntsAre vs ns) (hl : ns.length ≤ sizeLine) (hr : Room k callerA)
    (F : ∀ base : Heap, K.In base → base.Ns mainGlobals mg → SysOk base → FnG P w K mg base CX k fa fd [x] sp) (hbind : ∀ (s : Shared) (u : Value), BindsTo s fd ⟨[u], []⟩ [(x, u)])
    (hsp : ∀ H : Hp, Only H → SqL K H a (ns.map V.int) → sp [.ref a] H (fun v _ => v = .bl true) fun _ _ _ => False)
    (hCX : ∀ H e s', CX [] H s₁ (fun _ _ _ => False) e s' → False) :
    codeAny (model P w) callerA (.call (.ref fa) ⟨[.ref a], []⟩) (fun r s' => r = .ok (.ret (.bool true)) ∧ OldK s₁.heap s'.heap ∧ s'.os = s₁.os ∧ AllBare s'.gens) s₁ := by
  have rv := vals_ints hi
  have core : ∀ H : Hp, Only H → SqL K H a (ns.map V.int) → HOk P w H s₁.heap → (∀ b, H b ≠ none → b = a) → (H a ≠ none → K.lookup a = none) →
      codeAny (model P w) callerA (.call (.ref fa) ⟨[.ref a], []⟩) (fun r s' => r = .ok (.ret (.bool true)) ∧ OldK s₁.heap s'.heap ∧ s'.os = s₁.os ∧ AllBare s'.gens) s₁ := by
    intro H hO hS hok hA hK
    -- a dict is not the script: it is not tracked
    have noA : ∀ {b : Addr} {o : Obj} {es : Array DictEntry} {ep : Nat}, s₁.heap.get? b = some o → o.data = Data.dict es ep → H b = none := by
      intro b o es ep e d
      refine Classical.byContradiction fun z => ?_
      have e' := hA b z
      subst e'
      rw [ha] at e
      cases e
      cases d
    have nsK : ∀ {b : Addr} {m : Str → Option Value}, s₁.heap.Ns b m → (hidT s₁.heap H).Ns b m := by
      rintro b m ⟨o, es, ep, e, d, r⟩
      exact ⟨o, es, ep, hidT_get e (noA e d), d, r⟩
    have hKb : K.In (hidT s₁.heap H) := by
      intro b o e
      refine hidT_get (KX b o e) (Classical.byContradiction fun z => ?_)
      have e' := hA b z
      subst e'
      rw [hK z] at e
      cases e
    have hM : Mod K mg (hidT s₁.heap H) := by
      obtain ⟨mc, h1, h2⟩ := hlim
      exact ⟨hKb, nsK hns, ⟨mb, nsK hb, hbb⟩, ⟨mc, nsK h1, h2⟩⟩
    have hB : SysOk (hidT s₁.heap H) := by
      obtain ⟨o, es, ep, e1, e2⟩ := hsy
      exact ⟨o, es, ep, hidT_get e1 (noA e1 e2), e2⟩
    have e0 : Env0 P w K mg (hidT s₁.heap H) callerA [] s₁ H := ⟨rfl, hM, fun b o e => of_hidT e, Nat.le_of_eq (hidT_size _ _), trivial, fun b hb => absurd (show b ∈ ([] : List Addr) from hb) (by simp), hok, .of_eq hg⟩
    have run := (F _ hKb (nsK hns) hB).run callerA [] s₁ H ⟨[.ref a], []⟩ [.ref a] [.ref a] _ _ rfl hr e0 (hbind s₁ (.ref a)) (.cons rfl .nil) (hsp H hO hS)
    refine codeAny_mono run fun r s' h => ?_
    match r, h with
    | .error e, h => exact (hCX H e s' h).elim
    | .ok .next, h => exact False.elim h
    | .ok .brk, h => exact False.elim h
    | .ok .cont, h => exact False.elim h
    | .ok (.ret u), h =>
      obtain ⟨v, H', os, bare, un, hok', r', q⟩ := h
      cases (show v = .bl true from q)
      cases (show u = Value.bool true from r')
      refine ⟨rfl, OldK.of_keep fun b o e => ?_, os, bare⟩
      rcases hO b with z | ⟨ob, xs, z⟩
      · exact un.keep b o e z (by intro y; exact absurd (show b ∈ ([] : List Addr) from y) (by simp)) (by simp)
      · have e1 := (hok b _ z).1
        rw [e] at e1
        cases e1
        exact (hok' b _ (un.frzs b _ _ z)).1
  cases hk : K.lookup a with
  | some o =>
    have e := KX a o hk
    rw [ha] at e
    cases e
    refine core (fun _ => none) (fun _ => .inl rfl) (.inr ⟨_, vs.toArray, _, hk, rfl, rfl, rfl, ?_, ?_⟩) (fun b u z => nomatch z) (fun b z => absurd rfl z) fun z => absurd rfl z
    · rw [List.size_toArray, hi.length]
      exact hl
    · simpa using rv
  | none =>
    refine core (upd (fun _ => none) a (.frz { cls := .type "list", data := .seq vs.toArray } (.lst (ns.map V.int)))) (fun b => ?_) (.inl (.inr ⟨_, upd_same⟩)) (fun b u z => ?_) (fun b z => ?_) fun _ => hk
    · by_cases hb : b = a
      · exact .inr ⟨_, _, by rw [hb]; exact upd_same⟩
      · exact .inl (by rw [upd_ne hb])
    · by_cases hb : b = a
      · subst hb
        rw [upd_same] at z
        cases z
        exact ⟨ha, by rw [List.length_map]; exact hl, vs, _, rv, ha⟩
      · rw [upd_ne hb] at z
        cases z
    · exact Classical.byContradiction fun hb => z (by rw [upd_ne hb])

theorem walk_g {l : PySem.W.OpenLaw} {n k : Nat} {q : Program} {loose : List Str} {XP : (Str → Option Value) → Heap → Prop} {YP : World → Heap → Prop} {d : DefRec} {CX : CXT} {x : Str}
    (hn : l.most = some n) (hn2 : n ≤ sizeLine) (hdf : d.params.defaults = []) (hi : importsNone q = true) (hr : Room k callerA)
    (F : ∀ (w : World) (mg : Str → Option Value) (fa : Addr) (h : Heap), YP w h → h.Ns mainGlobals mg → mg d.name = some (.ref fa) →
      ∃ (K : PySem.W.Frag) (fd : FuncData) (sp : Sp), K.In h ∧ (∀ (s : Shared) (u : Value), BindsTo s fd ⟨[u], []⟩ [(x, u)]) ∧
        (∀ (H : Hp) (a : Addr) (ns : List Int), ns.length ≤ n → Only H → SqL K H a (ns.map V.int) → sp [.ref a] H (fun v _ => v = .bl true) fun _ _ _ => False) ∧
        ∀ base : Heap, K.In base → base.Ns mainGlobals mg → SysOk base → FnG l.prog w K mg base CX k fa fd [x] sp)
    (hCX : ∀ (H : Hp) (s : Shared) (e : Value) (s' : Shared), CX [] H s (fun _ _ _ => False) e s' → False) :
    PySem.W.WalkO q loose XP YP l.row.toRowW d [] (fun f vs => PySem.call f vs) := by
  refine Att.attach_call hn hdf fun w s₀ s₁ mg mb fa o pm cd doc a vs ns G Y ho hd hcd hmg hobj hints hlen hg => ?_
  obtain ⟨K, fd, sp, KX, hb, hsp, hF⟩ := F w mg fa _ Y G.T.g hmg
  have hsy : SysOk s₁.heap := by
    obtain ⟨mm, ⟨o, es, ep, e1, e2, _⟩, _⟩ := (G.T.seer hi).mods
    exact ⟨o, es, ep, e1, e2⟩
  exact law_g KX G.T.g G.T.b G.T.builtins G.T.nolimit hsy hg hobj hints (Nat.le_trans hlen hn2) hr hF hb (fun H hO hS => hsp H a ns hlen hO hS) fun H e s' => hCX H s₁ e s'
end Lw

set_option Elab.async false
set_option linter.all false
set_option maxRecDepth 100000
set_option maxHeartbeats 2000000
namespace Lw
open PySem PySem.Spec PyProof.Rows L2

/-! ## the heap without one object -/
def off (H : Hp) (a : Addr) : Hp := fun b => if b = a then none else H b
theorem off_ne {H : Hp} {a b : Addr} (h : b ≠ a) : off H a b = H b := by
  unfold off
  rw [if_neg h]
theorem off_self {H : Hp} {a : Addr} : off H a a = none := by
  unfold off
  rw [if_pos rfl]
theorem off_get {H : Hp} {a b : Addr} {o : HO} (h : off H a b = some o) : b ≠ a ∧ H b = some o := by
  by_cases e : b = a
  · rw [e, off_self] at h
    cases h
  · exact ⟨e, (off_ne e).symm.trans h⟩
theorem off_same {H : Hp} {a : Addr} : Same (off H a) H := fun _ _ h => (off_get h).2
/-- all but a is as it was -/
def Off (a : Addr) (H H' : Hp) : Prop := Same (off H a) (off H' a)
theorem Off.refl {a : Addr} {H : Hp} : Off a H H := fun _ _ h => h
theorem Off.trans {a : Addr} {H H1 H2 : Hp} (x : Off a H H1) (y : Off a H1 H2) : Off a H H2 := fun b o h => y b o (x b o h)
theorem Off.get {a b : Addr} {H H' : Hp} {o : HO} (x : Off a H H') (h : H b = some o) (n : b ≠ a) : H' b = some o := by
  have e := x b o ((off_ne n).trans h)
  exact (off_get e).2
theorem Off.at {a : Addr} {H : Hp} {o : HO} : Off a H (upd H a o) := by
  intro b u h
  obtain ⟨n, e⟩ := off_get h
  rw [off_ne n, upd_ne n]
  exact e
theorem Off.new {a p : Addr} {H : Hp} {o : HO} (h : H p = none) : Off a H (upd H p o) := by
  intro b u g
  obtain ⟨n, e⟩ := off_get g
  rw [off_ne n, upd_ne (ne_of_none e h)]
  exact e
theorem Off.same {a : Addr} {H H' : Hp} (x : Same H H') : Off a H H' := by
  intro b u g
  obtain ⟨n, e⟩ := off_get g
  rw [off_ne n]
  exact x _ _ e
theorem Off.free {a p : Addr} {H H' : Hp} (x : Off a H H') (h : H' p = none) (ha : ∃ o, H a = some o) (n : p ≠ a) : H p = none := by
  cases e : H p with
  | none => rfl
  | some o =>
    rw [x.get e n] at h
    cases h

/-! ## the pot -/
def PotAt (H : Hp) (a : Addr) : Prop := ∃ p q : Int, H a = some (.lst [.int p, .int q]) ∧ 0 ≤ q ∧ q < 2147483648
theorem PotAt.new {H : Hp} {a p : Addr} {o : HO} (h : PotAt H a) (n : H p = none) : PotAt (upd H p o) a := by
  obtain ⟨x, y, e, r⟩ := h
  exact ⟨x, y, by rw [upd_ne (ne_of_none e n)]; exact e, r⟩
theorem PotAt.same {H H' : Hp} {a : Addr} (h : PotAt H a) (s : Same H H') : PotAt H' a := by
  obtain ⟨x, y, e, r⟩ := h
  exact ⟨x, y, s _ _ e, r⟩
theorem PotAt.ne {H : Hp} {a p : Addr} (h : PotAt H a) (n : H p = none) : p ≠ a := by
  obtain ⟨x, y, e, r⟩ := h
  exact (ne_of_none e n).symm

/-! ## data: kinds -/
def tyD : PyData → String
  | .none => "NoneType"
  | .bool _ => "bool"
  | .int _ => "int"
  | .str _ => "str"
  | .list _ => "list"
  | .tuple _ => "tuple"
  | .dict _ => "dict"
theorem Dq.ty {K : PySem.W.Frag} {H : Hp} {v : V} {d : PyData} (h : Dq K H v d) : TyX K H v (.type (tyD d)) := by
  cases h with
  | non => exact .base .non
  | bl b => exact .base (.bl b)
  | int i => exact .base (.int i)
  | str x => exact .base (.str x)
  | lst h _ =>
    rcases h with (h | ⟨o, h⟩) | ⟨o, xs, n, h1, h2, _⟩
    · exact .base (.lst h)
    · exact .base (.frz h)
    · exact .kList h1 h2
  | tup h _ =>
    rcases h with (h | ⟨o, h⟩) | ⟨o, xs, n, h1, h2, _⟩
    · exact .base (.tup h)
    · exact .fTuple h
    · exact .kTuple h1 h2
  | dic h => exact .base (.dK h)
/-- isinstance of data and a built-in class -/
theorem isi_ty {K : PySem.W.Frag} {H : Hp} {v : V} {d : PyData} {T : String} {b : Bool} {Q : VK} (h : Dq K H v d) (e : kitB (tyD d) T = some b) (q : Q (.bl b) H) : rIsi K [v, .ty T] H Q :=
  ⟨v, .ty T, .type (tyD d), .type T, b, rfl, .ty T, h.ty, kit_ty e, q⟩

/-! ## data: sizes -/
theorem len_list2 (a b : Str) : (listText [a, b]).length = a.length + b.length + 4 := by
  show (((("[" : Str) ++ ("" : String) ++ a) ++ (", " : String) ++ b) ++ ("]" : Str)).length = _
  simp only [strLen_append]
  show 1 + 0 + a.length + 2 + b.length + 1 = _
  omega
theorem len_list3 (a b c : Str) : (listText [a, b, c]).length = a.length + b.length + c.length + 6 := by
  show ((((("[" : Str) ++ ("" : String) ++ a) ++ (", " : String) ++ b) ++ (", " : String) ++ c) ++ ("]" : Str)).length = _
  simp only [strLen_append]
  show 1 + 0 + a.length + 2 + b.length + 2 + c.length + 1 = _
  omega
theorem len_bool (b : Bool) : (PyData.bool b).shown.length ≤ 5 := by cases b <;> decide
/-- data that can be shown in a row -/
structure Small (n : Nat) (d : PyData) : Prop where
  sh : d.showable = true
  ln : d.shown.length ≤ n
  dp : d.depth ≤ 10
theorem Small.mono {n m : Nat} {d : PyData} (h : Small n d) (e : n ≤ m) : Small m d := ⟨h.sh, Nat.le_trans h.ln e, h.dp⟩

/-! ## texts of single signs -/
def Bytes (z : Str) : Prop := ∀ c ∈ z.cps.toList, c < 256
theorem small_text {z : Str} {n : Nat} (h : Bytes z) (l : z.length ≤ n) : Small (10 * n + 2) (.str z) := by
  refine ⟨rfl, ?_, ?_⟩
  · have e := StrLaws.reprText_len z fun c hc => Nat.lt_trans (h c hc) (by decide)
    show (reprText z).length ≤ _
    omega
  · simp [PyData.depth]
theorem bytes_join : ∀ (ys : List Str), (∀ y ∈ ys, y.length = 1 ∧ Bytes y) → (Str.join "" ys).length = ys.length ∧ Bytes (Str.join "" ys)
  | [], _ => ⟨rfl, fun c hc => by cases hc⟩
  | [x], h => ⟨(h x (by simp)).1, (h x (by simp)).2⟩
  | x :: y :: r, h => by
    obtain ⟨h1, h2⟩ := bytes_join (y :: r) fun z hz => h z (List.mem_cons_of_mem _ hz)
    obtain ⟨h3, h4⟩ := h x (by simp)
    have e : Str.join "" (x :: y :: r) = x ++ ("" : Str) ++ Str.join "" (y :: r) := rfl
    constructor
    · rw [e, strLen_append, strLen_append, h1, h3]
      show 1 + 0 + (y :: r).length = (y :: r).length + 1
      omega
    · intro c hc
      rw [e] at hc
      have hc' : c ∈ x.cps.toList ++ ([] : List Nat) ++ (Str.join "" (y :: r)).cps.toList := by
        have : (x ++ ("" : Str) ++ Str.join "" (y :: r)).cps.toList = x.cps.toList ++ ([] : List Nat) ++ (Str.join "" (y :: r)).cps.toList := by
          show ((x.cps ++ #[]) ++ (Str.join "" (y :: r)).cps).toList = _
          simp
        rw [← this]
        exact hc
      simp only [List.append_nil, List.mem_append] at hc'
      rcases hc' with q | q
      · exact h4 c q
      · exact h2 c q
theorem sum_ones {ys : List Str} (h : ∀ y ∈ ys, y.length = 1 ∧ Bytes y) : (ys.map fun y => y.length).sum = ys.length := by
  induction ys with
  | nil => rfl
  | cons y r ih =>
    rw [List.map_cons, List.sum_cons, ih fun z hz => h z (List.mem_cons_of_mem _ hz), (h y (by simp)).1, List.length_cons]
    omega
/-- an item of a list, at a place that is told -/
theorem at_in {α : Type} {xs : List α} {i : Int} (h0 : 0 ≤ i) (h1 : i < xs.length) : ∃ v, v ∈ xs ∧ xs[i.toNat]? = some v ∧ atI xs i = some v := by
  have h2 : i.toNat < xs.length := by omega
  refine ⟨xs[i.toNat], List.getElem_mem h2, List.getElem?_eq_getElem h2, ?_⟩
  have q := atI_nat (xs := xs) (j := i.toNat) (List.getElem?_eq_getElem h2)
  rw [Int.toNat_of_nonneg h0] at q
  exact q

/-! ## an own def, with all that a call wants -/
structure Own (P : Program) (w : World) (K : PySem.W.Frag) (mg : Str → Option Value) (base : Heap) (CX : CXT) (k : Nat) (x : Str) (ps : List Str) (sp : Sp) (f : Addr) (fd : FuncData) : Prop where
  ok : FnOk P w K mg base CX k f fd ps sp
  m : mg x = some (.ref f)
  kp : PySem.W.keepIn K (.ref f) = true
  b : Binds K fd ps []
structure OwnG (P : Program) (w : World) (K : PySem.W.Frag) (mg : Str → Option Value) (base : Heap) (CX : CXT) (k : Nat) (x : Str) (ps : List Str) (sp : Sp) (f : Addr) (fd : FuncData) : Prop where
  ok : FnG P w K mg base CX k f fd ps sp
  m : mg x = some (.ref f)
  kp : PySem.W.keepIn K (.ref f) = true
  b : Binds K fd ps []
section
variable {X : Cx} {CX : CXT} {k : Nat} {f : Addr} {fd : FuncData} {ps ks : List Str} {sp : Sp} {x : Str} {p pos : Pos} {e : Expr} {es : List Expr} {t tk : TA} {kws : List Keyword} {g : List Value → List Value → List Value} {gV : List V → List V → List V}
theorem pe_own (O : Own X.prog X.w X.K X.mg X.base CX0 k x ps sp f fd) (hr : Room k X.A) (ha : PA X (e :: es) t) (hg : Gl X x := by rfl) (hdb : (x == ("__debug__" : Str)) = false := by decide)
    (he : starEach (e :: es) X.env = (false, eval e X.env) :: starEach es X.env := by rfl) (hpl : (backTo pos (starEach es X.env)).any (fun q => q.1) = false := by rfl) :
    PE X (.Call (.Name x p) (e :: es) [] pos) (tCall sp [] E0 t) := pe_call O.ok hr hg O.m O.kp O.b .nil pass0 ha hdb he hpl
theorem pe_own0 (O : Own X.prog X.w X.K X.mg X.base CX0 k x ps sp f fd) (hr : Room k X.A) (hg : Gl X x := by rfl) (hdb : (x == ("__debug__" : Str)) = false := by decide) :
    PE X (.Call (.Name x p) [] [] pos) (tCall sp [] E0 tNil) := pe_call0 O.ok hr hg O.m O.kp O.b .nil pass0 hdb
theorem pe_owng (O : OwnG X.prog X.w X.K X.mg X.base CX0 k x ps sp f fd) (hgd : X.A.guards = some []) (hr : Room k X.A) (ha : PA X (e :: es) t) (hg : Gl X x := by rfl) (hdb : (x == ("__debug__" : Str)) = false := by decide)
    (he : starEach (e :: es) X.env = (false, eval e X.env) :: starEach es X.env := by rfl) (hpl : (backTo pos (starEach es X.env)).any (fun q => q.1) = false := by rfl) :
    PE X (.Call (.Name x p) (e :: es) [] pos) (tCall sp [] E0 t) := pe_callg O.ok hgd hr hg O.m O.kp O.b .nil pass0 ha hdb he hpl
theorem pe_owng0 (O : OwnG X.prog X.w X.K X.mg X.base CX0 k x ps sp f fd) (hgd : X.A.guards = some []) (hr : Room k X.A) (hg : Gl X x := by rfl) (hdb : (x == ("__debug__" : Str)) = false := by decide) :
    PE X (.Call (.Name x p) [] [] pos) (tCall sp [] E0 tNil) := pe_callg0 O.ok hgd hr hg O.m O.kp O.b .nil pass0 hdb
theorem pe_ownW (O : Own X.prog X.w X.K X.mg X.base CX0 k x ps sp f fd) (hb : KBn X.K fd ps 0 ks g gV) (hr : Room k X.A) (hkw : PK X kws tk) (hg : Gl X x := by rfl)
    (hall : (backToKw pos (keywordEach kws X.env)).all (fun q => q.1.isSome) = true := by rfl)
    (hks : (backToKw pos (keywordEach kws X.env)).filterMap (fun q => q.1) = ks := by rfl)
    (hdb : (x == ("__debug__" : Str)) = false := by decide)
    (hpl : ((backTo pos (starEach [] X.env)).any (fun q => q.1) || (backToKw pos (keywordEach kws X.env)).any (fun q => q.1.isNone)) = false := by rfl) :
    PE X (.Call (.Name x p) [] kws pos) (tCallN 0 ks.length sp gV E0 tNil tk) := pe_callW O.ok hr hg O.m O.kp hb pass0 hkw hall hks hdb hpl
/-- a constant of the module -/
theorem pe_gi {i : Int} (h : ∃ t, X.mg x = some (.int i t)) (hg : Gl X x := by rfl) (hd : (x == ("__debug__" : Str)) = false := by decide) : PE X (.Name x pos) (tC (.int i)) :=
  h.elim fun t e => pe_glob hg e ⟨t, rfl⟩ hd
theorem pe_gs {z : Str} (h : ∃ t, X.mg x = some (.str z t)) (hg : Gl X x := by rfl) (hd : (x == ("__debug__" : Str)) = false := by decide) : PE X (.Name x pos) (tC (.str z)) :=
  h.elim fun t e => pe_glob hg e ⟨t, rfl⟩ hd
end
end Lw
namespace Lw
open PySem PySem.Spec PyProof.Rows L2
theorem Off.put {a D : Addr} {H H' : Hp} {o : HO} (x : Off a H H') (h : H D = none) : Off a H (upd H' D o) := by
  intro b u g
  obtain ⟨n, e⟩ := off_get g
  rw [off_ne n, upd_ne (ne_of_none e h)]
  exact x.get e n
theorem PotAt.put {H : Hp} {a D : Addr} {o : HO} (h : PotAt H a) (n : D ≠ a) : PotAt (upd H D o) a := by
  obtain ⟨x, y, e, r⟩ := h
  exact ⟨x, y, by rw [upd_ne n.symm]; exact e, r⟩
theorem small_int {i : Int} (h : i.natAbs < 2 ^ 1000) : Small 2000 (.int i) := by
  have h1 : i.natAbs.log2 < 1920 := Nat.lt_of_lt_of_le (PySem.Flt.log2_lt_of (by decide) h) (by decide)
  refine ⟨?_, ?_, ?_⟩
  · show decide (i.natAbs.log2 < 1920) = true
    exact decide_eq_true h1
  · have e := int_text_len_1921 h1
    show (Str.ofString (toString i)).length ≤ 2000
    omega
  · simp [PyData.depth]

/-! ## displays of data -/
def Mk (K : PySem.W.Frag) (te : TE) (d : PyData) : Prop := ∀ σ H (Q : VK), (∀ v H', Same H H' → (∀ a, H a ≠ none → Dq K (off H' a) v d) → Q v H') → te σ H Q
def MkA (K : PySem.W.Frag) (ta : TA) (ds : List PyData) : Prop := ∀ σ H (Q : List V → Hp → Prop), (∀ vs H', Same H H' → vs.length = ds.length → (∀ a, H a ≠ none → DqAll K (off H' a) vs ds) → Q vs H') → ta σ H Q
theorem off_mono {H H' : Hp} {a : Addr} (s : Same H H') : Same (off H a) (off H' a) := Off.same s
theorem same_some {H H' : Hp} {a : Addr} (s : Same H H') (h : H a ≠ none) : H' a ≠ none := by
  cases e : H a with
  | none => exact absurd e h
  | some o =>
    rw [s _ _ e]
    exact fun z => nomatch z
section
variable {K : PySem.W.Frag}
theorem Mk.non : Mk K (tC .non) .none := fun _ H Q h => h _ H (Same.refl H) fun _ _ => .non
theorem Mk.bl {b : Bool} : Mk K (tC (.bl b)) (.bool b) := fun _ H Q h => h _ H (Same.refl H) fun _ _ => .bl b
theorem Mk.int {i : Int} : Mk K (tC (.int i)) (.int i) := fun _ H Q h => h _ H (Same.refl H) fun _ _ => .int i
theorem Mk.str {x : Str} : Mk K (tC (.str x)) (.str x) := fun _ H Q h => h _ H (Same.refl H) fun _ _ => .str x
theorem Mk.neg {i : Int} : Mk K (tUn (rU fun i => .int (-i)) (tC (.int i))) (.int (-i)) := fun _ H Q h => ⟨i, rfl, h _ H (Same.refl H) fun _ _ => .int _⟩
theorem MkA.nil : MkA K tNil [] := fun _ H Q h => h _ H (Same.refl H) rfl fun _ _ => .nil
theorem MkA.cons {te : TE} {ta : TA} {d : PyData} {ds : List PyData} (h1 : Mk K te d) (h2 : MkA K ta ds) : MkA K (tCons te ta) (d :: ds) := by
  intro σ H Q h
  refine h1 σ H _ fun v H1 s1 q1 => h2 σ H1 _ fun vs H2 s2 l2 q2 => h _ H2 (s1.trans s2) (congrArg Nat.succ l2) fun a ha => ?_
  exact .cons (Dq.same (off_mono s2) (q1 a ha)) (q2 a (same_some s1 ha))
theorem mk_new {H : Hp} {p a : Addr} {o : HO} (hp : H p = none) (ha : H a ≠ none) : off (upd H p o) a p = some o := by
  have n : p ≠ a := fun e => ha (e ▸ hp)
  rw [off_ne n, upd_same]
theorem Mk.tup {ta : TA} {ds : List PyData} (h1 : MkA K ta ds) (hl : ds.length ≤ 1000 := by decide) : Mk K (tTup ta) (.tuple ds) := by
  intro σ H Q h
  refine h1 σ H _ fun vs H1 s1 l1 q1 => ⟨?_, fun p hp => h _ _ (s1.trans (same_upd hp)) fun a ha => ?_⟩
  · rw [l1]
    exact Nat.le_of_lt (small1000 hl)
  · exact .tup (.inl (.inl (mk_new hp (same_some s1 ha)))) (DqAll.same (off_mono (same_upd hp)) (q1 a ha))
theorem Mk.lst {ta : TA} {ds : List PyData} (h1 : MkA K ta ds) (hl : ds.length ≤ 1000 := by decide) : Mk K (tLst ta) (.list ds) := by
  intro σ H Q h
  refine h1 σ H _ fun vs H1 s1 l1 q1 => ⟨?_, fun p hp => h _ _ (s1.trans (same_upd hp)) fun a ha => ?_⟩
  · rw [l1]
    exact Nat.le_of_lt (small1000 hl)
  · exact .lst (.inl (.inl (mk_new hp (same_some s1 ha)))) (DqAll.same (off_mono (same_upd hp)) (q1 a ha))
theorem Mk.dict : Mk K tDNewK (.dict []) := by
  intro σ H Q h
  intro p hp
  exact h _ _ (same_upd hp) fun a ha => .dic (mk_new hp ha)
theorem dq_at {H : Hp} : ∀ {vs : List V} {ds : List PyData}, DqAll K H vs ds → ∀ v ∈ vs, ∃ d ∈ ds, Dq K H v d
  | _, _, .nil, v, h => nomatch h
  | _, _, .cons h g, v, hv => by
    rcases List.mem_cons.mp hv with rfl | hv
    · exact ⟨_, List.mem_cons_self .., h⟩
    · obtain ⟨d, hd, e⟩ := dq_at g v hv
      exact ⟨d, List.mem_cons_of_mem _ hd, e⟩
theorem dq_app {H : Hp} : ∀ {vs ws : List V} {ds es : List PyData}, DqAll K H vs ds → DqAll K H ws es → DqAll K H (vs ++ ws) (ds ++ es)
  | _, _, _, _, .nil, q => q
  | _, _, _, _, .cons h g, q => .cons h (dq_app g q)
end
end Lw
namespace Lw
open PySem PySem.Spec PyProof.Rows L2
section
variable {K : PySem.W.Frag}
theorem s_lst {ta : TA} {ds : List PyData} {i : Nat} {u : TS} {D : Ends} {σ : L2.St} {H : Hp} (h : MkA K ta ds) (hl : ds.length ≤ 1000)
    (k : ∀ vs H1 p, Same H H1 → vs.length = ds.length → (∀ a, H a ≠ none → DqAll K (off H1 a) vs ds) → H1 p = none → u D (σ.set i (some (.ref p))) (upd H1 p (.lst vs))) :
    tSeq (tAsg (tLst ta) (gName i)) u D σ H := by
  refine h σ H _ fun vs H1 s l d => ⟨?_, fun p np => k vs H1 p s l d np⟩
  rw [l]
  exact Nat.le_of_lt (small1000 hl)
/-- x + [..] -/
theorem e_cat {ta : TA} {ds : List PyData} {i : Nat} {σ : L2.St} {H : Hp} {Q : VK} {t : Addr} {xs : List V} (h : MkA K ta ds) (hl : xs.length + ds.length ≤ 1000) (hi : σ[i]? = some (some (.ref t))) (ht : H t = some (.lst xs))
    (k : ∀ vs H1 p, Same H H1 → vs.length = ds.length → (∀ a, H a ≠ none → DqAll K (off H1 a) vs ds) → H1 p = none → Q (.ref p) (upd H1 p (.lst (xs ++ vs)))) :
    tOp rCat (tVar i) (tLst ta) σ H Q := by
  refine ⟨.ref t, hi, h σ H _ fun vs H1 s l d => ⟨?_, fun p np => ⟨t, p, xs, vs, rfl, rfl, ?_, upd_same, ?_, fun p2 np2 => ?_⟩⟩⟩
  · rw [l]
    exact Nat.le_of_lt (small1000 (by omega))
  · rw [upd_ne (ne_of_none (s _ _ ht) np)]
    exact s _ _ ht
  · rw [l]
    exact Nat.le_of_lt (small1000 hl)
  · refine k vs (upd H1 p (.lst vs)) p2 (s.trans (same_upd np)) l (fun a ha => DqAll.same (off_mono (same_upd np)) (d a ha)) np2
def rLenQ (K : PySem.W.Frag) : List V → Hp → VK → Prop := fun xs H Q => ∃ (p : Addr) (ys : List V), xs = [.ref p] ∧ (SqL K H p ys ∨ SqT K H p ys) ∧ Q (.int ys.length) H
theorem call_lenQ {X : Cx} : CallR X (.builtin "len") (rLenQ X.K) := call_len_seq
end
end Lw

set_option Elab.async false
set_option linter.all false
set_option maxRecDepth 100000
set_option maxHeartbeats 4000000
namespace Lw
open PySem PySem.Spec PyProof.Rows L2

/-! ## own exceptions over one of the built-in ones -/
/-- own classes, then the mro of a built-in one -/
def refsT (tl : List Value) : List Value → Bool
  | .ref _ :: r => refsT tl r
  | l => l == tl
theorem refsT_or (tl : List Value) (l : List Value) (h : refsT tl l = true) : (∃ c r, l = .ref c :: r ∧ refsT tl r = true) ∨ l = tl := by
  cases l with
  | nil => exact .inr (beq_iff_eq.mp h)
  | cons a r =>
    cases a with
    | ref c => exact .inl ⟨c, r, rfl, h⟩
    | _ => exact .inr (beq_iff_eq.mp h)
/-- what the built-in class says -/
structure ExB (B newId initId : String) (tl : List Value) : Prop where
  fb : ExcBaseFacts B newId initId tl
  kf : PySem.W.KxsFacts B initId
  pass : ∀ self, PySem.refuseLoop self "__setattr__" tl = pure ()
  obj : tl.contains (.type "object") = true
  nn : tl ≠ []
abbrev tlOf (B : String) : List Value := [.type B, .type "Exception", .type "BaseException", .type "object"]
theorem exb_V : ExB "ValueError" "ValueError.__new__" "ValueError.__init__" (tlOf "ValueError") := ⟨F.excBase_ValueError, PySem.W.kxs_ValueError, F.store_ValueError.passes, by decide +kernel, by simp⟩
theorem exb_L : ExB "LookupError" "LookupError.__new__" "LookupError.__init__" (tlOf "LookupError") := ⟨F.excBase_LookupError, PySem.W.kxs_LookupError, F.store_LookupError.passes, by decide +kernel, by simp⟩
theorem exb_R : ExB "RuntimeError" "RuntimeError.__new__" "RuntimeError.__init__" (tlOf "RuntimeError") := ⟨F.excBase_RuntimeError, PySem.W.kxs_RuntimeError, F.store_RuntimeError.passes, by decide +kernel, by simp⟩
theorem exb_A : ExB "ArithmeticError" "ArithmeticError.__new__" "ArithmeticError.__init__" (tlOf "ArithmeticError") := ⟨F.excBase_ArithmeticError, PySem.W.kxs_ArithmeticError, F.store_ArithmeticError.passes, by decide +kernel, by simp⟩
theorem refsT_pass {B newId initId : String} {tl : List Value} (E : ExB B newId initId tl) (self : Value) : ∀ l : List Value, refsT tl l = true → PySem.refuseLoop self "__setattr__" l = pure () := by
  intro l
  induction l with
  | nil =>
    intro h
    exact absurd (beq_iff_eq.mp h).symm E.nn
  | cons a r ih =>
    intro h
    rcases refsT_or tl _ h with ⟨c, r', q, g⟩ | q
    · cases q
      rw [PySem.refuseLoop_ref]
      exact ih g
    · rw [q]
      exact E.pass self
theorem refsT_obj {B newId initId : String} {tl : List Value} (E : ExB B newId initId tl) : ∀ l : List Value, refsT tl l = true → l.contains (.type "object") = true ∧ l.isEmpty = false := by
  intro l
  induction l with
  | nil =>
    intro h
    exact absurd (beq_iff_eq.mp h).symm E.nn
  | cons a r ih =>
    intro h
    refine ⟨?_, rfl⟩
    rcases refsT_or tl _ h with ⟨c, r', q, g⟩ | q
    · cases q
      rw [List.contains_cons, (ih g).1, Bool.or_true]
    · rw [q]
      exact E.obj
/-- what the written part says of a class of exceptions -/
def clsB (K : PySem.W.Frag) (C : Addr) (tl : List Value) (newId : String) : Bool :=
  PySem.W.excInitIn K C tl newId && (((PySem.W.clsIn K C).any fun cd => cd.hasDict && refsT tl cd.mro) && (decide (PySem.W.findIn K (.ref C) "__setattr__" = some (some (.builtin "object.__setattr__"))) &&
    (decide (PySem.W.subIn K (.ref C) (.type "BaseException") = some true) && (decide (PySem.W.typeIn K (.ref C) = some (.type "type")) && PySem.W.keepIn K (.ref C)))))
structure ExcK (K : PySem.W.Frag) (C : Addr) (tl : List Value) (newId : String) : Prop where
  ini : PySem.W.excInitIn K C tl newId = true
  cls : ∃ cd, PySem.W.clsIn K C = some cd ∧ cd.hasDict = true ∧ refsT tl cd.mro = true
  sa : PySem.W.findIn K (.ref C) "__setattr__" = some (some (.builtin "object.__setattr__"))
  exC : PySem.W.subIn K (.ref C) (.type "BaseException") = some true
  tyC : PySem.W.typeIn K (.ref C) = some (.type "type")
  kC : PySem.W.keepIn K (.ref C) = true
theorem clsB_ok {K : PySem.W.Frag} {C : Addr} {tl : List Value} {newId : String} (h : clsB K C tl newId = true) : ExcK K C tl newId := by
  unfold clsB at h
  simp only [Bool.and_eq_true, decide_eq_true_eq] at h
  obtain ⟨h1, h2, h3, h4, h5, h6⟩ := h
  obtain ⟨cd, e, h7⟩ := (Option.any_eq_true _ _).mp h2
  rw [Bool.and_eq_true] at h7
  exact ⟨h1, ⟨cd, e, h7.1, h7.2⟩, h3, h4, h5, h6⟩

section
open PySem.Builtin PySem.Builtin.ObjectAttr
variable {prog : Program} {w : World} {A : Around} {R : Result → Shared → Prop} {hp : Heap} {g : Array GenState} {d : Drawn} {t : Nat} {os : OsState}
/-- the first field of an exception -/
theorem osa_b {B newId initId : String} {tl : List Value} (EB : ExB B newId initId tl) {K : PySem.W.Frag} {name : Str} {tk : Tok} {v : Value} {x C : Addr} {fv : Array Value} {cd : ClassData}
    (X : K.In hp) (hx : hp.get? x = some { cls := .ref C, data := .fields fv }) (hcd : PySem.W.clsIn K C = some cd) (hm : refsT tl cd.mro = true) (hh : cd.hasDict = true) (ha : PySem.W.findIn K (.ref C) name = some none)
    (hq : ∀ h' tk' dx, (∀ b o, b ≠ x → hp.get? b = some o → h'.get? b = some o) → hp.objs.size ≤ dx → dx ≠ x → h'.get? x = some { cls := .ref C, dict := some dx, data := .fields fv } →
      h'.Ns1 dx (fun y => if y = name then some v else none) → R (.ok (.ret .none)) ⟨h', g, d, tk', os⟩) :
    codeAny (model prog w) A (.call (.builtin "object.__setattr__") ⟨[.ref x, .str name tk, v], []⟩) R ⟨hp, g, d, t, os⟩ := by
  obtain ⟨hob, hne⟩ := refsT_obj EB _ hm
  have I : PySem.W.InstAt hp x { cls := .ref C, data := .fields fv } C none := ⟨hx, rfl, rfl, trivial⟩
  have SF := F.store_object
  have hxs : x ≠ hp.objs.size := Nat.ne_of_lt (Heap.lt_size hx)
  have hmro : PySem.W.mroIn K C (.type "object") = some true := by
    unfold PySem.W.mroIn
    rw [hcd, Option.bind_some, if_neg (by rw [hne]; decide), hob]
  have sub : PySem.W.Looks (model prog w) hp (isInstance (.ref x) (.type "object")) true := I.type.andThen (PySem.W.looks_mroIn X hmro)
  refine codeAny_call_builtin SF.slot.plain SF.entry (@PySem.W.check_slot (model prog w) _ _ ⟨hp, g, d, t, os⟩ "object.__setattr__" "object" "__setattr__" (.ref x) [.str name tk, v] [] _ SF.kind SF.split sub (SF.args (.ref x) (.str name tk) v) ?_)
  have hcls : PySem.W.Looks (model prog w) hp (classData C) cd := PySem.W.looks_clsIn X hcd
  have hmr : PySem.W.Looks (model prog w) hp (mroOf (.ref C)) cd.mro := hcls.andThen .now
  have L3 : PySem.W.Looks (model prog w) hp (storeTaker? none) none := .now
  rw [PySem.W.osa_eq, refuse_eq]
  refine wpAny_bind (wpAny_bind (I.type.at (wpAny_bind (hmr.at ?_))))
  rw [refsT_pass EB _ _ hm]
  refine wpAny_pure (wpAny_bind (I.type.at (wpAny_bind ((PySem.W.looks_findIn X ha).at (wpAny_bind (L3.at ?_))))))
  show wpAny _ _ (storeInOwnDict (.ref x) (.ref C) (.str name tk) name v false) _ _ _
  obtain ⟨nm, bs, mro, ns, qn, hd, sn, sb, ab, col, del⟩ := cd
  dsimp only at hh
  subst hh
  unfold storeInOwnDict ownDictForStores
  repeat (first | with_reducible refine HandSPX.store_in_new ?_ ?_ | with_reducible refine wpAny_loadPart_at hx ?_ | with_reducible refine hcls.at ?_ | wp_step)
  · exact ⟨_, #[], _, (Heap.get?_update_ne _ _ _ _ hxs.symm).trans (Heap.get?_push_at rfl rfl), rfl, fun e he => absurd he (by simp), fun _ => rfl⟩
  · intro h' tk' hn' hs
    have hx₁ : (hp.push { cls := .type "dict", data := .dict #[] }).get? x = some { cls := .ref C, data := .fields fv } := Heap.get?_push_of_some _ hx
    refine hq h' tk' hp.objs.size (fun b o hb ho => ?_) (Nat.le_refl _) hxs.symm ?_ hn'
    · exact (hs.2 b (Nat.ne_of_lt (Heap.lt_size ho))).trans ((Heap.get?_update_ne _ _ _ _ hb).trans (Heap.get?_push_of_some _ ho))
    · exact (hs.2 x hxs).trans (Heap.get?_update_self _ hx₁ rfl)
end
end Lw

set_option Elab.async false
set_option linter.all false
set_option maxRecDepth 100000
set_option maxHeartbeats 4000000
namespace Lw
open PySem PySem.Spec PyProof.Rows L2

/-- the words of a def `__init__` that closes over its class -/
structure IniW where
  name : Str
  qual : Str
  params : Arguments
  body : List Stmt
  scope : Scope
/-- such a def as it stands behind the top: its cell cc, its code object cda, its class C -/
structure IniK (P : Program) (K : PySem.W.Frag) (mg : Str → Option Value) (W : IniW) (f cc cda C : Addr) (B initId : String) : Prop where
  lk : ∃ (oc doc pm ct : Value) (od : Option Addr) (osl : Array (Option Value)), K.lookup f = some ⟨oc, od, .func (PySem.W.fnX W.name W.qual W.params W.body W.scope [("__class__", cc)] .none .none doc pm none (.ref cda) ct), osl⟩
  hcd : PySem.W.codeIn K (.ref cda) W.qual = true
  code : ∃ (ccl : Value) (cdd : Option Addr) (vs : Array Value) (ccs : Array (Option Value)) (file : Str) (tf : Tok), K.lookup cda = some ⟨ccl, cdd, .fields vs, ccs⟩ ∧ vs[2]? = some (.str file tf) ∧ ((P.main.file : Str) == file) = true
  cell : ∃ (cl : Value) (cld : Option Addr) (csl : Array (Option Value)), K.lookup cc = some ⟨cl, cld, .cell (some (.ref C)), csl⟩
  top : (P.main.scope.names.lookup ("super" : Str)).isSome = false
  sup : mg "super" = none
  self : (W.params.posonlyargs ++ W.params.args).head?.map (fun a => a.arg) = some "self"
  kind : W.scope.kind = .function
  ksup : W.scope.names.lookup ("super" : Str) = some .globalImplicit
  kcls : W.scope.names.lookup ("__class__" : Str) = some .free
  kself : W.scope.names.lookup ("self" : Str) = some .local
  opq : PySem.W.nsIn K cStatics "thirdparty.any" = some none
  meth : PySem.W.ks_superIn K C C "__init__" = some (some (.builtin initId))
  subB : PySem.W.subIn K (.ref C) (.type B) = some true
  subC : PySem.W.mroIn K C (.ref C) = some true

section
variable {X : Cx} {pins : List (Addr × Obj)} {σ : L2.St} {H : Hp} {s : Shared} {a f cc cda C : Addr} {W : IniW} {B newId initId : String} {tl : List Value} {body : List Stmt} {E : Value → Shared → Prop}
/-- the built-in __init__, bound to the exception, is called -/
theorem mw_call (EB : ExB B newId initId tl) (T : ExcK X.K C tl newId) (I : Inv X pins σ H s) (ha : H a = some (exo a C none)) {u : Addr} (hu : s.heap.get? u = some (PySem.W.kxs_mw initId a)) {rest : List Value} (hz : rest.length ≤ sizeLine)
    {Q : Value → Shared → Prop} (h : ∀ s', Inv X pins σ H s' → Q .none s') : wpAny (model X.prog X.w) X.A (call (.ref u) rest) Q E s := by
  obtain ⟨nm, N', qn, bs, bm, hdct, sn, sub, ab, col, dd, k0, k1, k2, k3, k5, hC, hT⟩ := PySem.W.excInit_of I.kIn T.ini
  obtain ⟨t1, he⟩ := exo_at I.hok ha
  obtain ⟨hh, g, d, tk, os⟩ := s
  refine wpAny_call (codeAny_of_tree ?_)
  show wpAny _ X.A.in1 (callAny (.ref u) ⟨rest, []⟩) _ _ _
  simp only [callAny]
  refine wpAny_bind (wpAny_load hu ?_)
  have e1 : (Value.type "method-wrapper" == Value.type "method" || Value.type "method-wrapper" == Value.type "builtin_function_or_method" || Value.type "method-wrapper" == Value.type "method-wrapper") = true := by decide
  simp only [PySem.W.kxs_mw, e1, if_true]
  refine PySem.W.KFB.if_so (by decide) ?_
  refine wpAny_bind (PySem.W.check_bound_init EB.fb.toExcCallFacts hC he rfl ?_)
  refine wpAny_bind (wpAny_pure (wpAny_pure ?_))
  refine ⟨plainId_quiet EB.fb.init.plain _, codeAny_builtin EB.fb.initEntry ?_⟩
  refine PySem.W.exc_init_tree (cls := .ref C) (t0 := t1) (dv := none) (c2 := .none) (c3 := .none) (b4 := .bool false) he hz fun h' k e' t' => ?_
  have J := I.write (t' := tk) (x := a) (e := a) (o := exo a C none) (by rw [ha]; exact True.intro) (.inl rfl) k ⟨_, e'⟩ (exo_ok e')
  have eu : upd H a (exo a C none) = H := by
    funext b
    by_cases hb : b = a
    · rw [hb, upd_same, ha]
    · rw [upd_ne hb]
  rw [eu] at J
  exact h _ J

/-- super().__init__('..') -/
theorem sup_stmt {p0 p1 p2 p3 p4 p5 : Pos} {j : Nat} {msg : Str} (EB : ExB B newId initId tl) (T : ExcK X.K C tl newId) (S : IniK X.prog X.K X.mg W f cc cda C B initId) (I : Inv X pins σ H s)
    (hsc : X.env.scope = W.scope) (hfn : X.env.func = some f) (hco : X.env.code = .ref cda) (hce : X.env.cells = [(("__class__" : Str), cc)])
    (hN : X.N[0]? = some ("self" : Str)) (h0 : σ[0]? = some (some (.ref a))) (ha : H a = some (exo a C none)) {pl : Sem Bool}
    (hev : eval (.Call (.Attribute (.Call (.Name "super" p0) [] [] p1) "__init__" p2) [.Constant (.str msg) j p3] [] p4) X.env = (do
      let ov ← attributeBase (.Call (.Name "super" p0) [] [] p1) "__init__" X.env (eval (.Call (.Name "super" p0) [] [] p1) X.env)
      standAt p2.atName
      let fx ← holding [ov] (getMethod ov "__init__" pl)
      callWith p4 fx.1 fx.2 (backTo p4 (starEach [.Constant (.str msg) j p3] X.env)) []))
    {Q : Flow → Shared → Prop} (h : ∀ s', Inv X pins σ H s' → Q .next s') :
    PySem.wpAt (model X.prog X.w) X.A (.func body X.env) (exec (.Expr (.Call (.Attribute (.Call (.Name "super" p0) [] [] p1) "__init__" p2) [.Constant (.str msg) j p3] [] p4) p5) X.env) Q E s := by
  have gk : ∀ x : Str, X.env.kindOf x = W.scope.names.lookup x := fun x => by
    show X.env.scope.names.lookup x = _
    rw [hsc]
  refine ks_wpAt_Expr_any ?_ I.quiet rfl
  refine ks_wpAt_MethodCall ?_ hev
  obtain ⟨oc, doc, pm, ct, od, osl, lk⟩ := S.lk
  obtain ⟨ccl, cdd, vs, ccs, file, tf, lc, hvs, hfile⟩ := S.code
  obtain ⟨cl, cld, csl, lcell⟩ := S.cell
  obtain ⟨ar, hp, har⟩ := Option.map_eq_some_iff.mp S.self
  obtain ⟨cd, hcd, _, _⟩ := T.cls
  have KX := I.kIn
  refine ks_wpAt_super_base (env := X.env) ((gk _).trans S.ksup) ((gk _).trans S.kcls) (by decide) hfn (KX _ _ lk) rfl hp hco (KX _ _ lc) rfl hvs hfile S.top ?_
  -- super
  obtain ⟨mb, b1, b2⟩ := I.mod.blt
  refine PySem.W.ks_loadName_global I.ok.kind ((gk _).trans S.ksup) (Calls.loadGlobal_builtin (by rw [I.ok.glob]; exact I.mod.glob.keeps I.bk) S.sup (by rw [I.ok.blt]; exact b1.keeps I.bk) ((b2 _ (by decide)).trans (by first | boot_by_name | rfl | kernel_rfl)) ⟨rfl, ?_⟩)
  -- __class__
  refine wpAny_loadName_free I.ok.kind ((gk _).trans S.kcls) (c := cc) (by rw [hce]; rfl) ⟨_, KX _ _ lcell, rfl⟩ ?_
  -- self
  rw [har]
  obtain ⟨m, hn, hl⟩ := I.loc
  obtain ⟨us, rs, ls⟩ := hl 0 "self" _ hN h0 (.inl (by rw [hsc]; exact S.kself))
  cases (show us = Value.ref a from rs)
  have hm : m "self" = some (.ref a) := by
    rcases ls with ⟨_, q⟩ | ⟨q, _⟩
    · exact q
    · rw [gk, S.kself] at q
      rcases q with q | q <;> cases q
  refine wpAny_loadName_local I.ok.kind ((gk _).trans S.kself) hn hm ?_
  -- the super object
  obtain ⟨t1, he⟩ := exo_at I.hok ha
  obtain ⟨oD, hD1, hD2⟩ : ∃ oD, s.heap.get? C = some oD ∧ oD.data = .cls cd := by
    unfold PySem.W.clsIn at hcd
    split at hcd
    · rename_i c d cd' sl ho
      cases hcd
      exact ⟨_, KX _ _ ho, rfl⟩
    · cases hcd
  have In : PySem.W.InstAt s.heap a { cls := .ref C, dict := none, data := .fields #[.ref t1, .none, .none, .none, .bool false, .none] } C none := ⟨he, rfl, rfl, trivial⟩
  have nac : a ≠ C := PySem.W.ks_ne KX In hcd
  have subB := S.subB
  have meth := S.meth
  have opq := S.opq
  obtain ⟨hh, g, d, t, os⟩ := s
  refine ks_wpAny_isType_cls hD1 hD2 ⟨rfl, ?_⟩
  refine ks_wpAny_call_super hD1 hD2 he rfl (fun c e => nomatch e) (PySem.W.looks_mroIn KX S.subC) (fun h' e k => ?_)
  have I2 : Inv X pins σ H ⟨h', g, d, t, os⟩ := I.kept (t' := t) k
  obtain ⟨t2, he2⟩ := exo_at I2.hok ha
  have In2 : PySem.W.InstAt h' a { cls := .ref C, dict := none, data := .fields #[.ref t2, .none, .none, .none, .bool false, .none] } C none := ⟨he2, rfl, rfl, trivial⟩
  unfold PySem.W.ks_superIn at meth
  rw [hcd] at meth
  refine PySem.W.kxs_getMethod EB.kf e (PySem.W.looks_opaque I2.kIn opq) (l₀ := cd.mro) (fun A Q E s k q => wpAny_bind ((PySem.W.looks_clsIn I2.kIn hcd) A _ E s k (wpAny_pure q))) rfl I2.kIn meth (In2.type.andThen (PySem.W.looks_subIn I2.kIn subB)) nac (by decide) ?_
  have k3 : ∀ b o, h'.get? b = some o → (h'.push (PySem.W.kxs_mw initId a)).get? b = some o := fun b o e => Heap.get?_push_of_some _ e
  have I3 : Inv X pins σ H ⟨h'.push (PySem.W.kxs_mw initId a), g, d, t + 1, os⟩ := I2.kept (t' := t + 1) k3
  have hu : (h'.push (PySem.W.kxs_mw initId a)).get? h'.objs.size = some (PySem.W.kxs_mw initId a) := Heap.get?_push_at rfl rfl
  -- the call
  show wpAny _ _ (callWith p4 (.ref h'.objs.size) [] (backTo p4 (starEach [.Constant (.str msg) j p3] X.env)) []) _ _ _
  have hse : starEach [.Constant (.str msg) j p3] X.env = (false, eval (.Constant (.str msg) j p3) X.env) :: starEach [] X.env := rfl
  rw [hse]
  refine PySem.W.kxs_callWith (i := initId) (x := a) rfl ?_
  refine Calls.evalArgs_plain ?_
  refine Calls.spliced_cons (@Calls.Constant_str _ _ _ _ _ msg j p3 _ (Calls.spliced_nil ⟨hu, ?_⟩))
  exact mw_call EB T (I3.tok _) ha hu (by show 1 ≤ sizeLine; decide) h
end

/-! ## the promise of such an `__init__` -/
section
open NdefX
variable {P : Program} {w : World} {K : PySem.W.Frag} {mg : Str → Option Value} {base : Heap} {f cc cda C : Addr} {W : IniW} {B newId initId : String} {tl : List Value}
abbrev IniW.nf (W : IniW) (cc cda : Addr) : NF := ⟨W.name, W.qual, W.params, W.body, W.scope, [("__class__", cc)], cda⟩
/-- the first statement is super().__init__('..'), the rest is walked -/
theorem ini_ok {CX : CXT} {N ps : List Str} {k : Nat} {sp : Sp} {p0 p1 p2 p3 p4 p5 : Pos} {j : Nat} {msg : Str} {rest : List Stmt} {fd : FuncData} (EB : ExB B newId initId tl) (T : ExcK K C tl newId) (S : IniK P K mg W f cc cda C B initId)
    (hb : W.body = .Expr (.Call (.Attribute (.Call (.Name "super" p0) [] [] p1) "__init__" p2) [.Constant (.str msg) j p3] [] p4) p5 :: rest)
    (SC : NScope N ps ["__class__"] W.scope) (hp0 : ps[0]? = some ("self" : Str)) (len : ∀ vs H Q E, sp vs H Q E → vs.length = ps.length)
    (hself : ∀ vs H Q E, sp vs H Q E → ∃ a, vs[0]? = some (.ref a) ∧ H a = some (exo a C none))
    (hev : ∀ L, ∃ pl, eval (.Call (.Attribute (.Call (.Name "super" p0) [] [] p1) "__init__" p2) [.Constant (.str msg) j p3] [] p4) (envF (W.nf cc cda) f L) = (do
      let ov ← attributeBase (.Call (.Name "super" p0) [] [] p1) "__init__" (envF (W.nf cc cda) f L) (eval (.Call (.Name "super" p0) [] [] p1) (envF (W.nf cc cda) f L))
      standAt p2.atName
      let fx ← holding [ov] (getMethod ov "__init__" pl)
      callWith p4 fx.1 fx.2 (backTo p4 (starEach [.Constant (.str msg) j p3] (envF (W.nf cc cda) f L))) []))
    (hbody : ∀ (A : Around) (outer : List Env) (s : Shared) (H : Hp) (vs : List V) (Q : VK) (E : XK), Room k (A.deeper (envF (W.nf cc cda) f s.heap.objs.size)) → sp vs H Q E →
      ∃ t, PSs (ncx CX P w K mg base N (W.nf cc cda) f A outer s H E) rest t ∧ t { nx := fun _ H' => Q .non H', rt := Q } (startF N vs [some (.ref C)]) H)
    (hfd : ∃ (oc : Value) (od : Option Addr) (osl : Array (Option Value)), K.lookup f = some ⟨oc, od, .func fd, osl⟩) :
    FnOk P w K mg base CX (k + 1) f fd ps sp := by
  refine ⟨len, fun A outer s H args us vs Q E hr e0 hbnd r hsp => ?_⟩
  have keep := fun b o e => (e0.bs b o e).1
  have KX : K.In s.heap := e0.mod.kin.keeps keep
  obtain ⟨oc, doc, pm, ct, od, osl, lk⟩ := S.lk
  obtain ⟨oc', od', osl', lk'⟩ := hfd
  rw [lk] at lk'
  cases lk'
  obtain ⟨cl, cld, csl, lcell⟩ := S.cell
  have hl := len _ _ _ _ hsp
  refine ks_codeAny_call_defAt (body := W.body) hr.depth (KX _ _ lk) rfl (e0.mod.nolimit.keeps keep) (PySem.W.codeRec_of KX S.hcd) rfl hbnd SC.nocell (fun y hy => SC.par y.1 (List.of_mem_zip hy).1) (fun h₁ hns kp => ?_) SC.co SC.gen SC.kind
  have CA : CellsAt [(("__class__" : Str), cc)] ["__class__"] [some (.ref C)] s.heap H := by
    refine ⟨rfl, fun y c hc => ?_, fun x y c hx hy => ?_, fun i y hy => ?_⟩
    · have e : c = cc := by
        by_cases q : y = "__class__"
        · subst q
          exact (Option.some.inj hc).symm
        · have z : ([(("__class__" : Str), cc)]).lookup y = none := by
            simp [List.lookup, show (y == ("__class__" : Str)) = false by simpa using q]
          rw [z] at hc
          cases hc
      subst e
      exact ⟨(e0.bs _ _ (e0.mod.kin _ _ lcell)).2, _, _, KX _ _ lcell, rfl⟩
    · have key : ∀ z : Str, ([(("__class__" : Str), cc)]).lookup z = some c → z = "__class__" := fun z hz => by
        refine Classical.byContradiction fun q => ?_
        simp [List.lookup, show (z == ("__class__" : Str)) = false by simpa using q] at hz
      rw [key x hx, key y hy]
    · match i, hy with
      | 0, hy =>
        cases hy
        refine ⟨cc, rfl, fun v hv => ?_⟩
        cases hv
        exact ⟨.ref C, rfl, _, KX _ _ lcell, rfl⟩
  have I : Inv (ncx CX P w K mg base N (W.nf cc cda) f A outer s H E) [] (startF N vs [some (.ref C)]) H { s with heap := h₁, toks := s.toks + (ps.zip us).length } := inv_startN SC hr.hd e0 hl r CA hns kp
  obtain ⟨a, hv0, ha⟩ := hself _ _ _ _ hsp
  have hN : N[0]? = some ("self" : Str) := by
    have q := congrArg (fun l : List Str => l[0]?) SC.pre
    have pl : 0 < ps.length := (List.getElem?_eq_some_iff.mp hp0).1
    rw [List.getElem?_take_of_lt (by omega), List.getElem?_append_left pl] at q
    exact q.trans hp0
  have h0 : (startF N vs [some (.ref C)])[0]? = some (some (.ref a)) := by
    unfold startF
    have vl : 0 < vs.length := (List.getElem?_eq_some_iff.mp hv0).1
    rw [List.getElem?_append_left (by simpa using vl), List.getElem?_map, hv0]
    rfl
  obtain ⟨pl, hev⟩ := hev s.heap.objs.size
  obtain ⟨t, ht, hq⟩ := hbody A outer s H vs Q E (hr.deeper _) hsp
  show PySem.wpAt _ _ _ (execs W.body (envF (W.nf cc cda) f s.heap.objs.size)) _ _ _
  rw [hb]
  refine ks_wpAt_execs_cons ?_
  refine sup_stmt (X := ncx CX P w K mg base N (W.nf cc cda) f A outer s H E) (W := W) EB T S I rfl rfl rfl rfl hN h0 ha hev fun s' J => ?_
  refine wpAt_of_wpAny ?_
  refine wpAny_mono (ht.run [] s' (startF N vs [some (.ref C)]) H _ J hq) (fun fl s'' hs => ?_) fun e s'' hs => hs
  cases fl with
  | ret u =>
    obtain ⟨v, σ', H', J', rv, q⟩ := hs
    exact ⟨v, H', J'.os, J'.bare, J'.base, J'.hok, rv, q⟩
  | next =>
    obtain ⟨σ', H', J', q⟩ := hs
    exact ⟨V.non, H', J'.os, J'.bare, J'.base, J'.hok, rfl, q⟩
  | brk => exact hs.elim fun _ z => z.elim fun _ z => z.2.elim
  | cont => exact hs.elim fun _ z => z.elim fun _ z => z.2.elim
end
end Lw

set_option Elab.async false
set_option linter.all false
set_option maxRecDepth 100000
set_option maxHeartbeats 4000000
namespace Lw
open PySem PySem.Spec PyProof.Rows L2
section
variable {X : Cx} {pins : List (Addr × Obj)} {σ : L2.St} {H : Hp} {s : Shared} {a C dx : Addr} {f : Str} {y : V} {u : Value} {E : Value → Shared → Prop} {A : Around} {B newId initId : String} {tl : List Value}
/-- self.f = y, the first field of an exception -/
theorem ost_b (EB : ExB B newId initId tl) (T : ExcK X.K C tl newId) (I : Inv X pins σ H s) (e : H a = some (exo a C none)) (hno : PySem.W.findIn X.K (.ref C) f = some none) (ry : L2.RelV y u) {Q : Unit → Shared → Prop}
    (h : ∀ dx s', H dx = none → dx ≠ a → Inv X pins σ (upd (upd H dx (exd dx [(f, y)])) a (exo a C (some dx))) s' → Q () s') : wpAny (model X.prog X.w) A (setAttr (.ref a) f u) Q E s := by
  obtain ⟨cd, hcd, hdict, hmro⟩ := T.cls
  obtain ⟨t1, ho⟩ := exo_at I.hok e
  obtain ⟨hp, g, d, t, os⟩ := s
  refine PySem.W.set_plain I.kIn (ox := { cls := .ref C, dict := none, data := .fields #[.ref t1, .none, .none, .none, .bool false, .none] }) (od := none) ⟨ho, rfl, rfl, trivial⟩ T.sa ?_
  refine osa_b EB I.kIn ho hcd hmro hdict hno fun h' tk' dx k dn dne hx hn => ?_
  have hnd : H dx = none := I.hok.fresh dn
  have na : ∀ {b : Addr}, H b = none → b ≠ a := fun {b} n z => by
    rw [z, e] at n
    cases n
  have nd : ∀ {b : Addr} {o : Obj}, hp.get? b = some o → b ≠ dx := fun {b o} q => Nat.ne_of_lt (Nat.lt_of_lt_of_le (Heap.lt_size q) dn)
  have keepT : ∀ {b : Addr} {o : HO}, H b = some o → exo a C none ≠ o → upd (upd H dx (exd dx [(f, y)])) a (exo a C (some dx)) b = some o := fun {b o} q ne => by
    rw [upd_ne (at_ne e q ne), upd_ne (ne_of_none q hnd)]
    exact q
  have U : Un X.fs [] H (upd (upd H dx (exd dx [(f, y)])) a (exo a C (some dx))) hp h' := by
    refine ⟨fun b o q n _ _ => k b o (na n) q, fun b o q n _ _ => ⟨o.slots, k b o (na n) q⟩, fun b o q n _ => ?_, fun b o q _ => ?_, fun b xs q => keepT q exo_tup, fun b o v q => keepT q exo_frz, fun b ps q => ⟨#[], ?_⟩⟩
    · rw [upd_ne (na n), upd_ne (nd q)]
      exact n
    · by_cases hb : b = a
      · rw [hb]
        exact ⟨_, hx⟩
      · exact ⟨o, k b o hb q⟩
    · rw [keepT q exo_tbl]
      simp
  refine h dx _ hnd dne (I.un (t' := tk') U fun b o q => ?_)
  by_cases hb : b = a
  · subst hb
    rw [upd_same] at q
    cases q
    exact exo_ok hx
  · rw [upd_ne hb] at q
    by_cases hd : b = dx
    · subst hd
      rw [upd_same] at q
      cases q
      exact exd_ok hn (relO_put (fs := []) ry fun g => True.intro)
    · rw [upd_ne hd] at q
      refine (I.hok b o q).stay (fun c v hc z => k c v ?_ z) (fun c hc => keepT hc exo_own) fun c xs hc => keepT hc exo_tup
      rcases hc with hc | hc
      · rw [hc]
        exact hb
      · exact at_ne e hc exo_own
end
/-- self.f = e as the reading of a statement -/
def tOstB (K : PySem.W.Frag) (tl : List Value) (newId : String) (f : Str) (to te : TE) : TS := fun D σ H => te σ H fun y H1 => to σ H1 fun x H2 => ∃ a C : Addr, x = .ref a ∧ ExcK K C tl newId ∧ PySem.W.findIn K (.ref C) f = some none ∧
  H2 a = some (exo a C none) ∧ ∀ dx, H2 dx = none → dx ≠ a → D.nx σ (upd (upd H2 dx (exd dx [(f, y)])) a (exo a C (some dx)))
section
variable {X : Cx} {o e : Expr} {es : List Expr} {to te : TE} {ta : TA} {f : Str} {p p' pos : Pos} {B newId initId : String} {tl : List Value}
theorem ps_ostB (EB : ExB B newId initId tl) (ho : PE X o to) (he : PE X e te) (hs : swapsWith e (some (.Attribute o f p')) pos.line X.env = pure false := by rfl) : PS X (.Assign [.Attribute o f p'] e pos) (tOstB X.K tl newId f to te) := by
  constructor
  intro pins s σ H D I h
  refine plainObj_wpAny_Assign_Attribute (thn (he.run pins s σ H _ I h) fun v s1 hv => ?_) hs
  obtain ⟨y, H1, I1, r1, q1⟩ := hv
  refine thn (ho.run pins s1 σ H1 _ I1 q1) fun u s2 hu => ?_
  obtain ⟨x, H2, I2, r2, a, C, ex, T, hno, ea, q⟩ := hu
  subst ex
  cases (show u = Value.ref a from r2)
  exact ost_b EB T I2 ea hno r1 fun dx s' n ne J => ⟨σ, _, J, q dx n ne⟩
/-- C(e, ..) as what a raise makes -/
theorem pmk_b {CX : CXT} {x : Str} {C fI : Addr} {k : Nat} {fd : FuncData} {ps : List Str} {sp : Sp} (EB : ExB B newId initId tl) (T : ExcK X.K C tl newId) (iC : PySem.W.findIn X.K (.ref C) "__init__" = some (some (.ref fI))) (tI : PySem.W.typeIn X.K (.ref fI) = some (.type "function"))
    (F1 : FnOk X.prog X.w X.K X.mg X.base CX k fI fd ps sp) (hr : Room (k + 1) X.A) (hb : Binds X.K fd ps []) (hx : Passes CX X (fun _ _ _ => False)) (hm : X.mg x = some (.ref C)) (ha : PA X (e :: es) ta) (hg : Gl X x := by rfl)
    (hdb : (x == ("__debug__" : Str)) = false := by decide) (he : starEach (e :: es) X.env = (false, eval e X.env) :: starEach es X.env := by rfl) (hpl : (backTo pos (starEach es X.env)).any (fun q => q.1) = false := by rfl) :
    PMk X (.Call (.Name x p) (e :: es) [] pos) (tMkO C sp [] ta) := by
  intro pins s σ H Q I h
  refine wpAny_Call_Name_kw (ld_glob I hg hm (PySem.W.callWith_K (h₀ := X.base) I.ok.mod.kin T.kC (thn (ha.run pos pins s σ H _ I h) fun us s1 hu => ?_) he hpl) hdb)
  obtain ⟨vs, H1, I1, r1, hz, q1⟩ := hu
  refine ⟨I1.kIn, ?_⟩
  show wpAny _ _ (call (.ref C) us) _ _ _
  obtain ⟨nm, N', qn, bs, bm, hdct, sn, sub, ab, col, dd, k0, k1, k2, k3, k5, hC, hT⟩ := PySem.W.excInit_of I1.kIn T.ini
  obtain ⟨hp, g, dr, tk, os⟩ := s1
  generalize hA : hp.objs.size + 1 = A1
  have hsz : hp.objs.size ≤ A1 := by omega
  have hq := q1 A1 (I1.hok.fresh hsz)
  have kk : ∀ b o, hp.get? b = some o → ((hp.push (PySem.W.kdv_tup us)).push (HandSPX.excO C hp.objs.size)).get? b = some o := fun b o e => Heap.get?_push_of_some _ (Heap.get?_push_of_some _ e)
  have hget : ((hp.push (PySem.W.kdv_tup us)).push (HandSPX.excO C hp.objs.size)).get? A1 = some (HandSPX.excO C hp.objs.size) := by
    rw [← hA]
    heap_get
  have I2 : Inv X pins σ (upd H1 A1 (exo A1 C none)) ⟨(hp.push (PySem.W.kdv_tup us)).push (HandSPX.excO C hp.objs.size), g, dr, tk, os⟩ :=
    I1.laid (t' := tk) (a := A1) (o := exo A1 C none) (h' := (hp.push (PySem.W.kdv_tup us)).push (HandSPX.excO C hp.objs.size)) kk hsz (exo_ok hget)
  have r2 : Vals (V.ref A1 :: (vs ++ [])) (Value.ref A1 :: (us ++ [])) := .cons rfl (r1.append .nil)
  have hl : (Value.ref A1 :: us ++ []).length = ps.length := (r2.length.symm.trans (F1.len _ _ _ _ hq))
  have hus : us.length ≤ sizeLine := by
    rw [← Paired.length r1]
    exact Nat.le_of_lt (small1000 hz)
  refine wpAny_call (HandSPX.call_own EB.fb hT hC (PySem.W.looks_findIn I1.kIn iC) (fun self => PySem.W.bind_fn I1.kIn self tI) hus ?_)
  rw [hA]
  have hbd := hb ⟨(hp.push (PySem.W.kdv_tup us)).push (HandSPX.excO C hp.objs.size), g, dr, tk, os⟩ (Value.ref A1 :: us) I2.kIn hl
  rw [List.cons_append] at hbd
  refine codeAny_mono (F1.run _ X.stack _ _ ⟨Value.ref A1 :: us, []⟩ (Value.ref A1 :: (us ++ [])) _ _ (fun _ _ _ => False) (hr.make C us []) (I2.env0.make C us []) hbd r2 hq) fun r s' hq' => ?_
  match r, hq' with
  | .error er, hq' => exact hx pins σ _ _ er s' I2 hq'
  | .ok .next, hq' => exact False.elim hq'
  | .ok .brk, hq' => exact False.elim hq'
  | .ok .cont, hq' => exact False.elim hq'
  | .ok (.ret u), hq' =>
    obtain ⟨v, H2, os2, bare2, un2, hok2, rv, ev, d, fs, ea, ed, hd1, q2⟩ := hq'
    subst ev
    obtain ⟨h2, g2, d2, t2, os'⟩ := s'
    exact ⟨rv, mk_end (raises_own T.exC T.tyC) I1 hsz kk un2 hok2 os2 bare2 ea ed hd1 q2⟩
end
end Lw

set_option Elab.async false
set_option linter.all false
set_option maxRecDepth 100000
set_option maxHeartbeats 2000000
namespace Lw
open PySem PySem.Spec PyProof.Rows L2
/-! ## common divisors -/
theorem gcd_step (a b : Int) : Int.gcd b (a.fmod b) = Int.gcd a b := by
  rw [Int.fmod_def, Int.gcd_sub_mul_left_right, Int.gcd_comm]
theorem fmod_fall (a b : Int) (h : b ≠ 0) : (a.fmod b).natAbs < b.natAbs := by
  by_cases hb : 0 < b
  · have h1 := Int.fmod_lt_of_pos a hb
    have h2 := Int.fmod_nonneg_of_pos a hb
    omega
  · have hb' : 0 < -b := by omega
    have h1 := Int.fmod_lt_of_pos (-a) hb'
    have h2 := Int.fmod_nonneg_of_pos (-a) hb'
    rw [Int.neg_fmod_neg] at h1 h2
    omega
theorem fmod_le (a b : Int) (h : b ≠ 0) {n : Nat} (hb : b.natAbs < n) : (a.fmod b).natAbs < n := Nat.lt_trans (fmod_fall a b h) hb
theorem abs_if (a : Int) : (if a < 0 then -a else a) = (a.natAbs : Int) := by
  split <;> omega
theorem gcd_pos {n d : Int} (h : d ≠ 0) : 0 < Int.gcd n d := by
  refine Nat.pos_of_ne_zero fun e => ?_
  exact h (Int.gcd_eq_zero_iff.mp e).2
theorem gcd_le {n d : Int} (h : d ≠ 0) : Int.gcd n d ≤ d.natAbs := by
  have e : (Int.gcd n d) ∣ d.natAbs := Int.ofNat_dvd_left.mp (Int.gcd_dvd_right n d)
  exact Nat.le_of_dvd (by omega) e
/-- // by a divisor of some thousand digits, of either sign -/
def CDivG (_ j : Int) : Prop := j ≠ 0 ∧ j.natAbs < 2 ^ 1000
theorem op_fdivG {X : Cx} : OpR X (binaryOp .FloorDiv) (rI CDivG fun i j => .int (i.fdiv j)) := opI fun i j _ _ _ _ _ hc q =>
  floordiv_int hc.1 q (.inl (PyProof.noPylong_of_log2 (Nat.lt_of_lt_of_le (PySem.Flt.log2_lt_of (by decide) hc.2) (by decide))))
/-- the number of a numerator and a denominator other than 0, as data -/
def lowC (n d : Int) : Int := if d < 0 then -(Int.gcd n d : Int) else (Int.gcd n d : Int)
def lowD (n d : Int) : PyData := if d.fdiv (lowC n d) = 1 then .int (n.fdiv (lowC n d)) else .tuple [.int (n.fdiv (lowC n d)), .int (d.fdiv (lowC n d))]
theorem lowC_ne {n d : Int} (h : d ≠ 0) : lowC n d ≠ 0 := by
  have := gcd_pos (n := n) h
  unfold lowC
  split <;> omega
theorem lowC_le {n d : Int} (h : d ≠ 0) : (lowC n d).natAbs ≤ d.natAbs := by
  have := gcd_le (n := n) h
  unfold lowC
  split <;> omega
theorem lowC_dvd (n d : Int) : lowC n d ∣ n ∧ lowC n d ∣ d := by
  have h1 := Int.gcd_dvd_left n d
  have h2 := Int.gcd_dvd_right n d
  unfold lowC
  split
  · exact ⟨Int.neg_dvd.mpr h1, Int.neg_dvd.mpr h2⟩
  · exact ⟨h1, h2⟩
theorem fdiv_le {n c : Int} (hc : c ≠ 0) (h : c ∣ n) : (n.fdiv c).natAbs ≤ n.natAbs := by
  obtain ⟨k, rfl⟩ := h
  rw [Int.mul_fdiv_cancel_left _ hc, Int.natAbs_mul]
  exact Nat.le_mul_of_pos_left _ (by omega)
/-- the same by a law's own words: the denominator is made positive first -/
def ratN (n d : Int) : Int := if d < 0 then -n else n
def ratL (d : Int) : Int := if d < 0 then -d else d
def ratD (n d : Int) : PyData := if ratL d = (Int.gcd (ratN n d) (ratL d) : Int) then .int ((ratN n d).fdiv (Int.gcd (ratN n d) (ratL d) : Int)) else .tuple [.int ((ratN n d).fdiv (Int.gcd (ratN n d) (ratL d) : Int)), .int ((ratL d).fdiv (Int.gcd (ratN n d) (ratL d) : Int))]
theorem rat_gcd (n d : Int) : Int.gcd (ratN n d) (ratL d) = Int.gcd n d := by
  unfold ratN ratL
  split
  · rw [Int.gcd_neg, Int.neg_gcd]
  · rfl
theorem rat_div {n d : Int} (h : d ≠ 0) : (ratN n d).fdiv (Int.gcd n d : Int) = n.fdiv (lowC n d) ∧ (ratL d).fdiv (Int.gcd n d : Int) = d.fdiv (lowC n d) := by
  have hp := gcd_pos (n := n) h
  have hg : (Int.gcd n d : Int) ≠ 0 := by omega
  obtain ⟨x, hx⟩ := Int.gcd_dvd_left n d
  obtain ⟨y, hy⟩ := Int.gcd_dvd_right n d
  generalize hG : (Int.gcd n d : Int) = G at *
  have hC : lowC n d = if d < 0 then -G else G := by
    unfold lowC
    rw [hG]
  unfold ratN ratL
  rw [hC]
  by_cases hd : d < 0
  · rw [if_pos hd, if_pos hd, if_pos hd]
    have n1 : -n = G * -x := by rw [hx, Int.mul_neg]
    have d1 : -d = G * -y := by rw [hy, Int.mul_neg]
    have n2 : n = -G * -x := by rw [hx, Int.neg_mul_neg]
    have d2 : d = -G * -y := by rw [hy, Int.neg_mul_neg]
    have e1 : (-n).fdiv G = -x := by rw [n1, Int.mul_fdiv_cancel_left _ hg]
    have e2 : (-d).fdiv G = -y := by rw [d1, Int.mul_fdiv_cancel_left _ hg]
    have e3 : n.fdiv (-G) = -x := by
      rw [n2]
      exact Int.mul_fdiv_cancel_left _ (by omega)
    have e4 : d.fdiv (-G) = -y := by
      rw [d2]
      exact Int.mul_fdiv_cancel_left _ (by omega)
    rw [e1, e2, e3, e4]
    exact ⟨rfl, rfl⟩
  · rw [if_neg hd, if_neg hd, if_neg hd]
    exact ⟨rfl, rfl⟩
theorem ratD_eq {n d : Int} (h : d ≠ 0) : ratD n d = lowD n d := by
  have hp := gcd_pos (n := n) h
  obtain ⟨e1, e2⟩ := rat_div (n := n) h
  unfold ratD lowD
  rw [rat_gcd, e1, e2]
  have key : (ratL d = (Int.gcd n d : Int)) ↔ (d.fdiv (lowC n d) = 1) := by
    rw [← e2]
    have hv : (Int.gcd n d : Int) ∣ ratL d := by
      unfold ratL
      split
      · exact Int.dvd_neg.mpr (Int.gcd_dvd_right n d)
      · exact Int.gcd_dvd_right n d
    obtain ⟨k, hk⟩ := hv
    rw [hk, Int.mul_fdiv_cancel_left _ (by omega)]
    constructor
    · intro q
      have q2 : (Int.gcd n d : Int) * k = (Int.gcd n d : Int) * 1 := by rw [q, Int.mul_one]
      exact Int.eq_of_mul_eq_mul_left (by omega) q2
    · rintro rfl
      rw [Int.mul_one]
  by_cases c : d.fdiv (lowC n d) = 1
  · rw [if_pos (key.mpr c), if_pos c]
  · rw [if_neg (fun q => c (key.mp q)), if_neg c]
/-! ## new data -/
/-- what H' has and H has not -/
def nw (H H' : Hp) : Hp := fun b => match H b with
  | some _ => none
  | none => H' b
theorem nw_at {H H' : Hp} {b : Addr} (h : H b = none) : nw H H' b = H' b := by
  unfold nw
  rw [h]
theorem nw_get {H H' : Hp} {b : Addr} {o : HO} (h : nw H H' b = some o) : H b = none ∧ H' b = some o := by
  cases e : H b with
  | none =>
    rw [nw_at e] at h
    exact ⟨rfl, h⟩
  | some u =>
    unfold nw at h
    rw [e] at h
    cases h
/-- data that lie in what is new -/
def Fresh (K : PySem.W.Frag) (H H' : Hp) (v : V) (d : PyData) : Prop := Dq K (nw H H') v d
theorem nw_same {H H' : Hp} : Same (nw H H') H' := fun _ _ h => (nw_get h).2
theorem nw_off {H H' : Hp} {a : Addr} (h : H a ≠ none) : Same (nw H H') (off H' a) := fun b o g => by
  obtain ⟨h1, h2⟩ := nw_get g
  have n : b ≠ a := fun e => by
    rw [e] at h1
    exact h h1
  rw [off_ne n]
  exact h2
theorem nw_mono {H H1 H' H2 : Hp} (s : ∀ b, H1 b = none → H b = none) (t : ∀ b o, H1 b = none → H' b = some o → H2 b = some o) : Same (nw H1 H') (nw H H2) := fun b o g => by
  obtain ⟨h1, h2⟩ := nw_get g
  rw [nw_at (s b h1)]
  exact t b o h1 h2
theorem same_none {H H' : Hp} (s : Same H H') : ∀ b, H' b = none → H b = none := fun b h => s.free h
theorem Fresh.dq {K : PySem.W.Frag} {H H' : Hp} {v : V} {d : PyData} (h : Fresh K H H' v d) : Dq K H' v d := Dq.same nw_same h
theorem Fresh.away {K : PySem.W.Frag} {H H' : Hp} {v : V} {d : PyData} {a : Addr} (h : Fresh K H H' v d) (ha : H a ≠ none) : Dq K (off H' a) v d := Dq.same (nw_off ha) h
theorem Fresh.later {K : PySem.W.Frag} {H H' H2 : Hp} {v : V} {d : PyData} (h : Fresh K H H' v d) (s : Same H' H2) : Fresh K H H2 v d := Dq.same (nw_mono (fun _ e => e) fun b o _ e => s b o e) h
theorem Fresh.sooner {K : PySem.W.Frag} {H H0 H' : Hp} {v : V} {d : PyData} (h : Fresh K H H' v d) (s : Same H0 H) : Fresh K H0 H' v d := Dq.same (nw_mono (same_none s) fun b o _ e => e) h
mutual
def slim : PyData → Bool
  | .list xs => decide (xs.length ≤ 900) && slimAll xs
  | .tuple xs => decide (xs.length ≤ 900) && slimAll xs
  | _ => true
def slimAll : List PyData → Bool
  | [] => true
  | x :: xs => slim x && slimAll xs
end
theorem slim_at : ∀ {ds : List PyData} {d : PyData}, slimAll ds = true → d ∈ ds → slim d = true
  | [], _, _, h => nomatch h
  | x :: xs, d, h, hd => by
    have h' : (slim x && slimAll xs) = true := by simpa only [slimAll] using h
    rw [Bool.and_eq_true] at h'
    rcases List.mem_cons.mp hd with rfl | hd
    · exact h'.1
    · exact slim_at h'.2 hd
theorem depth_at : ∀ {ds : List PyData} {d : PyData}, d ∈ ds → d.depth ≤ PyData.depthAll ds
  | [], _, h => nomatch h
  | x :: xs, d, hd => by
    simp only [PyData.depthAll]
    rcases List.mem_cons.mp hd with rfl | hd
    · omega
    · have := depth_at (ds := xs) hd
      omega
theorem dqall_snoc {K : PySem.W.Frag} {H : Hp} : ∀ {vs : List V} {ds : List PyData} {v : V} {d : PyData}, DqAll K H vs ds → Dq K H v d → DqAll K H (vs ++ [v]) (ds ++ [d])
  | _, _, _, _, .nil, h => .cons h .nil
  | _, _, _, _, .cons h g, q => .cons h (dqall_snoc g q)
theorem dq_get {K : PySem.W.Frag} {H : Hp} : ∀ {vs : List V} {ds : List PyData} {i : Nat} {v : V}, DqAll K H vs ds → vs[i]? = some v → ∃ d, ds[i]? = some d ∧ Dq K H v d
  | _, _, _, _, .nil, e => by simp at e
  | _, _, 0, _, .cons h _, e => by
    simp at e
    subst e
    exact ⟨_, rfl, h⟩
  | _, _, i + 1, v, .cons _ g, e => by
    obtain ⟨d, h1, h2⟩ := dq_get g (i := i) (v := v) (by simpa using e)
    exact ⟨d, by simpa using h1, h2⟩
theorem dq_len {K : PySem.W.Frag} {H : Hp} : ∀ {vs : List V} {ds : List PyData}, DqAll K H vs ds → vs.length = ds.length
  | _, _, .nil => rfl
  | _, _, .cons _ g => congrArg Nat.succ (dq_len g)
end Lw

set_option Elab.async false
set_option linter.all false
set_option maxRecDepth 100000
set_option maxHeartbeats 4000000
namespace Lw
open PySem PySem.Spec PyProof.Rows L2
section
open PySem.W
variable {K : Frag} {x D : Addr} {ox : Obj} {od : Option Obj}
theorem find_data {C : Addr} {name : Str} {a g : Value} (hc : (clsIn K C).isSome = true) (ha : findIn K (.ref C) name = some (some a)) (hg : specialIn K a "__get__" = some (some g)) (ht : takesIn K a = some true) : findObj K C od name = some (.bind g a) := by
  cases od with
  | none => exact findObj_dataN hc ha hg ht
  | some o => exact findObj_data hc ha hg ht
/-- the class of an exception, whatever its dict -/
theorem class_exc (T : ExcC K D) {prog : Program} {w : World} {A : Around} {E : Value → Shared → Prop} {Q : Option Value → Shared → Prop} {s : Shared} (X : K.In s.heap) (I : InstAt s.heap x ox D od)
    (h : Q (some (.ref D)) { s with toks := s.toks + 1 }) : wpAny (model prog w) A (getAttr? (.ref x) "__class__") Q E s := by
  have hsome : (clsIn K D).isSome = true := by
    obtain ⟨cd, hc, _⟩ := any_some T.hd
    rw [hc]
    rfl
  have hf : findObj K D od "__class__" = some (.bind (.builtin "getset_descriptor.__get__") (.builtin "object.__class__")) := find_data hsome T.ha T.hn T.ht
  obtain ⟨hp, g, d, t, os⟩ := s
  have L0 := I.type (M := model prog w)
  have LG := looks_findIn (M := model prog w) X T.hg
  have LK := looks_findIn (M := model prog w) X T.hk
  have LF := looks_find (M := model prog w) X I hf
  have sub : Looks (model prog w) hp (isInstance (.ref x) (.type "BaseException")) true := L0.andThen (looks_subIn X T.hs)
  have n1 : (Value.builtin "BaseException.__getattribute__" == Value.builtin "object.__getattribute__") = false := by decide +kernel
  have n2 : (onTheHeap (Value.ref D) && Value.builtin "BaseException.__getattribute__" == Value.builtin "object.__getattribute__") = false := by
    rw [n1]
    rfl
  have n3 : (false && onTheHeap (Value.builtin "BaseException.__getattribute__")) = false := rfl
  unfold getAttr? getAttrBy? getAttrBy
  refine wpAny_bind (wpAny_mkText (wpAny_bind (wpAny_attempt (wpAny_holding (wpAny_bind (L0.at (wpAny_bind (LG.at ?_))))))))
  show wpAny _ _ (if (onTheHeap (Value.ref D) && Value.builtin "BaseException.__getattribute__" == Value.builtin "object.__getattribute__") = true then _ else _) _ _ _
  rw [n2, if_neg Bool.false_ne_true]
  unfold getAttrByItsOwn hookBefore
  refine wpAny_bind ?_
  rw [if_pos (show onTheHeap (Value.ref D) = true from rfl)]
  refine LK.at (wpAny_bind (wpAny_attempt (wpAny_holding ?_)))
  unfold callGetattribute
  rw [n3, if_neg Bool.false_ne_true]
  unfold boundAndCalled
  rw [PySem.F.excAttr_ValueError.ga.bind (.ref x)]
  refine wpAny_bind (wpAny_pure ?_)
  show wpAny _ _ (call (.builtin "BaseException.__getattribute__") [.ref x, .str "__class__" t]) _ _ _
  refine wpAny_call (codeAny_call_builtin PySem.F.excAttr_ValueError.ga.plain PySem.F.entry_bexc_ga ?_)
  refine @check_slot (model prog w) _ _ ⟨hp, g, d, t + 1, os⟩ "BaseException.__getattribute__" "BaseException" "__getattribute__" (.ref x) [.str "__class__" t] [] _ (by decide +kernel) (by decide +kernel) sub (PySem.F.args_bexc_ga (.ref x) (.str "__class__" t)) ?_
  unfold Builtin.«object.__getattribute__»
  refine wpAny_bind (wpAny_of_eq (a := ((Value.ref x : Value), [Value.str "__class__" t])) (by first | rfl | (simp only [slotArgs]; rfl)) ?_)
  refine wpAny_bind (wpAny_pure (wpAny_bind (L0.at (wpAny_bind (LF.at ?_)))))
  show wpAny _ _ (holding [Value.builtin "object.__class__"] (call (.builtin "getset_descriptor.__get__") [.builtin "object.__class__", .ref x, .ref D]) >>= ret) _ _ _
  refine wpAny_bind (wpAny_holding (wpAny_call (class_get (s := ⟨hp, g, d, t + 1, os⟩) (ox := ox) (od := od) X I T.hm ?_)))
  refine wpAny_pure ?_
  show wpAny _ _ (handedOut (.ref D)) _ _ _
  rw [handedOut_of (v := .ref D) rfl]
  first
    | exact wpAny_pure (wpAny_pure h)
    | exact wpAny_pure h
    | exact wpAny_pure (wpAny_bind (wpAny_pure (wpAny_pure h)))
theorem kit_exc (T : ExcC K D) : KitX K (.ref x) (.ref D) (fun h => InstAt h x ox D od) where
  ty := fun _ _ _ I => I.type
  it := fun _ _ X _ => by
    obtain ⟨cd, hc, _⟩ := any_some T.hd
    unfold clsIn at hc
    split at hc
    · rename_i c' d' cd' sl' ho
      intro A' Q' E' s' k q
      unfold isType loadHead
      exact wpAny_bind (wpAny_loadPart (k _ _ (X _ _ ho)) (wpAny_pure q))
    · cases hc
  ne := fun h tp dd its n sl X htp => by
    obtain ⟨cd, hc, _⟩ := any_some T.hd
    refine Bool.eq_false_iff.mpr fun q => ?_
    cases Value.ref.inj (beq_iff_eq.mp q)
    unfold clsIn at hc
    split at hc
    · rename_i c' d' cd' sl' ho
      have z := (X _ _ ho).symm.trans htp
      cases z
    · cases hc
  ca := fun X I k => class_exc T X I k
end
def excB (K : PySem.W.Frag) (D : Addr) : Bool :=
  decide (PySem.W.findIn K (.ref D) "__getattribute__" = some (some (.builtin "BaseException.__getattribute__"))) && (decide (PySem.W.findIn K (.ref D) "__getattr__" = some none) && (decide (PySem.W.subIn K (.ref D) (.type "BaseException") = some true) &&
    (PySem.W.hasDictIn K D && (decide (PySem.W.findIn K (.ref D) "__class__" = some (some (.builtin "object.__class__"))) && (decide (PySem.W.specialIn K (.builtin "object.__class__") "__get__" = some (some (.builtin "getset_descriptor.__get__"))) &&
      (decide (PySem.W.takesIn K (.builtin "object.__class__") = some true) && decide (PySem.W.mroIn K D (.type "object") = some true)))))))
theorem excB_ok {K : PySem.W.Frag} {D : Addr} (h : excB K D = true) : ExcC K D := by
  unfold excB at h
  simp only [Bool.and_eq_true, decide_eq_true_eq] at h
  obtain ⟨h1, h2, h3, h4, h5, h6, h7, h8⟩ := h
  exact ⟨h1, h2, h3, h4, h5, h6, h7, h8⟩
/-- isinstance(e, c), e the exception with a dict that the suite holds -/
def rIsX (K : PySem.W.Frag) (a : Addr) (cls : Value) (d : Option Addr) : List V → Hp → VK → Prop := fun xs H Q =>
  ∃ (D dx : Addr) (c : V) (cv : Value) (b : Bool) (fs : List (Str × V)), cls = .ref D ∧ d = some dx ∧ ExcC K D ∧ xs = [.ref a, c] ∧ ClsV c cv ∧ PySem.W.kitOne K (.ref D) cv = some b ∧ H dx = some (.xd fs) ∧ Q (.bl b) H
/-- isinstance(e, (c, ..)) -/
def rIsXT (K : PySem.W.Frag) (a : Addr) (cls : Value) (d : Option Addr) : List V → Hp → VK → Prop := fun xs H Q =>
  ∃ (D dx tp : Addr) (cs : List V) (us : List Value) (b : Bool) (fs : List (Str × V)), cls = .ref D ∧ d = some dx ∧ ExcC K D ∧ xs = [.ref a, .ref tp] ∧ H tp = some (.tup cs) ∧ Paired ClsV cs us ∧ PySem.W.kitAny K (.ref D) us = some b ∧ H dx = some (.xd fs) ∧ Q (.bl b) H
section
variable {X : Cx} {a : Addr} {oe : Obj} {cls : Value} {d : Option Addr} {pn : List (Addr × Obj)}
theorem inst_of {pins : List (Addr × Obj)} {σ : L2.St} {H : Hp} {s : Shared} {D dx : Addr} {fs : List (Str × V)} (I : Inv (X.suite a ((a, oe) :: pn)) pins σ H s) (hz : Zc (.ref D) (some dx) oe) (hf : ∃ vs, oe.data = .fields vs) (hx : H dx = some (.xd fs)) :
    ∃ od, PySem.W.InstAt s.heap a oe D (some od) := by
  obtain ⟨hget, _⟩ := I.pin (a, oe) (List.mem_append_left _ List.mem_cons_self)
  obtain ⟨mA, ⟨o, es, ep, ho, _⟩, _⟩ := (show ObjOk X.prog X.w H s.heap dx (.xd fs) from I.hok dx _ hx)
  obtain ⟨vs, hv⟩ := hf
  refine ⟨o, hget, hz.1, ?_, ?_⟩
  · unfold PySem.W.notCls
    rw [hv] <;> rfl
  · rw [hz.2]
    exact ho
theorem call_isX (hz : Zc cls d oe) (hf : ∃ vs, oe.data = .fields vs) : CallR (X.suite a ((a, oe) :: pn)) (.builtin "isinstance") (rIsX X.K a cls d) := by
  intro pins s σ H xs us Q I r h
  obtain ⟨D, dx, c, cv, b, fs, rfl, rfl, T, rfl, hc, e, hx, q⟩ := h
  obtain ⟨u1, u2, rfl, r1, r2⟩ := vals2 r
  cases (show u1 = Value.ref a from r1)
  cases hc.eq r2
  obtain ⟨od, J⟩ := inst_of I hz hf hx
  exact PySem.W.kia_one (kit_exc T) I.kIn J e (fun z => nomatch z) fun tk => ⟨.bl b, H, I.tok tk, rfl, q⟩
theorem call_isXT (hz : Zc cls d oe) (hf : ∃ vs, oe.data = .fields vs) : CallR (X.suite a ((a, oe) :: pn)) (.builtin "isinstance") (rIsXT X.K a cls d) := by
  intro pins s σ H xs us Q I r h
  obtain ⟨D, dx, tp, cs, ws, b, fs, rfl, rfl, T, rfl, hT, k, e, hx, q⟩ := h
  obtain ⟨u1, u2, rfl, r1, r2⟩ := vals2 r
  cases (show u1 = Value.ref a from r1)
  cases (show u2 = Value.ref tp from r2)
  obtain ⟨od, J⟩ := inst_of I hz hf hx
  obtain ⟨_, its, rv, o, h1, h2, n, h3⟩ := (show ObjOk X.prog X.w H s.heap tp (.tup cs) from I.hok tp _ hT)
  cases ClsV.all k rv
  obtain ⟨oc, odd, dt, sl⟩ := o
  simp only at h2 h3
  subst h2 h3
  exact PySem.W.kia_tup (kit_exc T) I.kIn J h1 e (fun z => nomatch z) fun tk => ⟨.bl b, H, I.tok tk, rfl, q⟩
end
/-- an own def that may raise, called in a try -/
structure OwnX (P : Program) (w : World) (K : PySem.W.Frag) (mg : Str → Option Value) (base : Heap) (k : Nat) (x : Str) (ps : List Str) (sp : Sp) (f : Addr) (fd : FuncData) : Prop where
  ok : FnOk P w K mg base (L2.CX P w) k f fd ps sp
  m : mg x = some (.ref f)
  kp : PySem.W.keepIn K (.ref f) = true
/-- a class of exceptions with its own __init__ -/
structure OwnE (P : Program) (w : World) (K : PySem.W.Frag) (mg : Str → Option Value) (base : Heap) (k : Nat) (x : Str) (ps : List Str) (sp : Sp) (C fI : Addr) (fd : FuncData) (tl : List Value) (newId : String) : Prop where
  t : ExcK K C tl newId
  i : PySem.W.findIn K (.ref C) "__init__" = some (some (.ref fI))
  ti : PySem.W.typeIn K (.ref fI) = some (.type "function")
  ok : FnOk P w K mg base CX0 k fI fd ps sp
  b : Binds K fd ps []
  m : mg x = some (.ref C)
theorem pmk_e {X : Cx} {k : Nat} {x : Str} {ps : List Str} {sp : Sp} {C fI : Addr} {fd : FuncData} {B newId initId : String} {tl : List Value} {e : Expr} {es : List Expr} {ta : TA} {p pos : Pos} (EB : ExB B newId initId tl) (O : OwnE X.prog X.w X.K X.mg X.base k x ps sp C fI fd tl newId) (hr : Room (k + 1) X.A) (ha : PA X (e :: es) ta)
    (hg : Gl X x := by rfl) (hdb : (x == ("__debug__" : Str)) = false := by decide) (he : starEach (e :: es) X.env = (false, eval e X.env) :: starEach es X.env := by rfl) (hpl : (backTo pos (starEach es X.env)).any (fun q => q.1) = false := by rfl) :
    PMk X (.Call (.Name x p) (e :: es) [] pos) (tMkO C sp [] ta) := pmk_b EB O.t O.i O.ti O.ok hr O.b pass0 O.m ha hg hdb he hpl
end Lw

set_option Elab.async false
set_option linter.all false
set_option maxRecDepth 100000
set_option maxHeartbeats 4000000
namespace Lw
open PySem PySem.Spec PyProof.Rows L2
/-! ## the head's facts: defs, classes of exceptions with an own __init__, one more Bool -/
/-- the `__init__` of the class that a name of the module stands for -/
structure IniD where
  cls : Str
  w : IniW
  B : String
  newId : String
  initId : String
abbrev IniV : Type := Option (Str × Str × Arguments × FuncBody × Scope × Addr × List Str × Value × Value × Option Addr × Addr)
def iniAt (K : PySem.W.Frag) (d : IniD) : Addr := He.ma K (He.ga K d.cls) "__init__"
def iniObs (K : PySem.W.Frag) (d : IniD) : IniV := match K.lookup (iniAt K d) with
  | some ⟨_, _, .func fd, _⟩ => some (fd.name, fd.qualname, fd.params, fd.body, fd.scope, fd.globals, fd.closure.map (fun q => q.1), fd.defaults, fd.kwdefaults, fd.annotations, fd.builtins)
  | _ => none
def IniD.val (d : IniD) : IniV := some (d.w.name, d.w.qual, d.w.params, .stmts d.w.body, d.w.scope, mainGlobals, [("__class__" : Str)], .none, .none, none, builtinsNs)
def fileB (K : PySem.W.Frag) (file : Str) (v : Value) : Bool := match v with
  | .ref c => (match K.lookup c with
    | some ⟨_, _, .fields vs, _⟩ => (match (vs[2]? : Option Value) with
      | some (.str x _) => file == x
      | _ => false)
    | _ => false)
  | _ => false
def cellB (K : PySem.W.Frag) (C : Addr) (cl : List (Str × Addr)) : Bool := match cl with
  | [(_, cc)] => (match K.lookup cc with
    | some ⟨_, _, .cell (some (.ref D)), _⟩ => decide (D = C)
    | _ => false)
  | _ => false
/-- what is asked of the class and its __init__, as one Bool -/
def iniB (K : PySem.W.Frag) (file : Str) (d : IniD) : Bool :=
  (match K.lookup (iniAt K d) with
  | some ⟨_, _, .func fd, _⟩ => PySem.W.codeIn K fd.code d.w.qual && (fileB K file fd.code && cellB K (He.ga K d.cls) fd.closure)
  | _ => false) && (clsB K (He.ga K d.cls) (tlOf d.B) d.newId && (He.eqO (PySem.W.nsIn K cStatics "thirdparty.any") (some none) && (He.eqO (PySem.W.ks_superIn K (He.ga K d.cls) (He.ga K d.cls) "__init__") (some (some (.builtin d.initId))) &&
    (decide (PySem.W.subIn K (.ref (He.ga K d.cls)) (.type d.B) = some true) && (decide (PySem.W.mroIn K (He.ga K d.cls) (.ref (He.ga K d.cls)) = some true) &&
      (He.eqO (PySem.W.findIn K (.ref (He.ga K d.cls)) "__init__") (some (some (.ref (iniAt K d)))) && (decide (PySem.W.typeIn K (.ref (iniAt K d)) = some (.type "function")) && He.eqO (PySem.W.nsIn K mainGlobals d.cls) (some (some (.ref (He.ga K d.cls)))))))))))
/-- what of it the words alone say -/
structure IniF (P : Program) (d : IniD) : Prop where
  top : (P.main.scope.names.lookup ("super" : Str)).isSome = false
  self : (d.w.params.posonlyargs ++ d.w.params.args).head?.map (fun a => a.arg) = some "self"
  kind : d.w.scope.kind = .function
  ksup : d.w.scope.names.lookup ("super" : Str) = some .globalImplicit
  kcls : d.w.scope.names.lookup ("__class__" : Str) = some .free
  kself : d.w.scope.names.lookup ("self" : Str) = some .local
theorem fileB_ok {K : PySem.W.Frag} {file : Str} {v : Value} (h : fileB K file v = true) : ∃ c, v = .ref c ∧ ∃ (ccl : Value) (cdd : Option Addr) (vs : Array Value) (ccs : Array (Option Value)) (x : Str) (tf : Tok), K.lookup c = some ⟨ccl, cdd, .fields vs, ccs⟩ ∧ vs[2]? = some (.str x tf) ∧ (file == x) = true := by
  unfold fileB at h
  split at h
  · rename_i c
    split at h
    · rename_i ccl cdd vs ccs e
      split at h
      · rename_i x tf e2
        exact ⟨c, rfl, ccl, cdd, vs, ccs, x, tf, e, e2, h⟩
      · cases h
    · cases h
  · cases h
theorem cellB_ok {K : PySem.W.Frag} {C : Addr} {cl : List (Str × Addr)} (h : cellB K C cl = true) : ∃ x cc, cl = [(x, cc)] ∧ ∃ (a : Value) (b : Option Addr) (c : Array (Option Value)), K.lookup cc = some ⟨a, b, .cell (some (.ref C)), c⟩ := by
  unfold cellB at h
  split at h
  · rename_i x cc
    split at h
    · rename_i a b D c e
      cases of_decide_eq_true h
      exact ⟨x, cc, rfl, a, b, c, e⟩
    · cases h
  · cases h
/-- the class and its __init__, as they stand -/
structure IniR (P : Program) (K : PySem.W.Frag) (mg : Str → Option Value) (d : IniD) (C f : Addr) (fd : FuncData) : Prop where
  t : ExcK K C (tlOf d.B) d.newId
  s : ∃ cc cda, IniK P K mg d.w f cc cda C d.B d.initId
  i : PySem.W.findIn K (.ref C) "__init__" = some (some (.ref f))
  ti : PySem.W.typeIn K (.ref f) = some (.type "function")
  lk : ∃ (oc : Value) (od : Option Addr) (osl : Array (Option Value)), K.lookup f = some ⟨oc, od, .func fd, osl⟩
  m : mg d.cls = some (.ref C)
  b : ∃ (cl : List (Str × Addr)) (doc pm cdv ct : Value), fd = PySem.W.fnX d.w.name d.w.qual d.w.params d.w.body d.w.scope cl .none .none doc pm none cdv ct
theorem ini_of {P : Program} {K : PySem.W.Frag} {mg : Str → Option Value} {h : Heap} {d : IniD} (X : K.In h) (G : h.Ns mainGlobals mg) (sup : mg "super" = none) (F : IniF P d) (e : iniObs K d = d.val) (c : iniB K (P.main.file : Str) d = true) : ∃ fd, IniR P K mg d (He.ga K d.cls) (iniAt K d) fd := by
  unfold iniB at c
  simp only [Bool.and_eq_true] at c
  obtain ⟨c1, c2, c3, c4, c5, c6, c7, c8, c9⟩ := c
  unfold iniObs at e
  cases q : K.lookup (iniAt K d) with
  | none =>
    rw [q] at c1
    cases c1
  | some o =>
    obtain ⟨oc, od, dt, osl⟩ := o
    rw [q] at c1 e
    cases dt with
    | func fd =>
      obtain ⟨n1, n2, n3, n4, n5, n6, n7, n8, n9, n10, n11, n12, n13, n14, n15⟩ := fd
      have e2 : (some (n1, n2, n3, n4, n5, n6, n7.map (fun q => q.1), n8, n9, n12, n15) : IniV) = some (d.w.name, d.w.qual, d.w.params, .stmts d.w.body, d.w.scope, mainGlobals, [("__class__" : Str)], .none, .none, none, builtinsNs) := e
      simp only [Option.some.injEq, Prod.mk.injEq] at e2
      obtain ⟨h1, h2, h3, h4, h5, h6, h7, h8, h9, h10, h11⟩ := e2
      subst h1 h2 h3 h4 h5 h6 h8 h9 h10 h11
      have c1' : (PySem.W.codeIn K n13 d.w.qual && (fileB K (P.main.file : Str) n13 && cellB K (He.ga K d.cls) n7)) = true := c1
      simp only [Bool.and_eq_true] at c1'
      obtain ⟨k1, k2, k3⟩ := c1'
      obtain ⟨cda, rfl, code⟩ := fileB_ok k2
      obtain ⟨x, cc, rfl, cell⟩ := cellB_ok k3
      have hx : x = ("__class__" : Str) := by
        have := h7
        simp only [List.map_cons, List.map_nil, List.cons.injEq, and_true] at this
        exact this
      subst hx
      refine ⟨_, clsB_ok c2, ⟨cc, cda, ⟨oc, n10, n11, n14, od, osl, q⟩, k1, code, cell, F.top, sup, F.self, F.kind, F.ksup, F.kcls, F.kself, He.eqO_ok c3, He.eqO_ok c4, of_decide_eq_true c5, of_decide_eq_true c6⟩, He.eqO_ok c7, of_decide_eq_true c8, ⟨oc, od, osl, q⟩, PySem.W.mg_of X G (He.eqO_ok c9), ⟨_, _, _, _, _, rfl⟩⟩
    | _ => cases c1
/-! ## the Hook -/
abbrev AlW : Type := He.AlD × Bool × List IniV
def asW (g : Addr → Option Obj) (n : Nat) : List Addr := cStatics :: He.asD g n
def obsW (file : Str) (fa : List He.Fa) (fn : List He.DefD) (is : List IniD) (ex : PySem.W.Frag → Bool) (K : PySem.W.Frag) : AlW := (He.obsD fa fn K, (is.all (fun d => iniB K file d)) && ex K, is.map fun d => iniObs K d)
def valW (fn : List He.DefD) (is : List IniD) : AlW := (He.valD fn, true, is.map IniD.val)
structure SaysW (file : Str) (fa : List He.Fa) (fn : List He.DefD) (is : List IniD) (ex : PySem.W.Frag → Bool) (K : PySem.W.Frag) : Prop where
  d : He.SaysD fa fn K
  i : ∀ x ∈ is, iniB K file x = true ∧ iniObs K x = x.val
  ex : ex K = true
theorem map_at {α β : Type} {f g : α → β} : ∀ {l : List α}, l.map f = l.map g → ∀ x ∈ l, f x = g x
  | [], _, _, h => nomatch h
  | a :: l, e, x, h => by
    simp only [List.map_cons, List.cons.injEq] at e
    rcases List.mem_cons.mp h with rfl | h
    · exact e.1
    · exact map_at e.2 x h
theorem saysW_of {file : Str} {fa : List He.Fa} {fn : List He.DefD} {is : List IniD} {ex : PySem.W.Frag → Bool} {K : PySem.W.Frag} (e : obsW file fa fn is ex K = valW fn is) : SaysW file fa fn is ex K := by
  have e1 : He.obsD fa fn K = He.valD fn := congrArg (fun z : AlW => z.1) e
  have e2 : ((is.all (fun d => iniB K file d)) && ex K) = true := congrArg (fun z : AlW => z.2.1) e
  have e3 : is.map (fun d => iniObs K d) = is.map IniD.val := congrArg (fun z : AlW => z.2.2) e
  obtain ⟨h1, h2⟩ := He.ba e2
  exact ⟨e1, fun x hx => ⟨List.all_eq_true.mp h1 x hx, map_at e3 x hx⟩, h2⟩
def obsWG (n : Nat) (file : Str) (fa : List He.Fa) (fn : List He.DefD) (is : List IniD) (ex : PySem.W.Frag → Bool) (g : Addr → Option Obj) : AlW := obsW file fa fn is ex (He.frG g (asW g n))
def hookW (n : Nat) (file : Str) (fa : List He.Fa) (fn : List He.DefD) (is : List IniD) (ex : PySem.W.Frag → Bool) : PySem.W.Hook where
  α := AlW
  obs := fun s => obsWG n file fa fn is ex s.heap.get?
  val := fun _ => valW fn is
  says := fun _ h => ∃ K : PySem.W.Frag, K.In h ∧ SaysW file fa fn is ex K
  of := fun _ _ e => ⟨_, He.frG_in, saysW_of e⟩
  keeps := fun _ _ _ ⟨K, hK, c⟩ k => ⟨K, PySem.W.Frag.In.keeps hK k, c⟩
theorem obsWG_eq {n : Nat} {file : Str} {fa : List He.Fa} {fn : List He.DefD} {is : List IniD} {ex : PySem.W.Frag → Bool} {g : Addr → Option Obj} {s : Shared} (h : ∀ a, g a = s.heap.get? a) : obsWG n file fa fn is ex g = (hookW n file fa fn is ex).obs s := by
  have e : g = s.heap.get? := funext h
  rw [e] <;> rfl
/-- what its words bind -/
theorem IniR.binds {P : Program} {K : PySem.W.Frag} {mg : Str → Option Value} {d : IniD} {C f : Addr} {fd : FuncData} {ps : List Str} (R : IniR P K mg d C f fd)
    (h : ∀ (cl : List (Str × Addr)) (doc pm cdv ct : Value) (us : List Value), us.length = ps.length → bindArgs (PySem.W.fnX d.w.name d.w.qual d.w.params d.w.body d.w.scope cl .none .none doc pm none cdv ct) ⟨us, []⟩ = pure (ps.zip us)) : Binds K fd ps [] := by
  obtain ⟨cl, doc, pm, cdv, ct, rfl⟩ := R.b
  exact .all fun us hl => h cl doc pm cdv ct us hl
end Lw

set_option Elab.async false
set_option linter.all false
set_option maxRecDepth 100000
set_option maxHeartbeats 4000000
namespace K12
open PySem PySem.Spec PyProof.Rows L2 Lw
def topS (i : Nat) : Stmt := PySem.Challenge.pw_lastheld_k12_numbers_judged.main.body.getD i (.Pass ⟨0, 0, 0, 0⟩)
abbrev s_kept : Stmt := topS 1
abbrev N_kept : List Str := ["value", "key", "item"]
theorem sc_kept : FnScope N_kept ["value"] (defScope s_kept) := ⟨rfl, rfl, rfl, by decide +kernel, rfl, by decide +kernel, by decide +kernel⟩
abbrev s_is_integer : Stmt := topS 10
abbrev N_is_integer : List Str := ["value"]
theorem sc_is_integer : FnScope N_is_integer ["value"] (defScope s_is_integer) := ⟨rfl, rfl, rfl, by decide +kernel, rfl, by decide +kernel, by decide +kernel⟩
abbrev s_common_divisor : Stmt := topS 12
abbrev N_common_divisor : List Str := ["first", "second"]
theorem sc_common_divisor : FnScope N_common_divisor ["first", "second"] (defScope s_common_divisor) := ⟨rfl, rfl, rfl, by decide +kernel, rfl, by decide +kernel, by decide +kernel⟩
abbrev s_is_number : Stmt := topS 13
abbrev N_is_number : List Str := ["value", "numerator", "denominator", "part"]
theorem sc_is_number : FnScope N_is_number ["value"] (defScope s_is_number) := ⟨rfl, rfl, rfl, by decide +kernel, rfl, by decide +kernel, by decide +kernel⟩
abbrev s_lowest : Stmt := topS 14
abbrev N_lowest : List Str := ["numerator", "denominator", "common", "above", "below"]
theorem sc_lowest : FnScope N_lowest ["numerator", "denominator"] (defScope s_lowest) := ⟨rfl, rfl, rfl, by decide +kernel, rfl, by decide +kernel, by decide +kernel⟩
abbrev s_number : Stmt := topS 15
abbrev N_number : List Str := ["numerator", "denominator"]
theorem sc_number : FnScope N_number ["numerator", "denominator"] (defScope s_number) := ⟨rfl, rfl, rfl, by decide +kernel, rfl, by decide +kernel, by decide +kernel⟩
abbrev s_pot : Stmt := topS 17
abbrev N_pot : List Str := ["_law_script", "_law_k", "_law_digits"]
theorem sc_pot : FnScope N_pot ["_law_script", "_law_k"] (defScope s_pot) := ⟨rfl, rfl, rfl, by decide +kernel, rfl, by decide +kernel, by decide +kernel⟩
abbrev s_draw : Stmt := topS 18
abbrev N_draw : List Str := ["_law_pot_here", "_law_many", "_law_digit"]
theorem sc_draw : FnScope N_draw ["_law_pot_here", "_law_many"] (defScope s_draw) := ⟨rfl, rfl, rfl, by decide +kernel, rfl, by decide +kernel, by decide +kernel⟩
abbrev s_common : Stmt := topS 19
abbrev N_common : List Str := ["_law_a", "_law_b"]
theorem sc_common : FnScope N_common ["_law_a", "_law_b"] (defScope s_common) := ⟨rfl, rfl, rfl, by decide +kernel, rfl, by decide +kernel, by decide +kernel⟩
abbrev s_ratio : Stmt := topS 20
abbrev N_ratio : List Str := ["_law_top", "_law_low", "_law_part"]
theorem sc_ratio : FnScope N_ratio ["_law_top", "_law_low"] (defScope s_ratio) := ⟨rfl, rfl, rfl, by decide +kernel, rfl, by decide +kernel, by decide +kernel⟩
abbrev s_odd : Stmt := topS 21
abbrev N_odd : List Str := ["_law_pot_here", "_law_some"]
theorem sc_odd : FnScope N_odd ["_law_pot_here"] (defScope s_odd) := ⟨rfl, rfl, rfl, by decide +kernel, rfl, by decide +kernel, by decide +kernel⟩
abbrev s_is_ratio : Stmt := topS 22
abbrev N_is_ratio : List Str := ["_law_thing", "_law_part"]
theorem sc_is_ratio : FnScope N_is_ratio ["_law_thing"] (defScope s_is_ratio) := ⟨rfl, rfl, rfl, by decide +kernel, rfl, by decide +kernel, by decide +kernel⟩
abbrev s_whole : Stmt := topS 23
abbrev N_whole : List Str := ["_law_pot_here", "_law_near"]
theorem sc_whole : FnScope N_whole ["_law_pot_here"] (defScope s_whole) := ⟨rfl, rfl, rfl, by decide +kernel, rfl, by decide +kernel, by decide +kernel⟩
abbrev s_made : Stmt := topS 24
abbrev N_made : List Str := ["_law_top", "_law_low", "_law_is_short", "_law_told", "e", "_law_others", "_law_is_right"]
theorem sc_made : FnScope N_made ["_law_top", "_law_low", "_law_is_short"] (defScope s_made) := ⟨rfl, rfl, rfl, by decide +kernel, rfl, by decide +kernel, by decide +kernel⟩
abbrev s_is_whole : Stmt := topS 25
abbrev N_is_whole : List Str := ["_law_thing"]
theorem sc_is_whole : FnScope N_is_whole ["_law_thing"] (defScope s_is_whole) := ⟨rfl, rfl, rfl, by decide +kernel, rfl, by decide +kernel, by decide +kernel⟩
abbrev s_due : Stmt := topS 26
abbrev N_due : List Str := ["_law_top", "_law_low"]
theorem sc_due : FnScope N_due ["_law_top", "_law_low"] (defScope s_due) := ⟨rfl, rfl, rfl, by decide +kernel, rfl, by decide +kernel, by decide +kernel⟩
abbrev s_right : Stmt := topS 27
abbrev N_right : List Str := ["_law_pot_here", "_law_top", "_law_low", "_law_told", "_law_thing", "_law_shown", "_law_due_here"]
theorem sc_right : FnScope N_right ["_law_pot_here"] (defScope s_right) := ⟨rfl, rfl, rfl, by decide +kernel, rfl, by decide +kernel, by decide +kernel⟩
abbrev s_law : Stmt := topS 28
abbrev N_law : List Str := ["_law_script", "_law_k", "_law_pot_here", "_law_turn"]
theorem sc_law : FnScope N_law ["_law_script"] (defScope s_law) := ⟨rfl, rfl, rfl, by decide +kernel, rfl, by decide +kernel, by decide +kernel⟩
abbrev FnP (K : PySem.W.Frag) (x : Str) (st : Stmt) (f : Addr) (fd : FuncData) : Prop := FunD K x x (defArgs st) (defBody st) (defScope st) [] [] f fd
structure Tz (mg : Str → Option Value) : Prop where
  z_isinstance : mg "isinstance" = none
  z_list : mg "list" = none
  z_tuple : mg "tuple" = none
  z_dict : mg "dict" = none
  z_int : mg "int" = none
  z_bool : mg "bool" = none
  z_len : mg "len" = none
  z_all : mg "all" = none
  z_repr : mg "repr" = none
  z_range : mg "range" = none
  z_max : mg "max" = none
  z_min : mg "min" = none
  z_abs : mg "abs" = none
  z_divmod : mg "divmod" = none
  z_ValueError : mg "ValueError" = none
  z_super : mg "super" = none
theorem pos_c {j : Int} (h : 0 < j) : 0 < j := h
section
variable {P : Program} {w : World} {K : PySem.W.Frag} {mg : Str → Option Value} {base : Heap} {f : Addr} {fd : FuncData} {fD : Addr} {fdD : FuncData}
def sp_pot (K : PySem.W.Frag) : Sp := fun vs H Q _ => ∃ (s : Addr) (ns : List Int) (k : Nat), vs = [.ref s, .int k] ∧ SqL K H s (ns.map V.int) ∧ k < 1000 ∧
  ∀ p u v, H p = none → 0 ≤ v → v < 2147483648 → Q (.ref p) (upd H p (.lst [.int u, .int v]))
theorem ok_pot (F : FnP K "_law_pot" s_pot f fd) (T : Tz mg) : FnOk P w K mg base CX0 1 f fd ["_law_script", "_law_k"] (sp_pot K) := by
  refine F.ok sc_pot (fun vs H Q E h => ?_) (fun cdv A outer s H vs Q E hr h => ?_)
  · obtain ⟨a, ns, k, rfl, _⟩ := h
    rfl
  · obtain ⟨a, ns, k, rfl, hS, hk, q⟩ := h
    refine ⟨_, PSs.nox (pss_cons (ps_set (i := 2) sc_pot.nd rfl (Or.inl rfl) (pe_ifExp (pt_cmpR op_lt (pv 1) (pe_callB call_len_seq (by rfl) T.z_len (by decide +kernel) (pa_cons (pv 0) pa_nil)) (nomark _)) (pe_ix ix_list (pv 0) (pv 1) (fun _ _ => rfl)) pe_int))
      (pss_one (ps_ret (pe_lst (pa_cons (pe_callB (call_max2 rfl) (by rfl) T.z_max (by decide +kernel) (pa_cons pe_int (pa_cons (pe_op op_sub (pe_callB call_abs (by rfl) T.z_abs (by decide +kernel) (pa_cons (pv 2) pa_nil)) (pe_op op_pow pe_int pe_int)) pa_nil))) (pa_cons (pe_op op_mod (pe_op op_add (pe_op op_add (pe_op op_mul (pe_op op_mod (pe_callB call_abs (by rfl) T.z_abs (by decide +kernel) (pa_cons (pv 2) pa_nil)) pe_int) pe_int) (pe_op op_mul pe_int (pv 1))) pe_int) pe_int) pa_nil)))))), ?_⟩
    refine ⟨_, rfl, .ref a, rfl, a, _, rfl, .inl hS, _, _, rfl, rfl, _, rfl, ?_⟩
    refine ite2 (fun e => ?_) (fun e => ?_)
    · have e1 : (k : Int) < ((ns.map V.int).length : Nat) := of_decide_eq_true e
      have e2 : k < ns.length := by
        rw [List.length_map] at e1
        omega
      have e3 : (ns.map V.int)[k]? = some (.int ns[k]) := by
        rw [List.getElem?_map, List.getElem?_eq_getElem e2]
        rfl
      refine ⟨.ref a, rfl, .int k, rfl, a, _, _, .int ns[k], rfl, rfl, hS, atI_nat e3, ?_⟩
      refine ⟨.int ns[k], rfl, _, rfl, 10, 18, rfl, rfl, ⟨by decide, by decide, by decide⟩, _, _, rfl, rfl, _, _, rfl, ?_⟩
      refine ⟨.int ns[k], rfl, _, rfl, _, _, rfl, rfl, pos_c (by decide), _, _, rfl, rfl, .inr ⟨by decide, by decide⟩, .int k, rfl, _, _, rfl, rfl, .inl ⟨by decide, by decide⟩, _, _, rfl, rfl, _, _, rfl, rfl, _, _, rfl, rfl, pos_c (by decide), ?_⟩
      exact ⟨by show 2 ≤ sizeLine; decide, fun p np => q p _ _ np (Int.emod_nonneg _ (by decide)) (Int.lt_trans (Int.emod_lt_of_pos _ (by decide)) (by decide))⟩
    · refine ⟨.int 0, rfl, _, rfl, 10, 18, rfl, rfl, ⟨by decide, by decide, by decide⟩, _, _, rfl, rfl, _, _, rfl, ?_⟩
      refine ⟨.int 0, rfl, _, rfl, _, _, rfl, rfl, pos_c (by decide), _, _, rfl, rfl, .inr ⟨by decide, by decide⟩, .int k, rfl, _, _, rfl, rfl, .inl ⟨by decide, by decide⟩, _, _, rfl, rfl, _, _, rfl, rfl, _, _, rfl, rfl, pos_c (by decide), ?_⟩
      exact ⟨by show 2 ≤ sizeLine; decide, fun p np => q p _ _ np (Int.emod_nonneg _ (by decide)) (Int.lt_trans (Int.emod_lt_of_pos _ (by decide)) (by decide))⟩

def sp_draw : Sp := fun vs H Q _ => ∃ (a : Addr) (n : Int), vs = [.ref a, .int n] ∧ PotAt H a ∧ 0 < n ∧ n < 1073741824 ∧
  ∀ r H', 0 ≤ r → r < n → PotAt H' a → Off a H H' → Q (.int r) H'
theorem ok_draw (F : FnP K "_law_draw" s_draw f fd) (T : Tz mg) : FnOk P w K mg base CX0 1 f fd ["_law_pot_here", "_law_many"] sp_draw := by
  refine F.ok sc_draw (fun vs H Q E h => ?_) (fun cdv A outer s H vs Q E hr h => ?_)
  · obtain ⟨a, n, rfl, _⟩ := h
    rfl
  · obtain ⟨a, n, rfl, ⟨x, y, hp, y0, y1⟩, n0, n1, q⟩ := h
    refine ⟨_, PSs.nox (pss_cons (ps_if (pt_cmpR op_gt (pe_ix ix_list (pv 0) pe_int (fun _ _ => rfl)) pe_int (nomark _)) (pss_cons (ps_asg (pe_callB call_divmod (by rfl) T.z_divmod (by decide +kernel) (pa_cons (pe_ix ix_list (pv 0) pe_int (fun _ _ => rfl)) (pa_cons (pv 1) pa_nil))) (pg_tup rfl (pgs_cons (pg_sub (pv 0) pe_int set_list) (pgs_cons (pg_name (i := 2) sc_draw.nd rfl (Or.inl rfl)) pgs_nil))))
      (pss_one (ps_ret (pv 2)))) pss_nil)
      (pss_cons (ps_asg (pe_op op_mod (pe_op op_add (pe_op op_mul (pe_ix ix_list (pv 0) pe_int (fun _ _ => rfl)) pe_int) pe_int) pe_int) (pg_sub (pv 0) pe_int set_list))
      (pss_one (ps_ret (pe_op op_mod (pe_op op_fdiv (pe_op op_mod (pe_op op_mul (pe_ix ix_list (pv 0) pe_int (fun _ _ => rfl)) (pe_ix ix_list (pv 0) pe_int (fun _ _ => rfl))) pe_int) pe_int) (pv 1)))))), ?_⟩
    refine ⟨.ref a, rfl, a, _, 0, .int x, rfl, rfl, .inl (.inl hp), rfl, _, _, rfl, rfl, _, rfl, ite2 (fun e => ?_) (fun e => ?_)⟩
    · have x0 : 0 < x := of_decide_eq_true e
      refine ⟨.ref a, rfl, a, _, 0, .int x, rfl, rfl, .inl (.inl hp), rfl, .int n, rfl, x, n, rfl, ⟨n0, n1⟩, fun t nt => ?_⟩
      have ht : (upd H t (.tup [.int (x / n), .int (x % n)])) a = some (.lst [.int x, .int y]) := by
        rw [upd_ne (ne_of_none hp nt)]
        exact hp
      refine ⟨t, _, rfl, .inl (.inl upd_same), rfl, _, _, rfl, .ref a, rfl, a, _, 0, 0, rfl, rfl, ht, rfl, _, _, rfl, rfl, .int (x % n), rfl, ?_⟩
      exact q _ _ (Int.emod_nonneg _ (by omega)) (Int.emod_lt_of_pos _ n0) ⟨x / n, y, upd_same, y0, y1⟩ ((Off.new nt).trans Off.at)
    · refine ⟨.ref a, rfl, a, _, 1, .int y, rfl, rfl, .inl (.inl hp), rfl, _, _, rfl, rfl, .inr ⟨by decide, by decide⟩, _, _, rfl, rfl, _, _, rfl, rfl, pos_c (by decide), ?_⟩
      refine ⟨.ref a, rfl, a, _, 1, 1, rfl, rfl, hp, rfl, ?_⟩
      have z0 : 0 ≤ (y * 39373 + 12227) % 2147483629 := Int.emod_nonneg _ (by decide)
      have z1 : (y * 39373 + 12227) % 2147483629 < 2147483629 := Int.emod_lt_of_pos _ (by decide)
      refine ⟨.ref a, rfl, a, _, 1, _, rfl, rfl, .inl (.inl upd_same), rfl, .ref a, rfl, a, _, 1, _, rfl, rfl, .inl (.inl upd_same), rfl, _, _, rfl, rfl, .inl ⟨?_, ?_⟩, _, _, rfl, rfl, pos_c (by decide), _, _, rfl, rfl, ⟨by decide, by decide⟩, .int n, rfl, _, _, rfl, rfl, n0, ?_⟩
      · exact Int.lt_of_lt_of_le (by decide) z0
      · exact Int.lt_trans z1 (by decide)
      · exact q _ _ (Int.emod_nonneg _ (by omega)) (Int.emod_lt_of_pos _ n0) ⟨x, _, upd_same, z0, Int.lt_trans z1 (by decide)⟩ Off.at

/-! ### odd -/
def odds1 : List PyData := [.none, .int 0, .int 1, .bool true, .bool false, .str "", .str "A", .str "nineletters", .tuple [], .list [], .dict [], .tuple [.int 1, .int 2], .tuple [.int 2, .int 4], .tuple [.int 3, .int 1], .tuple [.int 1, .int 0], .tuple [.int 1, .int (-2)]]
def odds2 : List PyData := [.tuple [.bool true, .int 2], .list [.int 1, .int 2], .tuple [.int 1, .int 2, .int 3], .tuple [.str "1", .int 2], .tuple [.int 0, .int 2], .tuple [.int (-3), .int 6], .int (-5), .str "a", .str "ab", .str "a b", .str "1", .tuple [.str "a"]]
def odds3 : List PyData := [.tuple [.int 1, .bool true]]
def odds : List PyData := odds1 ++ odds2 ++ odds3
def sp_odd (K : PySem.W.Frag) : Sp := fun vs H Q _ => ∃ a : Addr, vs = [.ref a] ∧ PotAt H a ∧ ∀ v d H', d ∈ odds → Dq K (off H' a) v d → PotAt H' a → Off a H H' → Q v H'
theorem pot_some {H : Hp} {a : Addr} (h : PotAt H a) : H a ≠ none := by
  obtain ⟨x, y, e, _⟩ := h
  rw [e]
  exact fun z => nomatch z
theorem ok_odd (F : FnP K "_law_odd" s_odd f fd) (T : Tz mg) (O_draw : Own P w K mg base CX0 1 "_law_draw" ["_law_pot_here", "_law_many"] sp_draw fD fdD) : FnOk P w K mg base CX0 2 f fd ["_law_pot_here"] (sp_odd K) := by
  refine F.ok sc_odd (fun vs H Q E h => ?_) (fun cdv A outer s H vs Q E hr h => ?_)
  · obtain ⟨a, rfl, _⟩ := h
    rfl
  · obtain ⟨a, rfl, hp, q⟩ := h
    refine ⟨_, PSs.nox (pss_cons (ps_set (i := 1) sc_odd.nd rfl (Or.inl rfl) (pe_lst (pa_cons pe_non (pa_cons pe_int (pa_cons pe_int (pa_cons pe_bl (pa_cons pe_bl (pa_cons pe_str (pa_cons pe_str (pa_cons pe_str (pa_cons (pe_tup pa_nil) (pa_cons (pe_lst pa_nil) (pa_cons pe_dnewK (pa_cons (pe_tup (pa_cons pe_int (pa_cons pe_int pa_nil))) (pa_cons (pe_tup (pa_cons pe_int (pa_cons pe_int pa_nil))) (pa_cons (pe_tup (pa_cons pe_int (pa_cons pe_int pa_nil))) (pa_cons (pe_tup (pa_cons pe_int (pa_cons pe_int pa_nil))) (pa_cons (pe_tup (pa_cons pe_int (pa_cons (pe_un un_neg pe_int) pa_nil))) pa_nil))))))))))))))))))
      (pss_cons (ps_set (i := 1) sc_odd.nd rfl (Or.inl rfl) (pe_op op_cat (pv 1) (pe_lst (pa_cons (pe_tup (pa_cons pe_bl (pa_cons pe_int pa_nil))) (pa_cons (pe_lst (pa_cons pe_int (pa_cons pe_int pa_nil))) (pa_cons (pe_tup (pa_cons pe_int (pa_cons pe_int (pa_cons pe_int pa_nil)))) (pa_cons (pe_tup (pa_cons pe_str (pa_cons pe_int pa_nil))) (pa_cons (pe_tup (pa_cons pe_int (pa_cons pe_int pa_nil))) (pa_cons (pe_tup (pa_cons (pe_un un_neg pe_int) (pa_cons pe_int pa_nil))) (pa_cons (pe_un un_neg pe_int) (pa_cons pe_str (pa_cons pe_str (pa_cons pe_str (pa_cons pe_str (pa_cons (pe_tup (pa_cons pe_str pa_nil)) pa_nil)))))))))))))))
      (pss_one (ps_ret (pe_ix ix_list (pe_op op_cat (pv 1) (pe_lst (pa_cons (pe_tup (pa_cons pe_int (pa_cons pe_bl pa_nil))) pa_nil))) (pe_own O_draw (hr.mono (by decide)) (pa_cons (pv 0) (pa_cons pe_int pa_nil))) (fun _ _ => rfl)))))), ?_⟩
    refine s_lst (ds := odds1) (K := K) ?m1 (by decide) fun v1 H1 t1 s1 l1 d1 n1 => ?_
    case m1 => exact .cons .non (.cons .int (.cons .int (.cons .bl (.cons .bl (.cons .str (.cons .str (.cons .str (.cons (.tup .nil) (.cons (.lst .nil) (.cons .dict (.cons (.tup (.cons .int (.cons .int .nil))) (.cons (.tup (.cons .int (.cons .int .nil))) (.cons (.tup (.cons .int (.cons .int .nil))) (.cons (.tup (.cons .int (.cons .int .nil))) (.cons (.tup (.cons .int (.cons .neg .nil))) .nil)))))))))))))))
    have p1 := (hp.same s1).new (o := .lst v1) n1
    refine e_cat (ds := odds2) (K := K) (t := t1) (xs := v1) ?m2 (by rw [l1]; decide) rfl upd_same fun v2 H2 t2 s2 l2 d2 n2 => ?_
    case m2 => exact .cons (.tup (.cons .bl (.cons .int .nil))) (.cons (.lst (.cons .int (.cons .int .nil))) (.cons (.tup (.cons .int (.cons .int (.cons .int .nil)))) (.cons (.tup (.cons .str (.cons .int .nil))) (.cons (.tup (.cons .int (.cons .int .nil))) (.cons (.tup (.cons .neg (.cons .int .nil))) (.cons .neg (.cons .str (.cons .str (.cons .str (.cons .str (.cons (.tup (.cons .str .nil)) .nil)))))))))))
    have p2 := (p1.same s2).new (o := .lst (v1 ++ v2)) n2
    refine e_cat (ds := odds3) (K := K) (t := t2) (xs := v1 ++ v2) ?m3 (by rw [List.length_append, l1, l2]; decide) rfl upd_same fun v3 H3 t3 s3 l3 d3 n3 => ?_
    case m3 => exact .cons (.tup (.cons .int (.cons .bl .nil))) .nil
    have p3 := (p2.same s3).new (o := .lst (v1 ++ v2 ++ v3)) n3
    have sA : Same H1 H3 := (((same_upd n1).trans s2).trans (same_upd n2)).trans s3
    have sB : Same H2 H3 := (same_upd n2).trans s3
    have sC : Same H H3 := s1.trans sA
    have sD : Same H3 (upd H3 t3 (.lst (v1 ++ v2 ++ v3))) := same_upd n3
    have dd : DqAll K (off H3 a) (v1 ++ v2 ++ v3) odds :=
      dq_app (dq_app (DqAll.same (off_mono sA) (d1 a (pot_some hp))) (DqAll.same (off_mono sB) (d2 a (pot_some p1)))) (d3 a (pot_some p2))
    have ll : (v1 ++ v2 ++ v3).length = 29 := by rw [List.length_append, List.length_append, l1, l2, l3]; rfl
    refine ⟨.ref a, rfl, a, 29, rfl, p3, by decide, by decide, fun r H4 r0 r1 p6 o6 => ?_⟩
    obtain ⟨v, hv, _, ev⟩ := at_in (xs := v1 ++ v2 ++ v3) r0 (by rw [ll]; exact r1)
    obtain ⟨d, hd, dv⟩ := dq_at dd v hv
    refine ⟨t3, _, r, v, rfl, rfl, .inl (.inl (o6.get upd_same ((p2.same s3).ne n3))), ev, ?_⟩
    exact q v d H4 hd (Dq.same ((off_mono sD).trans o6) dv) p6 ((Off.same (sC.trans sD)).trans o6)

end
end K12

set_option Elab.async false
set_option linter.all false
set_option maxRecDepth 100000
set_option maxHeartbeats 4000000
namespace K12
open PySem PySem.Spec PyProof.Rows L2 Lw
section
variable {P : Program} {w : World} {K : PySem.W.Frag} {mg : Str → Option Value} {base : Heap} {f : Addr} {fd : FuncData} {fG : Addr} {fdG : FuncData}

/-! ### common_divisor -/
def sp_gcd : Sp := fun vs H Q _ => ∃ a b : Int, vs = [.int a, .int b] ∧ Q (.int (Int.gcd a b : Int)) H
theorem ok_common_divisor (F : FnP K "common_divisor" s_common_divisor f fd) (T : Tz mg) : FnOk P w K mg base CX0 1 f fd ["first", "second"] sp_gcd := by
  refine F.ok sc_common_divisor (fun vs H Q E h => ?_) (fun cdv A outer s H vs Q E hr h => ?_)
  · obtain ⟨a, b, rfl, _⟩ := h
    rfl
  · obtain ⟨a, b, rfl, q⟩ := h
    refine ⟨_, PSs.nox (pss_cons (ps_while PassesOwn.never (pt_cmpR op_ne (pv 1) pe_int (nomark _)) (pss_one (ps_par (i := 0) (j := 1) (by rfl) sc_common_divisor.nd rfl rfl (by decide) rfl rfl (pa_cons (pv 1) (pa_cons (pe_op op_modN (pv 0) (pv 1)) pa_nil)) (by rfl))))
      (pss_one (ps_ret (pe_callB call_abs (by rfl) T.z_abs (by decide +kernel) (pa_cons (pv 0) pa_nil))))), ?_⟩
    refine ⟨fun m σ H1 => ∃ x y : Int, σ = [some (.int x), some (.int y)] ∧ H1 = H ∧ Int.gcd x y = Int.gcd a b ∧ m = y.natAbs, ⟨_, a, b, rfl, rfl, rfl, rfl⟩, ?_⟩
    rintro m σ H1 ⟨x, y, rfl, rfl, e, rfl⟩
    refine ⟨.int y, rfl, rfl, _, rfl, ?_⟩
    by_cases hy : y = 0
    · subst hy
      refine iteF ⟨.int x, rfl, x, rfl, ?_⟩
      rw [abs_if]
      rw [Int.gcd_zero_right] at e
      rw [e]
      exact q
    · have hne : (!decide (V.int y = V.int 0)) = true := by
        rw [decide_eq_false (fun z => hy (V.int.inj z))]
        rfl
      rw [hne]
      refine ⟨fun σ' H' => ∃ u v : Int, σ' = [some (.int u), some (.int v)] ∧ H' = H1 ∧ Int.gcd u v = Int.gcd a b ∧ v.natAbs < y.natAbs, fun σ' H' hn => ?_, ?_⟩
      · obtain ⟨u, v, e1, e2, e3, e4⟩ := hn
        exact ⟨_, e4, u, v, e1, e2, e3, rfl⟩
      · refine ⟨.int y, rfl, .int x, rfl, .int y, rfl, _, _, rfl, rfl, hy, _, _, rfl, y, x.fmod y, rfl, rfl, ?_, fmod_fall x y hy⟩
        rw [gcd_step, e]
theorem ok_common (F : FnP K "_law_common" s_common f fd) (T : Tz mg) : FnOk P w K mg base CX0 1 f fd ["_law_a", "_law_b"] sp_gcd := by
  refine F.ok sc_common (fun vs H Q E h => ?_) (fun cdv A outer s H vs Q E hr h => ?_)
  · obtain ⟨a, b, rfl, _⟩ := h
    rfl
  · obtain ⟨a, b, rfl, q⟩ := h
    refine ⟨_, PSs.nox (pss_cons (ps_while PassesOwn.never (pt_cmpR op_ne (pv 1) pe_int (nomark _)) (pss_one (ps_par (i := 0) (j := 1) (by rfl) sc_common.nd rfl rfl (by decide) rfl rfl (pa_cons (pv 1) (pa_cons (pe_op op_modN (pv 0) (pv 1)) pa_nil)) (by rfl))))
      (pss_one (ps_ret (pe_callB call_abs (by rfl) T.z_abs (by decide +kernel) (pa_cons (pv 0) pa_nil))))), ?_⟩
    refine ⟨fun m σ H1 => ∃ x y : Int, σ = [some (.int x), some (.int y)] ∧ H1 = H ∧ Int.gcd x y = Int.gcd a b ∧ m = y.natAbs, ⟨_, a, b, rfl, rfl, rfl, rfl⟩, ?_⟩
    rintro m σ H1 ⟨x, y, rfl, rfl, e, rfl⟩
    refine ⟨.int y, rfl, rfl, _, rfl, ?_⟩
    by_cases hy : y = 0
    · subst hy
      refine iteF ⟨.int x, rfl, x, rfl, ?_⟩
      rw [abs_if]
      rw [Int.gcd_zero_right] at e
      rw [e]
      exact q
    · have hne : (!decide (V.int y = V.int 0)) = true := by
        rw [decide_eq_false (fun z => hy (V.int.inj z))]
        rfl
      rw [hne]
      refine ⟨fun σ' H' => ∃ u v : Int, σ' = [some (.int u), some (.int v)] ∧ H' = H1 ∧ Int.gcd u v = Int.gcd a b ∧ v.natAbs < y.natAbs, fun σ' H' hn => ?_, ?_⟩
      · obtain ⟨u, v, e1, e2, e3, e4⟩ := hn
        exact ⟨_, e4, u, v, e1, e2, e3, rfl⟩
      · refine ⟨.int y, rfl, .int x, rfl, .int y, rfl, _, _, rfl, rfl, hy, _, _, rfl, y, x.fmod y, rfl, rfl, ?_, fmod_fall x y hy⟩
        rw [gcd_step, e]

/-! ### lowest -/
def sp_lowest (K : PySem.W.Frag) : Sp := fun vs H Q _ => ∃ n d : Int, vs = [.int n, .int d] ∧ d ≠ 0 ∧ d.natAbs < 2 ^ 1000 ∧ ∀ v H', Same H H' → Fresh K H H' v (lowD n d) → Q v H'
theorem ok_lowest (F : FnP K "lowest" s_lowest f fd) (T : Tz mg) (O_common_divisor : Own P w K mg base CX0 1 "common_divisor" ["first", "second"] sp_gcd fG fdG) : FnOk P w K mg base CX0 2 f fd ["numerator", "denominator"] (sp_lowest K) := by
  refine F.ok sc_lowest (fun vs H Q E h => ?_) (fun cdv A outer s H vs Q E hr h => ?_)
  · obtain ⟨n, d, rfl, _⟩ := h
    rfl
  · obtain ⟨n, d, rfl, hd, hb, q⟩ := h
    refine ⟨_, PSs.nox (pss_cons (ps_set (i := 2) sc_lowest.nd rfl (Or.inl rfl) (pe_own O_common_divisor (hr.mono (by first | decide | omega)) (pa_cons (pv 0) (pa_cons (pv 1) pa_nil))))
      (pss_cons (ps_if (pt_cmpR op_lt (pv 1) pe_int (nomark _)) (pss_one (ps_set (i := 2) sc_lowest.nd rfl (Or.inl rfl) (pe_un un_neg (pv 2)))) pss_nil)
      (pss_cons (ps_set (i := 3) sc_lowest.nd rfl (Or.inl rfl) (pe_op op_fdivG (pv 0) (pv 2)))
      (pss_cons (ps_set (i := 4) sc_lowest.nd rfl (Or.inl rfl) (pe_op op_fdivG (pv 1) (pv 2)))
      (pss_cons (ps_if (pt_cmpR op_eq (pv 4) pe_int (nomark _)) (pss_one (ps_ret (pv 3))) pss_nil)
      (pss_one (ps_ret (pe_tup (pa_cons (pv 3) (pa_cons (pv 4) pa_nil)))))))))), ?_⟩
    have hc0 := lowC_ne (n := n) hd
    have hcb : (lowC n d).natAbs < 2 ^ 1000 := Nat.lt_of_le_of_lt (lowC_le hd) hb
    -- behind the if: common is lowC n d
    have tail : ∀ u : Int, u = lowC n d → (tSeq (tAsg (tOp (rI CDivG fun i j => .int (i.fdiv j)) (tVar 0) (tVar 2)) (gName 3)) (tSeq (tAsg (tOp (rI CDivG fun i j => .int (i.fdiv j)) (tVar 1) (tVar 2)) (gName 4)) (tSeq (tIfS (tTest (tOp rEq (tVar 4) (tC (.int 1)))) (tRet (tVar 3)) tNext) (tRet (tTup (tCons (tVar 3) (tCons (tVar 4) tNil))))))) { nx := fun _ H' => Q .non H', rt := Q } [some (.int n), some (.int d), some (.int u), none, none] H := by
      rintro u rfl
      refine ⟨.int n, rfl, .int (lowC n d), rfl, _, _, rfl, rfl, ⟨hc0, hcb⟩, .int d, rfl, .int (lowC n d), rfl, _, _, rfl, rfl, ⟨hc0, hcb⟩, _, rfl, rfl, _, rfl, ?_⟩
      by_cases h1 : d.fdiv (lowC n d) = 1
      · rw [decide_eq_true (congrArg V.int h1)]
        refine iteT ⟨_, rfl, q _ H (Same.refl H) ?_⟩
        unfold lowD
        rw [if_pos h1]
        exact Dq.int _
      · rw [decide_eq_false (fun z => h1 (V.int.inj z))]
        refine iteF ⟨_, rfl, _, rfl, by show 2 ≤ sizeLine; decide, fun t nt => q _ _ (same_upd nt) ?_⟩
        unfold lowD
        rw [if_neg h1]
        exact Dq.tup (.inl (.inl ((nw_at nt).trans upd_same))) (.cons (.int _) (.cons (.int _) .nil))
    refine ⟨.int n, rfl, .int d, rfl, n, d, rfl, .int d, rfl, _, _, rfl, rfl, _, rfl, ite2 (fun e => ?_) (fun e => ?_)⟩
    · have e1 : d < 0 := of_decide_eq_true e
      refine ⟨_, rfl, _, rfl, ?_⟩
      refine tail _ ?_
      unfold lowC
      rw [if_pos e1]
    · have e1 : ¬ d < 0 := fun z => e (decide_eq_true z)
      refine tail _ ?_
      unfold lowC
      rw [if_neg e1]

/-! ### ratio -/
theorem ok_ratio (F : FnP K "_law_ratio" s_ratio f fd) (T : Tz mg) (O_common : Own P w K mg base CX0 1 "_law_common" ["_law_a", "_law_b"] sp_gcd fG fdG) : FnOk P w K mg base CX0 2 f fd ["_law_top", "_law_low"] (sp_lowest K) := by
  refine F.ok sc_ratio (fun vs H Q E h => ?_) (fun cdv A outer s H vs Q E hr h => ?_)
  · obtain ⟨n, d, rfl, _⟩ := h
    rfl
  · obtain ⟨n, d, rfl, hd, hb, q⟩ := h
    refine ⟨_, PSs.nox (pss_cons (ps_if (pt_cmpR op_lt (pv 1) pe_int (nomark _)) (pss_one (ps_par (i := 0) (j := 1) (by rfl) sc_ratio.nd rfl rfl (by decide) rfl rfl (pa_cons (pe_un un_neg (pv 0)) (pa_cons (pe_un un_neg (pv 1)) pa_nil)) (by rfl))) pss_nil)
      (pss_cons (ps_set (i := 2) sc_ratio.nd rfl (Or.inl rfl) (pe_own O_common (hr.mono (by first | decide | omega)) (pa_cons (pv 0) (pa_cons (pv 1) pa_nil))))
      (pss_one (ps_ret (pe_ifExp (pt_cmpR op_eq (pv 1) (pv 2) (nomark _)) (pe_op op_fdivG (pv 0) (pv 2)) (pe_tup (pa_cons (pe_op op_fdivG (pv 0) (pv 2)) (pa_cons (pe_op op_fdivG (pv 1) (pv 2)) pa_nil)))))))), ?_⟩
    have hl0 : ratL d ≠ 0 := by
      unfold ratL
      split <;> omega
    have hlb : (ratL d).natAbs < 2 ^ 1000 := by
      unfold ratL
      split <;> omega
    have gp := gcd_pos (n := ratN n d) hl0
    have gl := gcd_le (n := ratN n d) hl0
    have g0 : (Int.gcd (ratN n d) (ratL d) : Int) ≠ 0 := by omega
    have gb : (Int.gcd (ratN n d) (ratL d) : Int).natAbs < 2 ^ 1000 := by omega
    have tail : ∀ x y : Int, x = ratN n d → y = ratL d → (tSeq (tAsg (tCall sp_gcd [] E0 (tCons (tVar 0) (tCons (tVar 1) tNil))) (gName 2)) (tRet (tIf (tTest (tOp rEq (tVar 1) (tVar 2))) (tOp (rI CDivG fun i j => .int (i.fdiv j)) (tVar 0) (tVar 2)) (tTup (tCons (tOp (rI CDivG fun i j => .int (i.fdiv j)) (tVar 0) (tVar 2)) (tCons (tOp (rI CDivG fun i j => .int (i.fdiv j)) (tVar 1) (tVar 2)) tNil)))))) { nx := fun _ H' => Q .non H', rt := Q } [some (.int x), some (.int y), none] H := by
      rintro x y rfl rfl
      refine ⟨_, rfl, _, rfl, ratN n d, ratL d, rfl, _, rfl, _, rfl, rfl, _, rfl, ?_⟩
      rw [← ratD_eq hd] at q
      by_cases h1 : ratL d = (Int.gcd (ratN n d) (ratL d) : Int)
      · rw [decide_eq_true (congrArg V.int h1)]
        refine iteT ⟨_, rfl, _, rfl, _, _, rfl, rfl, ⟨g0, gb⟩, q _ H (Same.refl H) ?_⟩
        unfold ratD
        rw [if_pos h1]
        exact Dq.int _
      · rw [decide_eq_false (fun z => h1 (V.int.inj z))]
        refine iteF ⟨_, rfl, _, rfl, _, _, rfl, rfl, ⟨g0, gb⟩, _, rfl, _, rfl, _, _, rfl, rfl, ⟨g0, gb⟩, by show 2 ≤ sizeLine; decide, fun t nt => q _ _ (same_upd nt) ?_⟩
        unfold ratD
        rw [if_neg h1]
        exact Dq.tup (.inl (.inl ((nw_at nt).trans upd_same))) (.cons (.int _) (.cons (.int _) .nil))
    refine ⟨.int d, rfl, _, _, rfl, rfl, _, rfl, ite2 (fun e => ?_) (fun e => ?_)⟩
    · have e1 : d < 0 := of_decide_eq_true e
      refine ⟨_, rfl, _, rfl, _, rfl, _, rfl, _, _, rfl, ?_⟩
      refine tail _ _ ?_ ?_
      · unfold ratN
        rw [if_pos e1]
      · unfold ratL
        rw [if_pos e1]
    · have e1 : ¬ d < 0 := fun z => e (decide_eq_true z)
      refine tail _ _ ?_ ?_
      · unfold ratN
        rw [if_neg e1]
      · unfold ratL
        rw [if_neg e1]
end
end K12

set_option Elab.async false
set_option linter.all false
set_option maxRecDepth 100000
set_option maxHeartbeats 4000000
namespace K12
open PySem PySem.Spec PyProof.Rows L2 Lw
section
variable {P : Program} {w : World} {K : PySem.W.Frag} {mg : Str → Option Value} {base : Heap} {f : Addr} {fd : FuncData} {fD fG fI : Addr} {fdD fdG fdI : FuncData}
def isT : PyData → Bool
  | .tuple _ => true
  | _ => false
def isL : PyData → Bool
  | .list _ => true
  | _ => false
def isDc : PyData → Bool
  | .dict _ => true
  | _ => false
def isI : PyData → Bool
  | .int _ => true
  | .bool _ => true
  | _ => false
def isB : PyData → Bool
  | .bool _ => true
  | _ => false
theorem kit_tuple (d : PyData) : kitB (tyD d) "tuple" = some (isT d) := by
  cases d
  all_goals
    simp only [tyD, isT]
    decide +kernel
theorem kit_list (d : PyData) : kitB (tyD d) "list" = some (isL d) := by
  cases d
  all_goals
    simp only [tyD, isL]
    decide +kernel
theorem kit_dict (d : PyData) : kitB (tyD d) "dict" = some (isDc d) := by
  cases d
  all_goals
    simp only [tyD, isDc]
    decide +kernel
theorem kit_int (d : PyData) : kitB (tyD d) "int" = some (isI d) := by
  cases d
  all_goals
    simp only [tyD, isI]
    decide +kernel
theorem kit_bool (d : PyData) : kitB (tyD d) "bool" = some (isB d) := by
  cases d
  all_goals
    simp only [tyD, isB]
    decide +kernel
def intD (d : PyData) : Bool := isI d && !isB d
theorem intD_int {d : PyData} (h : intD d = true) : ∃ i, d = .int i := by
  cases d with
  | int i => exact ⟨i, rfl⟩
  | _ => cases h

/-! ### is_integer, is_whole -/
def sp_int (K : PySem.W.Frag) : Sp := fun vs H Q _ => ∃ (v : V) (d : PyData), vs = [v] ∧ Dq K H v d ∧ Q (.bl (intD d)) H
theorem ok_is_integer (F : FnP K "is_integer" s_is_integer f fd) (T : Tz mg) : FnOk P w K mg base CX0 1 f fd ["value"] (sp_int K) := by
  refine F.ok sc_is_integer (fun vs H Q E h => ?_) (fun cdv A outer s H vs Q E hr h => ?_)
  · obtain ⟨v, d, rfl, _⟩ := h
    rfl
  · obtain ⟨v, d, rfl, hd, q⟩ := h
    refine ⟨_, PSs.nox (pss_one (ps_ret (pe_and (pe_callB call_isi (by rfl) T.z_isinstance (by decide +kernel) (pa_cons (pv 0) (pa_cons (pe_bltn (v := .ty "int") (by rfl) T.z_int (by decide +kernel) rfl) pa_nil))) (pe_one (pe_not (pe_callB call_isi (by rfl) T.z_isinstance (by decide +kernel) (pa_cons (pv 0) (pa_cons (pe_bltn (v := .ty "bool") (by rfl) T.z_bool (by decide +kernel) rfl) pa_nil)))))))), ?_⟩
    refine ⟨v, rfl, v, .ty "int", _, _, _, rfl, .ty _, hd.ty, kit_ty (kit_int d), _, rfl, ite2 (fun e => ?_) (fun e => ?_)⟩
    · refine ⟨v, rfl, v, .ty "bool", _, _, _, rfl, .ty _, hd.ty, kit_ty (kit_bool d), _, rfl, ?_⟩
      unfold intD at q
      rw [e, Bool.true_and] at q
      exact q
    · unfold intD at q
      rw [Bool.eq_false_iff.mpr e, Bool.false_and] at q
      exact q
theorem ok_is_whole (F : FnP K "_law_is_whole" s_is_whole f fd) (T : Tz mg) : FnOk P w K mg base CX0 1 f fd ["_law_thing"] (sp_int K) := by
  refine F.ok sc_is_whole (fun vs H Q E h => ?_) (fun cdv A outer s H vs Q E hr h => ?_)
  · obtain ⟨v, d, rfl, _⟩ := h
    rfl
  · obtain ⟨v, d, rfl, hd, q⟩ := h
    refine ⟨_, PSs.nox (pss_one (ps_ret (pe_and (pe_callB call_isi (by rfl) T.z_isinstance (by decide +kernel) (pa_cons (pv 0) (pa_cons (pe_bltn (v := .ty "int") (by rfl) T.z_int (by decide +kernel) rfl) pa_nil))) (pe_one (pe_not (pe_callB call_isi (by rfl) T.z_isinstance (by decide +kernel) (pa_cons (pv 0) (pa_cons (pe_bltn (v := .ty "bool") (by rfl) T.z_bool (by decide +kernel) rfl) pa_nil)))))))), ?_⟩
    refine ⟨v, rfl, v, .ty "int", _, _, _, rfl, .ty _, hd.ty, kit_ty (kit_int d), _, rfl, ite2 (fun e => ?_) (fun e => ?_)⟩
    · refine ⟨v, rfl, v, .ty "bool", _, _, _, rfl, .ty _, hd.ty, kit_ty (kit_bool d), _, rfl, ?_⟩
      unfold intD at q
      rw [e, Bool.true_and] at q
      exact q
    · unfold intD at q
      rw [Bool.eq_false_iff.mpr e, Bool.false_and] at q
      exact q

/-! ### is_number -/
def ratioB : List PyData → Bool
  | [.int n, .int e] => decide (2 ≤ e) && decide (Int.gcd n e = 1)
  | _ => false
def numD : PyData → Bool
  | .tuple ds => ratioB ds
  | d => intD d
theorem ratio_len {ds : List PyData} (h : ds.length ≠ 2) : ratioB ds = false := by
  match ds with
  | [] => rfl
  | [a] => cases a <;> rfl
  | [a, b] => exact absurd rfl h
  | a :: b :: c :: r => cases a <;> cases b <;> rfl
theorem ratio_all {ds : List PyData} (h : ds.all intD = false) : ratioB ds = false := by
  match ds with
  | [] => rfl
  | [a] => cases a <;> rfl
  | [a, b] =>
    cases a <;> cases b <;> first | rfl | (exact Bool.noConfusion (show true = false from h))
  | a :: b :: c :: r => cases a <;> cases b <;> rfl
theorem two_ints {K : PySem.W.Frag} {H : Hp} {vs : List V} {ds : List PyData} (g : DqAll K H vs ds) (hl : ds.length = 2) (ha : ds.all intD = true) : ∃ n e : Int, ds = [.int n, .int e] ∧ vs = [.int n, .int e] := by
  match ds, hl with
  | [a, b], _ =>
    simp only [List.all_cons, List.all_nil, Bool.and_true, Bool.and_eq_true] at ha
    obtain ⟨n, rfl⟩ := intD_int ha.1
    obtain ⟨e, rfl⟩ := intD_int ha.2
    cases g with
    | cons h1 g =>
      cases g with
      | cons h2 g =>
        cases g
        cases h1
        cases h2
        exact ⟨n, e, rfl, rfl⟩
theorem take_map {ds : List PyData} {i : Nat} {d : PyData} {g : PyData → Bool} (h : ds[i]? = some d) : ((ds.take (i + 1)).map g) = ((ds.take i).map g) ++ [g d] := by
  rw [List.take_add_one, h, List.map_append]
  rfl
def Lean_ (d : PyData) : Prop := ∀ ds, d = .tuple ds → ds.length ≤ 900
def sp_num (K : PySem.W.Frag) : Sp := fun vs H Q _ => ∃ (v : V) (d : PyData), vs = [v] ∧ Dq K H v d ∧ Lean_ d ∧ ∀ H', Same H H' → Q (.bl (numD d)) H'
theorem ok_is_number (F : FnP K "is_number" s_is_number f fd) (T : Tz mg) (O_is_integer : Own P w K mg base CX0 1 "is_integer" ["value"] (sp_int K) fI fdI) (O_common_divisor : Own P w K mg base CX0 1 "common_divisor" ["first", "second"] sp_gcd fG fdG) :
    FnOk P w K mg base CX0 2 f fd ["value"] (sp_num K) := by
  refine F.ok sc_is_number (fun vs H Q E h => ?_) (fun cdv A outer s H vs Q E hr h => ?_)
  · obtain ⟨v, d, rfl, _⟩ := h
    rfl
  · obtain ⟨v, d, rfl, hd, hn, q⟩ := h
    refine ⟨_, PSs.nox (pss_cons (ps_if (pt_not (pt_val (pe_callB call_isi (by rfl) T.z_isinstance (by decide +kernel) (pa_cons (pv 0) (pa_cons (pe_bltn (v := .ty "tuple") (by rfl) T.z_tuple (by decide +kernel) rfl) pa_nil))))) (pss_one (ps_ret (pe_own O_is_integer (hr.mono (by first | decide | omega)) (pa_cons (pv 0) pa_nil)))) pss_nil)
      (pss_cons (ps_if (PW.pt (pw_or (pt_cmpR op_ne (pe_callB call_len_seq (by rfl) T.z_len (by decide +kernel) (pa_cons (pv 0) pa_nil)) pe_int (nomark _)) (pw_or1 (pt_not (pt_val (pe_callB (cr_all rfl) (by rfl) T.z_all (by decide +kernel) (pa_cons (pe_lc (own := [("part", 3)]) (g := gName 3) (tt := tYes) rfl sc_is_number.nd (pi_tup (pv 0)) (blkOk_by (own := [("part", 3)]) (N := N_is_number) (sc := defScope s_is_number) (by decide +kernel)) (fun _ _ _ _ _ => pg_name (i := 3) sc_is_number.nd rfl (Or.inl rfl)) (fun _ _ _ _ _ => pts_nil) (fun _ _ _ _ _ => (pe_own O_is_integer (hr.mono (by first | decide | omega)) (pa_cons (pv 3) pa_nil)))) pa_nil))))))) (pss_one (ps_ret pe_bl)) pss_nil)
      (pss_cons (ps_asg (pv 0) (pg_tup rfl (pgs_cons (pg_name (i := 1) sc_is_number.nd rfl (Or.inl rfl)) (pgs_cons (pg_name (i := 2) sc_is_number.nd rfl (Or.inl rfl)) pgs_nil))))
      (pss_one (ps_ret (pe_and (pe_cmpR op_ge (pv 2) pe_int (nomark _)) (pe_one (pe_cmpR op_eq (pe_own O_common_divisor (hr.mono (by first | decide | omega)) (pa_cons (pv 1) (pa_cons (pv 2) pa_nil))) pe_int (nomark _))))))))), ?_⟩
    refine ⟨v, rfl, v, .ty "tuple", _, _, _, rfl, .ty _, hd.ty, kit_ty (kit_tuple d), _, rfl, ?_⟩
    cases hd with
    | @tup a xs ds h g =>
      refine iteF ?_
      have le := dq_len g
      have l9 := hn ds rfl
      refine ⟨.ref a, rfl, a, xs, rfl, .inr h, rfl, _, rfl, ite2 (fun e => ?_) (fun e => ?_)⟩
      · have e2 : ds.length ≠ 2 := fun z => by
          rw [le, z] at e
          exact absurd e (by decide)
        have en : numD (.tuple ds) = false := ratio_len e2
        rw [en] at q
        exact q H (Same.refl H)
      · have e2 : ds.length = 2 := by
          rw [le] at e
          refine Classical.byContradiction fun z => e ?_
          rw [decide_eq_false (fun y => z (by have := V.int.inj y; omega))]
          rfl
        refine ⟨.ref a, rfl, a, rfl, ⟨_, h⟩, fun D nD => ?_⟩
        refine lc_tup (K := K) (a := a) (xs := xs) (fun i H2 => Same H H2 ∧ H2 D = some (.lst (((ds.take i).map intD).map V.bl))) ⟨same_upd nD, upd_same⟩ (fun i H2 _ hp => same_t hp.1 h) ?_ ?_
        · rintro i x H2 hx ⟨s2, e3⟩
          obtain ⟨dx, hdx, dqx⟩ := dq_get g hx
          refine ⟨rfl, x, rfl, x, dx, rfl, dqx.same s2, _, e3, ?_, fun b o eb => ?_, ?_⟩
          · rw [List.length_map, List.length_map, List.length_take]
            exact small1000 (by omega)
          · rw [upd_ne (ne_of_none eb nD)]
            exact s2 _ _ eb
          · rw [upd_same, take_map hdx, List.map_append]
            rfl
        · rintro H2 ⟨s2, e3⟩
          refine ⟨D, _, rfl, .inl (.inl e3), _, rfl, ?_⟩
          rw [List.all_map, List.take_of_length_le (Nat.le_of_eq le.symm)]
          have ei : (ds.all (id ∘ intD)) = ds.all intD := rfl
          rw [ei]
          by_cases ha : ds.all intD = true
          · rw [ha]
            refine iteF ?_
            obtain ⟨n, m, rfl, rfl⟩ := two_ints g e2 ha
            refine ⟨.ref a, rfl, a, _, rfl, same_t s2 h, rfl, _, _, rfl, _, _, rfl, rfl, ?_⟩
            refine ⟨.int m, rfl, _, _, rfl, rfl, _, rfl, ite2 (fun e4 => ?_) (fun e4 => ?_)⟩
            · refine ⟨.int n, rfl, .int m, rfl, n, m, rfl, rfl, ?_⟩
              have en : numD (.tuple [.int n, .int m]) = decide (V.int (Int.gcd n m : Int) = V.int 1) := by
                show (decide (2 ≤ m) && decide (Int.gcd n m = 1)) = _
                rw [e4, Bool.true_and]
                by_cases h1 : Int.gcd n m = 1
                · rw [decide_eq_true h1, decide_eq_true (by rw [h1]; rfl)]
                · rw [decide_eq_false h1, decide_eq_false (fun z => h1 (by have := V.int.inj z; omega))]
              rw [← en]
              exact q H2 s2
            · have en : numD (.tuple [.int n, .int m]) = false := by
                show (decide (2 ≤ m) && decide (Int.gcd n m = 1)) = _
                rw [Bool.eq_false_iff.mpr e4, Bool.false_and]
              rw [en] at q
              exact q H2 s2
          · rw [Bool.eq_false_iff.mpr ha]
            have en : numD (.tuple ds) = false := ratio_all (Bool.eq_false_iff.mpr ha)
            rw [en] at q
            exact iteT (q H2 s2)
    | non => exact ⟨_, rfl, _, _, rfl, .non, q H (Same.refl H)⟩
    | bl b => exact ⟨_, rfl, _, _, rfl, .bl b, q H (Same.refl H)⟩
    | int i => exact ⟨_, rfl, _, _, rfl, .int i, q H (Same.refl H)⟩
    | str z => exact ⟨_, rfl, _, _, rfl, .str z, q H (Same.refl H)⟩
    | lst h g => exact ⟨_, rfl, _, _, rfl, .lst h g, q H (Same.refl H)⟩
    | dic h => exact ⟨_, rfl, _, _, rfl, .dic h, q H (Same.refl H)⟩
end
end K12

set_option Elab.async false
set_option linter.all false
set_option maxRecDepth 100000
set_option maxHeartbeats 4000000
namespace K12
open PySem PySem.Spec PyProof.Rows L2 Lw
section
variable {P : Program} {w : World} {K : PySem.W.Frag} {mg : Str → Option Value} {base : Heap} {f : Addr} {fd : FuncData} {fD fG fI : Addr} {fdD fdG fdI : FuncData}

/-! ### whole -/
def sp_whole : Sp := fun vs H Q _ => ∃ a : Addr, vs = [.ref a] ∧ PotAt H a ∧ ∀ i H', i.natAbs < 2 ^ 900 → PotAt H' a → Off a H H' → Q (.int i) H'
theorem ok_whole (F : FnP K "_law_whole" s_whole f fd) (T : Tz mg) (O_draw : Own P w K mg base CX0 1 "_law_draw" ["_law_pot_here", "_law_many"] sp_draw fD fdD) : FnOk P w K mg base CX0 2 f fd ["_law_pot_here"] sp_whole := by
  refine F.ok sc_whole (fun vs H Q E h => ?_) (fun cdv A outer s H vs Q E hr h => ?_)
  · obtain ⟨a, rfl, _⟩ := h
    rfl
  · obtain ⟨a, rfl, hp, q⟩ := h
    refine ⟨_, PSs.nox (pss_cons (ps_set (i := 1) sc_whole.nd rfl (Or.inl rfl) (pe_ix ix_list (pe_lst (pa_cons pe_int (pa_cons pe_int (pa_cons pe_int (pa_cons pe_int (pa_cons pe_int (pa_cons pe_int (pa_cons (pe_un un_neg pe_int) (pa_cons (pe_un un_neg pe_int) (pa_cons pe_int (pa_cons (pe_op op_pow pe_int pe_int) pa_nil))))))))))) (pe_own O_draw (hr.mono (by first | decide | omega)) (pa_cons (pv 0) (pa_cons pe_int pa_nil))) (fun _ _ => rfl)))
      (pss_one (ps_ret (pe_op op_add (pe_op op_mul (pv 1) (pe_op op_add pe_int (pe_own O_draw (hr.mono (by first | decide | omega)) (pa_cons (pv 0) (pa_cons pe_int pa_nil))))) (pe_ix ix_list (pe_lst (pa_cons pe_int (pa_cons pe_int (pa_cons pe_int (pa_cons (pe_own O_draw (hr.mono (by first | decide | omega)) (pa_cons (pv 0) (pa_cons (pe_op op_pow pe_int pe_int) pa_nil))) pa_nil))))) (pe_own O_draw (hr.mono (by first | decide | omega)) (pa_cons (pv 0) (pa_cons pe_int pa_nil))) (fun _ _ => rfl)))))), ?_⟩
    refine ⟨1, rfl, 6, rfl, 10, 40, rfl, rfl, ⟨by decide, by decide, by decide⟩, by show 10 ≤ sizeLine; decide, fun l nl => ?_⟩
    refine ⟨.ref a, rfl, a, 10, rfl, hp.new nl, by decide, by decide, fun r H1 r0 r1 p1 o1 => ?_⟩
    obtain ⟨v, hv, _, ev⟩ := at_in (xs := [V.int 0, .int 1, .int 2, .int 3, .int 4, .int 6, .int (-1), .int (-6), .int 12, .int (10 ^ (40 : Int).toNat)]) r0 r1
    have hi : ∃ i : Int, v = .int i ∧ i.natAbs ≤ 10 ^ 40 := by
      simp only [List.mem_cons, List.not_mem_nil, or_false] at hv
      rcases hv with rfl | rfl | rfl | rfl | rfl | rfl | rfl | rfl | rfl | rfl
      all_goals exact ⟨_, rfl, by decide +kernel⟩
    obtain ⟨i, rfl, hi⟩ := hi
    refine ⟨l, _, r, _, rfl, rfl, .inl (.inl (o1.get upd_same (hp.ne nl))), ev, ?_⟩
    have o1' : Off a H H1 := (Off.new nl).trans o1
    refine ⟨.int i, rfl, .ref a, rfl, a, 5, rfl, p1, by decide, by decide, fun m H2 m0 m1 p2 o2 => ⟨_, _, rfl, rfl, _, _, rfl, rfl, .inr ⟨by omega, by omega⟩, ?_⟩⟩
    refine ⟨.ref a, rfl, 10, 6, rfl, rfl, ⟨by decide, by decide, by decide⟩, a, _, rfl, p2, by decide, by decide, fun k H3 k0 k1 p3 o3 => ?_⟩
    refine ⟨by show 4 ≤ sizeLine; decide, fun l2 nl2 => ?_⟩
    refine ⟨.ref a, rfl, a, 4, rfl, p3.new nl2, by decide, by decide, fun r2 H4 r20 r21 p4 o4 => ?_⟩
    obtain ⟨v2, hv2, _, ev2⟩ := at_in (xs := [V.int 0, .int 0, .int 1, .int k]) r20 r21
    have hi2 : ∃ i2 : Int, v2 = .int i2 ∧ 0 ≤ i2 ∧ i2 ≤ 10 ^ 6 := by
      have hk : k < 10 ^ 6 := k1
      simp only [List.mem_cons, List.not_mem_nil, or_false] at hv2
      rcases hv2 with rfl | rfl | rfl | rfl
      · exact ⟨_, rfl, by decide, by decide⟩
      · exact ⟨_, rfl, by decide, by decide⟩
      · exact ⟨_, rfl, by decide, by decide⟩
      · exact ⟨_, rfl, k0, by omega⟩
    obtain ⟨i2, rfl, i20, i21⟩ := hi2
    refine ⟨l2, _, r2, _, rfl, rfl, .inl (.inl (o4.get upd_same (p3.ne nl2))), ev2, _, _, rfl, rfl, ?_⟩
    refine q _ _ ?_ p4 ((((o1'.trans o2).trans o3).trans (Off.new nl2)).trans o4)
    have h5 : (i * (1 + m)).natAbs ≤ 10 ^ 40 * 6 := by
      rw [Int.natAbs_mul]
      exact Nat.mul_le_mul hi (by omega)
    have h3 : (i * (1 + m) + i2).natAbs ≤ (i * (1 + m)).natAbs + i2.natAbs := Int.natAbs_add_le _ _
    have h4 : (10 : Nat) ^ 40 * 6 + 10 ^ 6 < 2 ^ 900 := by decide +kernel
    have h6 : i2.natAbs ≤ 10 ^ 6 := by omega
    omega

/-! ### is_ratio -/
theorem ok_is_ratio (F : FnP K "_law_is_ratio" s_is_ratio f fd) (T : Tz mg) (O_common : Own P w K mg base CX0 1 "_law_common" ["_law_a", "_law_b"] sp_gcd fG fdG) : FnOk P w K mg base CX0 2 f fd ["_law_thing"] (sp_num K) := by
  refine F.ok sc_is_ratio (fun vs H Q E h => ?_) (fun cdv A outer s H vs Q E hr h => ?_)
  · obtain ⟨v, d, rfl, _⟩ := h
    rfl
  · obtain ⟨v, d, rfl, hd, hn, q⟩ := h
    refine ⟨_, PSs.nox (pss_cons (ps_if (pt_val (pe_callB call_isi (by rfl) T.z_isinstance (by decide +kernel) (pa_cons (pv 0) (pa_cons (pe_bltn (v := .ty "int") (by rfl) T.z_int (by decide +kernel) rfl) pa_nil)))) (pss_one (ps_ret (pe_not (pe_callB call_isi (by rfl) T.z_isinstance (by decide +kernel) (pa_cons (pv 0) (pa_cons (pe_bltn (v := .ty "bool") (by rfl) T.z_bool (by decide +kernel) rfl) pa_nil)))))) pss_nil)
      (pss_cons (ps_if (PW.pt (pw_or (pt_not (pt_val (pe_callB call_isi (by rfl) T.z_isinstance (by decide +kernel) (pa_cons (pv 0) (pa_cons (pe_bltn (v := .ty "tuple") (by rfl) T.z_tuple (by decide +kernel) rfl) pa_nil))))) (pw_or1 (pt_cmpR op_ne (pe_callB call_len_seq (by rfl) T.z_len (by decide +kernel) (pa_cons (pv 0) pa_nil)) pe_int (nomark _))))) (pss_one (ps_ret pe_bl)) pss_nil)
      (pss_cons (ps_if (pt_not (pt_val (pe_callB (cr_all rfl) (by rfl) T.z_all (by decide +kernel) (pa_cons (pe_lc (own := [("_law_part", 1)]) (g := gName 1) (tt := tYes) rfl sc_is_ratio.nd (pi_tup (pv 0)) (blkOk_by (own := [("_law_part", 1)]) (N := N_is_ratio) (sc := defScope s_is_ratio) (by decide +kernel)) (fun _ _ _ _ _ => pg_name (i := 1) sc_is_ratio.nd rfl (Or.inl rfl)) (fun _ _ _ _ _ => pts_nil) (fun _ _ _ _ _ => (pe_and (pe_callB (show CallR _ _ (rIsi K) from call_isi) (by rfl) T.z_isinstance (by decide +kernel) (pa_cons (pv 1) (pa_cons (pe_bltn (v := .ty "int") (by rfl) T.z_int (by decide +kernel) rfl) pa_nil))) (pe_one (pe_not (pe_callB (show CallR _ _ (rIsi K) from call_isi) (by rfl) T.z_isinstance (by decide +kernel) (pa_cons (pv 1) (pa_cons (pe_bltn (v := .ty "bool") (by rfl) T.z_bool (by decide +kernel) rfl) pa_nil)))))))) pa_nil)))) (pss_one (ps_ret pe_bl)) pss_nil)
      (pss_one (ps_ret (pe_and (pe_cmpR op_gt (pe_ix ix_tup (pv 0) pe_int (fun _ _ => rfl)) pe_int (nomark _)) (pe_one (pe_cmpR op_eq (pe_own O_common (hr.mono (by first | decide | omega)) (pa_cons (pe_ix ix_tup (pv 0) pe_int (fun _ _ => rfl)) (pa_cons (pe_ix ix_tup (pv 0) pe_int (fun _ _ => rfl)) pa_nil))) pe_int (nomark _))))))))), ?_⟩
    refine ⟨v, rfl, v, .ty "int", _, _, _, rfl, .ty _, hd.ty, kit_ty (kit_int d), _, rfl, ?_⟩
    have other : isI d = false → numD d = ratioB (match d with | .tuple ds => ds | _ => []) := by
      intro z
      cases d <;> first | rfl | cases z
    by_cases hi : isI d = true
    · rw [hi]
      refine ⟨v, rfl, v, .ty "bool", _, _, _, rfl, .ty _, hd.ty, kit_ty (kit_bool d), _, rfl, ?_⟩
      have en : numD d = !isB d := by
        cases d <;> first | rfl | cases hi
      rw [en] at q
      exact q H (Same.refl H)
    · have hi0 : isI d = false := Bool.eq_false_iff.mpr hi
      rw [hi0]
      refine ⟨v, rfl, v, .ty "tuple", _, _, _, rfl, .ty _, hd.ty, kit_ty (kit_tuple d), _, rfl, ?_⟩
      cases hd with
      | @tup a xs ds h g =>
        have le := dq_len g
        have l9 := hn ds rfl
        refine ⟨.ref a, rfl, a, xs, rfl, .inr h, rfl, _, rfl, ite2 (fun e => ?_) (fun e => ?_)⟩
        · have e2 : ds.length ≠ 2 := fun z => by
            rw [le, z] at e
            exact absurd e (by decide)
          have en : numD (.tuple ds) = false := ratio_len e2
          rw [en] at q
          exact q H (Same.refl H)
        · have e2 : ds.length = 2 := by
            rw [le] at e
            refine Classical.byContradiction fun z => e ?_
            rw [decide_eq_false (fun y => z (by have := V.int.inj y; omega))]
            rfl
          refine ⟨.ref a, rfl, a, rfl, ⟨_, h⟩, fun D nD => ?_⟩
          refine lc_tup (K := K) (a := a) (xs := xs) (fun i H2 => Same H H2 ∧ H2 D = some (.lst (((ds.take i).map intD).map V.bl))) ⟨same_upd nD, upd_same⟩ (fun i H2 _ hp => same_t hp.1 h) ?_ ?_
          · rintro i x H2 hx ⟨s2, e3⟩
            obtain ⟨dx, hdx, dqx⟩ := dq_get g hx
            have fin : ∃ acc, H2 D = some (.lst acc) ∧ acc.length < sizeLine ∧ (fun i H2 => Same H H2 ∧ H2 D = some (.lst (((ds.take i).map intD).map V.bl))) (i + 1) (upd H2 D (.lst (acc ++ [.bl (intD dx)]))) := by
              refine ⟨_, e3, ?_, fun b o eb => ?_, ?_⟩
              · rw [List.length_map, List.length_map, List.length_take]
                exact small1000 (by omega)
              · rw [upd_ne (ne_of_none eb nD)]
                exact s2 _ _ eb
              · rw [upd_same, take_map hdx, List.map_append]
                rfl
            refine ⟨rfl, x, rfl, x, .ty "int", _, _, _, rfl, .ty _, (dqx.same s2).ty, kit_ty (kit_int dx), _, rfl, ite2 (fun e4 => ?_) (fun e4 => ?_)⟩
            · refine ⟨x, rfl, x, .ty "bool", _, _, _, rfl, .ty _, (dqx.same s2).ty, kit_ty (kit_bool dx), _, rfl, ?_⟩
              have en : intD dx = !isB dx := by
                unfold intD
                rw [e4, Bool.true_and]
              rw [en] at fin
              exact fin
            · have en : intD dx = false := by
                unfold intD
                rw [Bool.eq_false_iff.mpr e4, Bool.false_and]
              rw [en] at fin
              exact fin
          · rintro H2 ⟨s2, e3⟩
            refine ⟨D, _, rfl, .inl (.inl e3), _, rfl, ?_⟩
            rw [List.all_map, List.take_of_length_le (Nat.le_of_eq le.symm)]
            have ei : (ds.all (id ∘ intD)) = ds.all intD := rfl
            rw [ei]
            by_cases ha : ds.all intD = true
            · rw [ha]
              refine iteF ?_
              obtain ⟨n, m, rfl, rfl⟩ := two_ints g e2 ha
              have h2 := same_t s2 h
              refine ⟨.ref a, rfl, a, _, 1, .int m, rfl, rfl, h2, rfl, _, _, rfl, rfl, _, rfl, ite2 (fun e4 => ?_) (fun e4 => ?_)⟩
              · refine ⟨.ref a, rfl, a, _, 0, .int n, rfl, rfl, h2, rfl, .ref a, rfl, a, _, 1, .int m, rfl, rfl, h2, rfl, n, m, rfl, rfl, ?_⟩
                have e5 : (1 : Int) < m := of_decide_eq_true e4
                have en : numD (.tuple [.int n, .int m]) = decide (V.int (Int.gcd n m : Int) = V.int 1) := by
                  show (decide (2 ≤ m) && decide (Int.gcd n m = 1)) = _
                  rw [decide_eq_true (show (2 : Int) ≤ m by omega), Bool.true_and]
                  by_cases h1 : Int.gcd n m = 1
                  · rw [decide_eq_true h1, decide_eq_true (by rw [h1]; rfl)]
                  · rw [decide_eq_false h1, decide_eq_false (fun z => h1 (by have := V.int.inj z; omega))]
                rw [← en]
                exact q H2 s2
              · have e5 : ¬ (1 : Int) < m := fun z => e4 (decide_eq_true z)
                have en : numD (.tuple [.int n, .int m]) = false := by
                  show (decide (2 ≤ m) && decide (Int.gcd n m = 1)) = _
                  rw [decide_eq_false (show ¬ (2 : Int) ≤ m by omega), Bool.false_and]
                rw [en] at q
                exact q H2 s2
            · rw [Bool.eq_false_iff.mpr ha]
              have en : numD (.tuple ds) = false := ratio_all (Bool.eq_false_iff.mpr ha)
              rw [en] at q
              exact iteT (q H2 s2)
      | bl b => exact absurd rfl hi
      | int i => exact absurd rfl hi
      | non => exact q H (Same.refl H)
      | str z => exact q H (Same.refl H)
      | lst h g => exact q H (Same.refl H)
      | dic h => exact q H (Same.refl H)

/-! ### kept -/
def sp_kept (K : PySem.W.Frag) : Nat → Sp
  | 0 => fun _ _ _ _ => False
  | n + 1 => fun vs H Q _ => ∃ (v : V) (d : PyData), vs = [v] ∧ Dq K H v d ∧ d.depth ≤ n ∧ slim d = true ∧ ∀ v' H', Same H H' → Fresh K H H' v' d → Q v' H'
theorem ok_kept (F : FnP K "kept" s_kept f fd) (T : Tz mg) (m : mg "kept" = some (.ref f)) : ∀ n, FnOk P w K mg base CX0 (n + 1) f fd ["value"] (sp_kept K n)
  | 0 => ⟨fun _ _ _ _ h => h.elim, fun _ _ _ _ _ _ _ _ _ _ _ _ _ h => h.elim⟩
  | n + 1 => by
    have O_kept : Own P w K mg base CX0 (n + 1) "kept" ["value"] (sp_kept K n) f fd := ⟨ok_kept F T m n, m, F.kp, F.bindsN fun _ _ _ _ _ _ us hl => match us, hl with | [_], _ => rfl⟩
    refine F.ok sc_kept (fun vs H Q E h => ?_) (fun cdv A outer s H vs Q E hr h => ?_)
    · obtain ⟨v, d, rfl, _⟩ := h
      rfl
    · obtain ⟨v, d, rfl, hd, hdp, hsl, q⟩ := h
      refine ⟨_, PSs.nox (pss_cons (ps_if (pt_val (pe_callB call_isi (by rfl) T.z_isinstance (by decide +kernel) (pa_cons (pv 0) (pa_cons (pe_bltn (v := .ty "list") (by rfl) T.z_list (by decide +kernel) rfl) pa_nil)))) (pss_one (ps_ret (pe_lc (own := [("item", 2)]) (g := gName 2) (tt := tYes) rfl sc_kept.nd (pi_list (pv 0)) (blkOk_by (own := [("item", 2)]) (N := N_kept) (sc := defScope s_kept) (by decide +kernel)) (fun _ _ _ _ _ => pg_name (i := 2) sc_kept.nd rfl (Or.inl rfl)) (fun _ _ _ _ _ => pts_nil) (fun _ _ _ _ _ => (pe_own O_kept (hr.mono (by first | decide | omega)) (pa_cons (pv 2) pa_nil)))))) pss_nil)
      (pss_cons (ps_if (pt_val (pe_callB call_isi (by rfl) T.z_isinstance (by decide +kernel) (pa_cons (pv 0) (pa_cons (pe_bltn (v := .ty "tuple") (by rfl) T.z_tuple (by decide +kernel) rfl) pa_nil)))) (pss_one (ps_ret (pe_callTy call_tuple_of (by rfl) T.z_tuple (by decide +kernel) (pa_cons (pe_lc (own := [("item", 2)]) (g := gName 2) (tt := tYes) rfl sc_kept.nd (pi_tup (pv 0)) (blkOk_by (own := [("item", 2)]) (N := N_kept) (sc := defScope s_kept) (by decide +kernel)) (fun _ _ _ _ _ => pg_name (i := 2) sc_kept.nd rfl (Or.inl rfl)) (fun _ _ _ _ _ => pts_nil) (fun _ _ _ _ _ => (pe_own O_kept (hr.mono (by first | decide | omega)) (pa_cons (pv 2) pa_nil)))) pa_nil)))) pss_nil)
      (pss_cons (ps_if (pt_val (pe_callB call_isi (by rfl) T.z_isinstance (by decide +kernel) (pa_cons (pv 0) (pa_cons (pe_bltn (v := .ty "dict") (by rfl) T.z_dict (by decide +kernel) rfl) pa_nil)))) (pss_one (ps_ret (pe_lock (pe_dc (own := [("key", 1)]) (g := gName 1) (tt := tYes) rfl sc_kept.nd (pi_keys (pv 0)) (blkOk_by (own := [("key", 1)]) (N := N_kept) (sc := defScope s_kept) (by decide +kernel)) (fun _ _ _ _ _ => pg_name (i := 1) sc_kept.nd rfl (Or.inl rfl)) (fun _ _ _ _ _ => pts_nil) (fun _ _ _ _ _ => (pv 1)) (fun _ _ _ _ _ => (pe_own O_kept (hr.mono (by first | decide | omega)) (pa_cons (pe_dget (hu_of hr) (pv 0) (pv 1) (fun _ _ => rfl)) pa_nil))))))) pss_nil)
      (pss_one (ps_ret (pv 0)))))), ?_⟩
      refine ⟨v, rfl, v, .ty "list", _, _, _, rfl, .ty _, hd.ty, kit_ty (kit_list d), _, rfl, ?_⟩
      -- what a comprehension over items keeps
      have turn : ∀ {xs : List V} {ds : List PyData} {D : Addr} {i : Nat} {x : V} {H2 : Hp} {R : V → Hp → Prop}, DqAll K H xs ds → PyData.depthAll ds < n → slimAll ds = true → ds.length ≤ 900 → H D = none → xs[i]? = some x →
          (Same H H2 ∧ ∃ ws, H2 D = some (.lst ws) ∧ ws.length = i ∧ DqAll K (nw (upd H D (.lst [])) H2) ws (ds.take i)) →
          (∀ y H4, (∃ acc, H4 D = some (.lst acc) ∧ acc.length < sizeLine ∧ (Same H (upd H4 D (.lst (acc ++ [y]))) ∧ ∃ ws, (upd H4 D (.lst (acc ++ [y]))) D = some (.lst ws) ∧ ws.length = i + 1 ∧ DqAll K (nw (upd H D (.lst [])) (upd H4 D (.lst (acc ++ [y])))) ws (ds.take (i + 1)))) → R y H4) →
          sp_kept K n [x] H2 R E0 := by
        intro xs ds D i x H2 R g hdep hsa hlen nD hx ⟨s2, ws, e2, l2, g2⟩ k
        obtain ⟨dx, hdx, dqx⟩ := dq_get g hx
        have hmem : dx ∈ ds := List.mem_of_getElem? hdx
        have hil : i < ds.length := (List.getElem?_eq_some_iff.mp hdx).1
        cases n with
        | zero => omega
        | succ n' =>
          refine ⟨x, dx, rfl, dqx.same s2, ?_, slim_at hsa hmem, fun v' H4 s4 fr => k v' H4 ⟨ws, s4 _ _ e2, ?_, fun b o e => ?_, ws ++ [v'], upd_same, ?_, ?_⟩⟩
          · have := depth_at hmem
            omega
          · rw [l2]
            exact small1000 (by omega)
          · rw [upd_ne (ne_of_none e nD)]
            exact s4 _ _ (s2 _ _ e)
          · rw [List.length_append, l2]
            rfl
          · have hB : ∀ b, H2 b = none → upd H D (.lst []) b = none := fun b hb => by
              have nb : b ≠ D := fun e => by
                rw [e, e2] at hb
                cases hb
              rw [upd_ne nb]
              exact s2.free hb
            have a1 : Same (nw (upd H D (.lst [])) H2) (nw (upd H D (.lst [])) (upd H4 D (.lst (ws ++ [v'])))) := nw_mono (fun _ e => e) fun b o h1 h2 => by
              have nb : b ≠ D := fun e => by
                rw [e, upd_same] at h1
                cases h1
              rw [upd_ne nb]
              exact s4 _ _ h2
            have a2 : Same (nw H2 H4) (nw (upd H D (.lst [])) (upd H4 D (.lst (ws ++ [v'])))) := nw_mono hB fun b o h1 h2 => by
              have nb : b ≠ D := fun e => by
                rw [e, e2] at h1
                cases h1
              rw [upd_ne nb]
              exact h2
            rw [List.take_add_one, hdx]
            exact dqall_snoc (DqAll.same a1 g2) (Dq.same a2 fr)
      have start : ∀ {ds : List PyData} {D : Addr}, H D = none → (Same H (upd H D (.lst [])) ∧ ∃ ws, (upd H D (.lst [])) D = some (.lst ws) ∧ ws.length = 0 ∧ DqAll K (nw (upd H D (.lst [])) (upd H D (.lst []))) ws (ds.take 0)) :=
        fun nD => ⟨same_upd nD, [], upd_same, rfl, .nil⟩
      have base_ : ∀ {D : Addr} {H2 : Hp}, H D = none → Same (nw (upd H D (.lst [])) H2) (nw H H2) := fun {D H2} nD => nw_mono (fun b e => (same_upd nD).free e) fun _ _ _ e => e
      cases hd with
      | @lst a xs ds h g =>
        refine ⟨.ref a, rfl, a, rfl, ⟨_, h⟩, fun D nD => ?_⟩
        have h1 : slim (.list ds) = (decide (ds.length ≤ 900) && slimAll ds) := by simp only [slim]
        rw [h1, Bool.and_eq_true] at hsl
        have l9 : ds.length ≤ 900 := of_decide_eq_true hsl.1
        have hdep : PyData.depthAll ds < n := by
          simp only [PyData.depth] at hdp
          omega
        have le := dq_len g
        refine lc_list (K := K) (a := a) (xs := xs) (fun i H2 => Same H H2 ∧ ∃ ws, H2 D = some (.lst ws) ∧ ws.length = i ∧ DqAll K (nw (upd H D (.lst [])) H2) ws (ds.take i)) (start nD) (fun i H2 _ hp => hp.1.seq h) ?_ ?_
        · intro i x H2 hx hp
          exact ⟨rfl, x, rfl, turn g hdep hsl.2 l9 nD hx hp fun y H4 z => z⟩
        · rintro H2 ⟨s2, ws, e2, l2, g2⟩
          refine q _ H2 s2 (Dq.lst (.inl (.inl ((nw_at nD).trans e2))) ?_)
          rw [List.take_of_length_le (Nat.le_of_eq le.symm)] at g2
          exact DqAll.same (base_ nD) g2
      | @tup a xs ds h g =>
        refine iteF ?_
        refine ⟨.ref a, rfl, .ref a, .ty "tuple", _, _, _, rfl, .ty _, (Dq.tup h g).ty, kit_ty (kit_tuple (.tuple ds)), _, rfl, ?_⟩
        refine ⟨.ref a, rfl, a, rfl, ⟨_, h⟩, fun D nD => ?_⟩
        have h1 : slim (.tuple ds) = (decide (ds.length ≤ 900) && slimAll ds) := by simp only [slim]
        rw [h1, Bool.and_eq_true] at hsl
        have l9 : ds.length ≤ 900 := of_decide_eq_true hsl.1
        have hdep : PyData.depthAll ds < n := by
          simp only [PyData.depth] at hdp
          omega
        have le := dq_len g
        refine lc_tup (K := K) (a := a) (xs := xs) (fun i H2 => Same H H2 ∧ ∃ ws, H2 D = some (.lst ws) ∧ ws.length = i ∧ DqAll K (nw (upd H D (.lst [])) H2) ws (ds.take i)) (start nD) (fun i H2 _ hp => same_t hp.1 h) ?_ ?_
        · intro i x H2 hx hp
          exact ⟨rfl, x, rfl, turn g hdep hsl.2 l9 nD hx hp fun y H4 z => z⟩
        · rintro H2 ⟨s2, ws, e2, l2, g2⟩
          refine ⟨D, ws, rfl, .inl ⟨.inl (.inl e2), fun t nt => ?_⟩⟩
          have nHt : H t = none := s2.free nt
          refine q _ _ (s2.trans (same_upd nt)) (Dq.tup (.inl (.inl ((nw_at nHt).trans upd_same))) ?_)
          rw [List.take_of_length_le (Nat.le_of_eq le.symm)] at g2
          exact DqAll.same ((base_ nD).trans (nw_mono (fun _ e => e) fun b o _ e => same_upd nt _ _ e)) g2
      | @dic a h =>
        refine iteF ?_
        refine ⟨.ref a, rfl, .ref a, .ty "tuple", _, _, _, rfl, .ty _, (Dq.dic h).ty, kit_ty (kit_tuple (.dict [])), _, rfl, iteF ?_⟩
        refine ⟨.ref a, rfl, .ref a, .ty "dict", _, _, _, rfl, .ty _, (Dq.dic h).ty, kit_ty (kit_dict (.dict [])), _, rfl, ?_⟩
        refine ⟨a, .dK [], h, trivial, fun od => ?_⟩
        refine ⟨.ref a, rfl, a, od, rfl, .inl ⟨[], upd_same, fun D nD => ?_⟩⟩
        have nDa : D ≠ a := fun e => by
          rw [e, upd_same] at nD
          cases nD
        have nHD : H D = none := by
          rw [upd_ne nDa] at nD
          exact nD
        refine ⟨fun i m H2 => H2 = upd (upd H a (.frz od (.dK []))) D (.dK []), ⟨0, rfl⟩, ?_⟩
        rintro i m H2 rfl
        refine .inl ⟨⟨?_, Nat.zero_le _⟩, ?_, ?_⟩
        · rw [upd_ne nDa.symm, upd_same]
        · rw [upd_ne nDa.symm, upd_same]
        · refine q _ _ (fun b o e => ?_) (Dq.dic ?_)
          · by_cases hb : b = a
            · subst hb
              rw [upd_same]
              rw [h] at e
              exact e
            · rw [upd_ne hb, upd_ne (ne_of_none e nHD), upd_ne hb]
              exact e
          · rw [nw_at nHD, upd_ne nDa, upd_same]
      | non => exact ⟨_, rfl, _, .ty "tuple", _, _, _, rfl, .ty _, Dq.ty .non, kit_ty (kit_tuple .none), _, rfl, _, rfl, _, .ty "dict", _, _, _, rfl, .ty _, Dq.ty .non, kit_ty (kit_dict .none), _, rfl, _, rfl, q _ H (Same.refl H) Dq.non⟩
      | bl b => exact ⟨_, rfl, _, .ty "tuple", _, _, _, rfl, .ty _, Dq.ty (.bl b), kit_ty (kit_tuple (.bool b)), _, rfl, _, rfl, _, .ty "dict", _, _, _, rfl, .ty _, Dq.ty (.bl b), kit_ty (kit_dict (.bool b)), _, rfl, _, rfl, q _ H (Same.refl H) (Dq.bl b)⟩
      | int i => exact ⟨_, rfl, _, .ty "tuple", _, _, _, rfl, .ty _, Dq.ty (.int i), kit_ty (kit_tuple (.int i)), _, rfl, _, rfl, _, .ty "dict", _, _, _, rfl, .ty _, Dq.ty (.int i), kit_ty (kit_dict (.int i)), _, rfl, _, rfl, q _ H (Same.refl H) (Dq.int i)⟩
      | str z => exact ⟨_, rfl, _, .ty "tuple", _, _, _, rfl, .ty _, Dq.ty (.str z), kit_ty (kit_tuple (.str z)), _, rfl, _, rfl, _, .ty "dict", _, _, _, rfl, .ty _, Dq.ty (.str z), kit_ty (kit_dict (.str z)), _, rfl, _, rfl, q _ H (Same.refl H) (Dq.str z)⟩
end
end K12

set_option Elab.async false
set_option linter.all false
set_option maxRecDepth 100000
set_option maxHeartbeats 4000000
namespace K12
open PySem PySem.Spec PyProof.Rows L2 Lw
abbrev s_ini : Stmt := inClass (topS 3) 0
abbrev W_ini : IniW := ⟨"__init__", "InvalidNumber.__init__", defArgs s_ini, defBody s_ini, defScope s_ini⟩
abbrev N_ini : List Str := ["self", "value", "__class__"]
theorem sc_ini : NdefX.NScope N_ini ["self", "value"] ["__class__"] (defScope s_ini) := NdefX.nscope_by (by decide +kernel)
section
variable {P : Program} {w : World} {K : PySem.W.Frag} {mg : Str → Option Value} {base : Heap} {f : Addr} {fd : FuncData} {fK fI fL fW fR : Addr} {fdK fdI fdL fdW fdR : FuncData} {C cc cda : Addr}
/-! ### init -/
def sp_ini (K : PySem.W.Frag) (C : Addr) (n : Nat) : Sp := fun vs H Q _ => ∃ (a : Addr) (v : V) (d : PyData), vs = [.ref a, v] ∧ H a = some (exo a C none) ∧ Dq K H v d ∧ d.depth ≤ n ∧ slim d = true ∧
  ∀ v' H' dx, Same H H' → Fresh K H H' v' d → H' dx = none → dx ≠ a → Q .non (upd (upd H' dx (exd dx [("value", v')])) a (exo a C (some dx)))
theorem ok_ini {n : Nat} (T : ExcK K C (tlOf "ValueError") "ValueError.__new__") (S : IniK P K mg W_ini f cc cda C "ValueError" "ValueError.__init__") (hno : PySem.W.findIn K (.ref C) "value" = some none)
    (hfd : ∃ (oc : Value) (od : Option Addr) (osl : Array (Option Value)), K.lookup f = some ⟨oc, od, .func fd, osl⟩) (O_kept : Own P w K mg base CX0 (n + 2) "kept" ["value"] (sp_kept K (n + 1)) fK fdK) :
    FnOk P w K mg base CX0 (n + 3) f fd ["self", "value"] (sp_ini K C n) := by
  refine ini_ok (N := N_ini) exb_V T S rfl sc_ini rfl (fun vs H Q E h => ?_) (fun vs H Q E h => ?_) (fun L => ⟨_, rfl⟩) (fun A outer s H vs Q E hr h => ?_) hfd
  · obtain ⟨a, v, d, rfl, _⟩ := h
    rfl
  · obtain ⟨a, v, d, rfl, ha, _⟩ := h
    exact ⟨a, rfl, ha⟩
  · obtain ⟨a, v, d, rfl, ha, hd, hdp, hsl, q⟩ := h
    refine ⟨_, pss_one (ps_ostB exb_V (pv 0) (pe_own O_kept hr (pa_cons (pv 1) pa_nil))), ?_⟩
    refine ⟨v, rfl, v, d, rfl, hd, hdp, hsl, fun v' H' s' fr => ?_⟩
    exact ⟨.ref a, rfl, a, C, rfl, T, hno, s' _ _ ha, fun dx nd ne => q v' H' dx s' fr nd ne⟩

/-- InvalidNumber with the value d leaves -/
def Out (K : PySem.W.Frag) (C : Addr) (H : Hp) (d : PyData) (E : XK) : Prop := ∀ v' dx H', Same H H' → H dx = none → H' dx = some (.xd [("value", v')]) → Fresh K H H' v' d → E (.ref C) (some dx) H'
/-- what a raise of InvalidNumber asks -/
theorem raise_it {n : Nat} {H : Hp} {v : V} {d : PyData} {E : XK} (hd : Dq K H v d) (hdp : d.depth ≤ n) (hsl : slim d = true) (o : Out K C H d E) : [v].length ≤ 1000 ∧ ∀ a, H a = none → sp_ini K C n (.ref a :: ([v] ++ [])) (upd H a (exo a C none))
    (fun u H2 => u = .non ∧ ∃ (dd : Addr) (fs : List (Str × V)), H2 a = some (exo a C (some dd)) ∧ H2 dd = some (exd dd fs) ∧ H dd = none ∧ E (.ref C) (some dd) (upd (del H2 a) dd (.xd fs))) (fun _ _ _ => False) := by
  refine ⟨by show 1 ≤ 1000; decide, fun a na => ⟨a, v, d, rfl, upd_same, hd.same (same_upd na), hdp, hsl, fun v' H' dx s' fr nd ne => ⟨rfl, dx, [("value", v')], upd_same, ?_, ?_, ?_⟩⟩⟩
  · rw [upd_ne ne, upd_same]
  · exact (same_upd na).free (s'.free nd)
  · have nHd : H dx = none := (same_upd na).free (s'.free nd)
    refine o v' dx _ (fun b x e => ?_) nHd upd_same (Dq.same (nw_mono (fun b e => (same_upd na).free e) fun b x h1 h2 => ?_) fr)
    · have ba : b ≠ a := ne_of_none e na
      have bd : b ≠ dx := ne_of_none e nHd
      rw [upd_ne bd, del_ne ba, upd_ne ba, upd_ne bd]
      exact s' _ _ (same_upd na _ _ e)
    · have ba : b ≠ a := fun e => by
        rw [e, upd_same] at h1
        cases h1
      have bd : b ≠ dx := ne_of_none h2 nd
      rw [upd_ne bd, del_ne ba, upd_ne ba, upd_ne bd]
      exact h2

/-! ### number -/
def zeroD (d : PyData) : Bool := match d with
  | .int i => decide (i = 0)
  | _ => false
def sp_number (K : PySem.W.Frag) (C : Addr) (n : Nat) : Sp := fun vs H Q E => ∃ (x y : V) (dx dy : PyData), vs = [x, y] ∧ Dq K H x dx ∧ Dq K H y dy ∧ dx.depth ≤ n ∧ slim dx = true ∧ dy.depth ≤ n ∧ slim dy = true ∧ (∀ i, dy = .int i → i.natAbs < 2 ^ 1000) ∧
  (intD dx = false → Out K C H dx E) ∧ (intD dx = true → (intD dy = false ∨ dy = .int 0) → Out K C H dy E) ∧
  (∀ p q, dx = .int p → dy = .int q → q ≠ 0 → ∀ v H', Same H H' → Fresh K H H' v (lowD p q) → Q v H')
theorem ok_number {n : Nat} (F : FunD K "number" "number" (defArgs s_number) (defBody s_number) (defScope s_number) [.int 1] [] f fd) (T : Tz mg) (E_InvalidNumber : OwnE P w K mg base (n + 3) "InvalidNumber" ["self", "value"] (sp_ini K C n) C fI fdI (tlOf "ValueError") "ValueError.__new__")
    (O_is_integer : Own P w K mg base CX0 1 "is_integer" ["value"] (sp_int K) fW fdW) (O_lowest : Own P w K mg base CX0 2 "lowest" ["numerator", "denominator"] (sp_lowest K) fL fdL) :
    FnOk P w K mg base (L2.CX P w) (n + 5) f fd ["numerator", "denominator"] (sp_number K C n) := by
  refine F.ok sc_number (fun vs H Q E h => ?_) (fun cdv A outer s H vs Q E hr h => ?_)
  · obtain ⟨x, y, dx, dy, rfl, _⟩ := h
    rfl
  · obtain ⟨x, y, dx, dy, rfl, hx, hy, px, sx, py, sy, hb, o1, o2, q⟩ := h
    refine ⟨_, pss_cons (ps_if (pt_not (pt_val (pe_own O_is_integer (hr.mono (by omega)) (pa_cons (pv 0) pa_nil)))) (pss_one (ps_raise rfl (takes_of rfl rfl rfl rfl) (pmk_e exb_V E_InvalidNumber (hr.mono (by omega)) (pa_cons (pv 0) pa_nil)))) pss_nil)
      (pss_cons (ps_if (PW.pt (pw_or (pt_not (pt_val (pe_own O_is_integer (hr.mono (by omega)) (pa_cons (pv 1) pa_nil)))) (pw_or1 (pt_cmpR op_eq (pv 1) pe_int (nomark _))))) (pss_one (ps_raise rfl (takes_of rfl rfl rfl rfl) (pmk_e exb_V E_InvalidNumber (hr.mono (by omega)) (pa_cons (pv 1) pa_nil)))) pss_nil)
      (pss_one (ps_ret (pe_own O_lowest (hr.mono (by omega)) (pa_cons (pv 0) (pa_cons (pv 1) pa_nil)))))), ?_⟩
    refine ⟨x, rfl, x, dx, rfl, hx, _, rfl, ?_⟩
    by_cases i1 : intD dx = true
    · rw [i1]
      refine iteF ?_
      obtain ⟨p, rfl⟩ := intD_int i1
      refine ⟨y, rfl, y, dy, rfl, hy, _, rfl, ?_⟩
      by_cases i2 : intD dy = true
      · rw [i2]
        refine iteF ?_
        obtain ⟨r, rfl⟩ := intD_int i2
        cases hx
        cases hy
        refine ⟨_, rfl, rfl, _, rfl, ?_⟩
        by_cases z : r = 0
        · subst z
          rw [decide_eq_true rfl]
          refine iteT ?_
          exact ⟨_, rfl, raise_it (.int 0) py sy (o2 rfl (.inr rfl))⟩
        · rw [decide_eq_false (fun e => z (V.int.inj e))]
          refine iteF ?_
          exact ⟨_, rfl, _, rfl, p, r, rfl, z, hb r rfl, fun v H' s' fr => q p r rfl rfl z v H' s' fr⟩
      · rw [Bool.eq_false_iff.mpr i2]
        exact iteT ⟨_, rfl, raise_it hy py sy (o2 rfl (.inl (Bool.eq_false_iff.mpr i2)))⟩
    · rw [Bool.eq_false_iff.mpr i1]
      exact iteT ⟨_, rfl, raise_it hx px sx (o1 (Bool.eq_false_iff.mpr i1))⟩

/-! ### due -/
def dueD (dx dy : PyData) : PyData := if intD dx = false then .list [.str "refused", dx, .bool true] else if (!intD dy || zeroD dy) = true then .list [.str "refused", dy, .bool true] else
  match dx, dy with
  | .int p, .int q => lowD p q
  | _, _ => .none
def sp_due (K : PySem.W.Frag) : Sp := fun vs H Q _ => ∃ (x y : V) (dx dy : PyData), vs = [x, y] ∧ Dq K H x dx ∧ Dq K H y dy ∧ (∀ i, dy = .int i → i.natAbs < 2 ^ 1000) ∧ ∀ v H', Same H H' → Dq K H' v (dueD dx dy) → Q v H'
theorem ok_due (F : FnP K "_law_due" s_due f fd) (T : Tz mg) (O_is_whole : Own P w K mg base CX0 1 "_law_is_whole" ["_law_thing"] (sp_int K) fW fdW) (O_ratio : Own P w K mg base CX0 2 "_law_ratio" ["_law_top", "_law_low"] (sp_lowest K) fR fdR) :
    FnOk P w K mg base CX0 3 f fd ["_law_top", "_law_low"] (sp_due K) := by
  refine F.ok sc_due (fun vs H Q E h => ?_) (fun cdv A outer s H vs Q E hr h => ?_)
  · obtain ⟨x, y, dx, dy, rfl, _⟩ := h
    rfl
  · obtain ⟨x, y, dx, dy, rfl, hx, hy, hb, q⟩ := h
    refine ⟨_, PSs.nox (pss_cons (ps_if (pt_not (pt_val (pe_own O_is_whole (hr.mono (by first | decide | omega)) (pa_cons (pv 0) pa_nil)))) (pss_one (ps_ret (pe_lst (pa_cons pe_str (pa_cons (pv 0) (pa_cons pe_bl pa_nil)))))) pss_nil)
      (pss_cons (ps_if (PW.pt (pw_or (pt_not (pt_val (pe_own O_is_whole (hr.mono (by first | decide | omega)) (pa_cons (pv 1) pa_nil)))) (pw_or1 (pt_cmpR op_eq (pv 1) pe_int (nomark _))))) (pss_one (ps_ret (pe_lst (pa_cons pe_str (pa_cons (pv 1) (pa_cons pe_bl pa_nil)))))) pss_nil)
      (pss_one (ps_ret (pe_own O_ratio (hr.mono (by first | decide | omega)) (pa_cons (pv 0) (pa_cons (pv 1) pa_nil))))))), ?_⟩
    refine ⟨x, rfl, x, dx, rfl, hx, _, rfl, ?_⟩
    by_cases i1 : intD dx = true
    · rw [i1]
      refine iteF ?_
      obtain ⟨p, rfl⟩ := intD_int i1
      refine ⟨y, rfl, y, dy, rfl, hy, _, rfl, ?_⟩
      by_cases i2 : intD dy = true
      · rw [i2]
        refine iteF ?_
        obtain ⟨r, rfl⟩ := intD_int i2
        cases hx
        cases hy
        refine ⟨_, rfl, rfl, _, rfl, ?_⟩
        by_cases z : r = 0
        · subst z
          rw [decide_eq_true rfl]
          refine iteT ⟨_, rfl, by show 3 ≤ sizeLine; decide, fun l nl => q _ _ (same_upd nl) ?_⟩
          unfold dueD
          rw [if_neg (show ¬ (intD (.int p) = false) from fun z => nomatch z), if_pos (show (!intD (.int 0) || zeroD (.int 0)) = true from rfl)]
          exact .lst (.inl (.inl upd_same)) (.cons (.str _) (.cons (.int 0) (.cons (.bl true) .nil)))
        · rw [decide_eq_false (fun e => z (V.int.inj e))]
          refine iteF ⟨_, rfl, _, rfl, p, r, rfl, z, hb r rfl, fun v H' s' fr => q v H' s' ?_⟩
          have en : dueD (.int p) (.int r) = lowD p r := by
            unfold dueD
            have zb : (!intD (.int r) || zeroD (.int r)) = false := by
              show (false || decide (r = 0)) = false
              rw [decide_eq_false z]
              rfl
            rw [if_neg (show ¬ (intD (.int p) = false) from fun z => nomatch z), zb]
            rfl
          rw [en]
          exact fr.dq
      · rw [Bool.eq_false_iff.mpr i2]
        refine iteT ⟨_, rfl, by show 3 ≤ sizeLine; decide, fun l nl => q _ _ (same_upd nl) ?_⟩
        unfold dueD
        rw [if_neg (show ¬ (intD (.int p) = false) from fun z => nomatch z), if_pos (show (!intD dy || zeroD dy) = true by rw [Bool.eq_false_iff.mpr i2]; rfl)]
        exact .lst (.inl (.inl upd_same)) (.cons (.str _) (.cons (hy.same (same_upd nl)) (.cons (.bl true) .nil)))
    · rw [Bool.eq_false_iff.mpr i1]
      refine iteT ⟨_, rfl, by show 3 ≤ sizeLine; decide, fun l nl => q _ _ (same_upd nl) ?_⟩
      unfold dueD
      rw [if_pos (Bool.eq_false_iff.mpr i1)]
      exact .lst (.inl (.inl upd_same)) (.cons (.str _) (.cons (hx.same (same_upd nl)) (.cons (.bl true) .nil)))
end
end K12

set_option Elab.async false
set_option linter.all false
set_option maxRecDepth 100000
set_option maxHeartbeats 4000000
namespace K12
open PySem PySem.Spec PyProof.Rows L2 Lw
/-- the classes that the law names -/
structure Tc (K : PySem.W.Frag) (mg : Str → Option Value) (C L c1 c2 c3 c4 c5 : Addr) : Prop where
  m_InvalidNumber : mg "InvalidNumber" = some (.ref C)
  m_LastheldError : mg "LastheldError" = some (.ref L)
  m_InvalidCount : mg "InvalidCount" = some (.ref c1)
  m_InvalidLevel : mg "InvalidLevel" = some (.ref c2)
  m_LimitError : mg "LimitError" = some (.ref c3)
  m_MissingError : mg "MissingError" = some (.ref c4)
  m_StateError : mg "StateError" = some (.ref c5)
  exm : PySem.W.exmOne K (.ref C) (.ref C) = some true
  ec : ExcC K C
  xf : XfC K C
  hno : PySem.W.findIn K (.ref C) "value" = some none
  kL : PySem.W.kitOne K (.ref C) (.ref L) = some true
  kV : PySem.W.kitOne K (.ref C) (.type "ValueError") = some true
  kO : PySem.W.kitAny K (.ref C) [.ref c1, .ref c2, .ref c3, .ref c4, .ref c5] = some false
section
variable {P : Program} {w : World} {K : PySem.W.Frag} {mg : Str → Option Value} {base : Heap} {f : Addr} {fd : FuncData} {fN : Addr} {fdN : FuncData} {C L c1 c2 c3 c4 c5 : Addr}
/-! ### made -/
def sp_made (K : PySem.W.Frag) (n : Nat) : Sp := fun vs H Q _ => ∃ (x y : V) (dx dy : PyData) (b : Bool), vs = [x, y, .bl b] ∧ Dq K H x dx ∧ Dq K H y dy ∧ dx.depth ≤ n ∧ slim dx = true ∧ dy.depth ≤ n ∧ slim dy = true ∧ (∀ i, dy = .int i → i.natAbs < 2 ^ 1000) ∧
  ∀ v H', Same H H' → Fresh K H H' v (dueD dx (if b = true then .int 1 else dy)) → Q v H'
theorem ok_made {n : Nat} {u1 : Value} (F : FnP K "_law_made" s_made f fd) (T : Tz mg) (TC : Tc K mg C L c1 c2 c3 c4 c5) (O : OwnX P w K mg base (n + 5) "number" ["numerator", "denominator"] (sp_number K C n) fN fdN)
    (b1 : Binds K fdN ["numerator", "denominator"] [u1]) (r1 : L2.RelV (.int 1) u1) (b2 : Binds K fdN ["numerator", "denominator"] []) : FnOk P w K mg base CX0 (n + 6) f fd ["_law_top", "_law_low", "_law_is_short"] (sp_made K n) := by
  refine F.ok sc_made (fun vs H Q E h => ?_) (fun cdv A outer s H vs Q E hr h => ?_)
  · obtain ⟨x, y, dx, dy, b, rfl, _⟩ := h
    rfl
  · obtain ⟨x, y, dx, dy, b, rfl, hx, hy, px, sx, py, sy, hb, q⟩ := h
    refine ⟨_, PSs.nox (pss_cons (ps_set (i := 3) sc_made.nd rfl (Or.inl rfl) pe_non)
      (pss_cons (ps_try_as (i := 4) rfl rfl sc_made.nd rfl rfl ⟨rfl, by decide, .inl TC.m_InvalidNumber⟩ takes0
        (fun W pn xe tk _ => pss_one (ps_set (i := 3) sc_made.nd rfl (Or.inl rfl) (pe_ifExp (pt_val (pv 2)) (pe_callSD O.ok hr (by rfl) O.m O.kp b1 (.cons r1 .nil) (fun σ => passAt tk σ) (pa_cons (pv 0) pa_nil)) (pe_callSD O.ok hr (by rfl) O.m O.kp b2 .nil (fun σ => passAt tk σ) (pa_cons (pv 0) (pa_cons (pv 1) pa_nil))))))
        (fun a oe cls d pn hz hf => pss_cons (ps_set (i := 5) sc_made.nd rfl (Or.inl rfl) (pe_callB (call_isXT hz hf) (by rfl) T.z_isinstance (by decide +kernel) (pa_cons (pv 4) (pa_cons (pe_tup (pa_cons (pe_glob (v := .ref c1) (by rfl) TC.m_InvalidCount rfl) (pa_cons (pe_glob (v := .ref c2) (by rfl) TC.m_InvalidLevel rfl) (pa_cons (pe_glob (v := .ref c3) (by rfl) TC.m_LimitError rfl) (pa_cons (pe_glob (v := .ref c4) (by rfl) TC.m_MissingError rfl) (pa_cons (pe_glob (v := .ref c5) (by rfl) TC.m_StateError rfl) pa_nil)))))) pa_nil))))
          (pss_cons (ps_set (i := 6) sc_made.nd rfl (Or.inl rfl) (pe_and (pe_callB (call_isX hz hf) (by rfl) T.z_isinstance (by decide +kernel) (pa_cons (pv 4) (pa_cons (pe_glob (v := .ref L) (by rfl) TC.m_LastheldError rfl) pa_nil))) (pe_and (pe_callB (call_isX hz hf) (by rfl) T.z_isinstance (by decide +kernel) (pa_cons (pv 4) (pa_cons (pe_bltn (v := .ty "ValueError") (by rfl) T.z_ValueError (by decide +kernel) rfl) pa_nil))) (pe_one (pe_not (pv 5))))))
          (pss_one (ps_set (i := 3) sc_made.nd rfl (Or.inl rfl) (pe_lst (pa_cons pe_str (pa_cons (pe_xf TC.xf TC.hno hz hf (pv 4)) (pa_cons (pv 6) pa_nil)))))))))
      (pss_one (ps_ret (pv 3))))), ?_⟩
    -- the suite, and what follows
    have suite : ∀ {d : PyData} {dz : PyData}, dueD dx (if b = true then .int 1 else dy) = .list [.str "refused", d, .bool true] → Out K C H d (WE (wAs K (.ref C) 4 (fun a cls d => tSeq (tAsg (tCB (rIsXT K a cls d) (tCons (tVar 4) (tCons (tTup (tCons (tC (.ref c1)) (tCons (tC (.ref c2)) (tCons (tC (.ref c3)) (tCons (tC (.ref c4)) (tCons (tC (.ref c5)) tNil)))))) tNil))) (gName 5))
        (tSeq (tAsg (tAndV (tCB (rIsX K a cls d) (tCons (tVar 4) (tCons (tC (.ref L)) tNil))) (tAndV (tCB (rIsX K a cls d) (tCons (tVar 4) (tCons (tC (.ty "ValueError")) tNil))) (tNotV (tVar 5)))) (gName 6))
          (tAsg (tLst (tCons (tC (.str "refused")) (tCons (tXf a cls d C "value" (tVar 4)) (tCons (tVar 6) tNil)))) (gName 3)))) (fun _ _ _ _ => False) { nx := fun σ' H' => tRet (tVar 3) { nx := fun _ H' => Q .non H', rt := Q } σ' H', rt := Q }) [some x, some y, some (.bl b), some .non, none, none, none]) := by
      intro d dz en v' dx2 H' s' nd hxd fr
      refine ⟨true, TC.exm, fun _ a na => ?_, fun z => nomatch z⟩
      refine ⟨.ref a, rfl, by show 5 ≤ sizeLine; decide, fun tp ntp => ?_⟩
      have hx2 : (upd H' tp (.tup [.ref c1, .ref c2, .ref c3, .ref c4, .ref c5])) dx2 = some (.xd [("value", v')]) := by
        rw [upd_ne (ne_of_none hxd ntp)]
        exact hxd
      refine ⟨C, dx2, tp, _, _, false, _, rfl, rfl, TC.ec, rfl, upd_same, .cons (.own _) (.cons (.own _) (.cons (.own _) (.cons (.own _) (.cons (.own _) .nil)))), TC.kO, hx2, ?_⟩
      refine ⟨.ref a, rfl, C, dx2, .ref L, _, true, _, rfl, rfl, TC.ec, rfl, .own _, TC.kL, hx2, _, rfl, ?_⟩
      refine iteT ⟨.ref a, rfl, C, dx2, .ty "ValueError", _, true, _, rfl, rfl, TC.ec, rfl, .ty _, TC.kV, hx2, _, rfl, ?_⟩
      refine iteT ⟨_, rfl, _, rfl, ?_⟩
      refine ⟨.ref a, rfl, rfl, rfl, dx2, _, v', rfl, hx2, rfl, _, rfl, by show 3 ≤ sizeLine; decide, fun l nl => ?_⟩
      have sL : Same H' (upd (upd H' tp (.tup [.ref c1, .ref c2, .ref c3, .ref c4, .ref c5])) l (.lst [.str "refused", v', .bl true])) := (same_upd ntp).trans (same_upd nl)
      refine ⟨_, rfl, q _ _ (s'.trans sL) ?_⟩
      rw [en]
      have nHl : H l = none := s'.free ((same_upd ntp).free nl)
      exact Dq.lst (.inl (.inl ((nw_at nHl).trans upd_same))) (.cons (.str _) (.cons (fr.later sL) (.cons (.bl true) .nil)))
    have numOK : ∀ {y' : V} {dy' : PyData}, (if b = true then .int 1 else dy) = dy' → Dq K H y' dy' → dy'.depth ≤ n → slim dy' = true → (∀ i, dy' = .int i → i.natAbs < 2 ^ 1000) → sp_number K C n [x, y'] H
        (fun v H' => gName 3 v [some x, some y, some (.bl b), some .non, none, none, none] H' fun σ' H' => tRet (tVar 3) { nx := fun _ H' => Q .non H', rt := Q } σ' H')
        (WE (wAs K (.ref C) 4 (fun a cls d => tSeq (tAsg (tCB (rIsXT K a cls d) (tCons (tVar 4) (tCons (tTup (tCons (tC (.ref c1)) (tCons (tC (.ref c2)) (tCons (tC (.ref c3)) (tCons (tC (.ref c4)) (tCons (tC (.ref c5)) tNil)))))) tNil))) (gName 5))
        (tSeq (tAsg (tAndV (tCB (rIsX K a cls d) (tCons (tVar 4) (tCons (tC (.ref L)) tNil))) (tAndV (tCB (rIsX K a cls d) (tCons (tVar 4) (tCons (tC (.ty "ValueError")) tNil))) (tNotV (tVar 5)))) (gName 6))
          (tAsg (tLst (tCons (tC (.str "refused")) (tCons (tXf a cls d C "value" (tVar 4)) (tCons (tVar 6) tNil)))) (gName 3)))) (fun _ _ _ _ => False) { nx := fun σ' H' => tRet (tVar 3) { nx := fun _ H' => Q .non H', rt := Q } σ' H', rt := Q }) [some x, some y, some (.bl b), some .non, none, none, none]) := by
      intro y' dy' e hy' py' sy' hb'
      rw [e] at q suite
      refine ⟨x, y', dx, dy', rfl, hx, hy', px, sx, py', sy', hb', fun i1 => ?_, fun i1 i2 => ?_, fun p r e1 e2 z v H' s' fr => ?_⟩
      · refine suite (dz := dx) ?_
        unfold dueD
        rw [if_pos i1]
      · refine suite (dz := dx) ?_
        unfold dueD
        rw [if_neg (by rw [i1]; decide), if_pos]
        rcases i2 with i2 | i2
        · rw [i2]
          rfl
        · rw [i2]
          rfl
      · refine ⟨v, rfl, q v H' s' ?_⟩
        subst e1 e2
        have zb : (!intD (.int r) || zeroD (.int r)) = false := by
          show (false || decide (r = 0)) = false
          rw [decide_eq_false z]
          rfl
        unfold dueD
        rw [if_neg (show ¬ (intD (.int p) = false) from fun z => nomatch z), zb]
        exact fr
    refine ⟨.bl b, rfl, b, rfl, ?_⟩
    cases b with
    | true => exact ⟨x, rfl, numOK rfl (.int 1) (Nat.zero_le _) rfl fun i e => by cases e; decide +kernel⟩
    | false => exact ⟨x, rfl, y, rfl, numOK rfl hy py sy hb⟩
end
end K12

set_option Elab.async false
set_option linter.all false
set_option maxRecDepth 100000
set_option maxHeartbeats 4000000
namespace K12
open PySem PySem.Spec PyProof.Rows L2 Lw
theorem len_tup2 (a b : Str) : (tupleText [a, b]).length = a.length + b.length + 4 := by
  show (("(" : Str) ++ (a ++ (", " : String) ++ b) ++ (")" : String)).length = _
  simp only [strLen_append]
  show 1 + (a.length + 2 + b.length) + 1 = _
  omega
/-- data that the law hands about -/
structure Okd (d : PyData) : Prop where
  dp : d.depth ≤ 5
  sl : slim d = true
  sm : Small 2000 d
  ib : ∀ i, d = .int i → i.natAbs < 2 ^ 1000
/-- data that can be asked about -/
structure Thd (d : PyData) : Prop where
  sm : Small 9000 d
  ln : Lean_ d
theorem lean_slim {d : PyData} (h : slim d = true) : Lean_ d := by
  rintro ds rfl
  have h' : (decide (ds.length ≤ 900) && slimAll ds) = true := by simpa only [slim] using h
  rw [Bool.and_eq_true] at h'
  exact of_decide_eq_true h'.1
theorem Okd.th {d : PyData} (h : Okd d) : Thd d := ⟨h.sm.mono (by decide), lean_slim h.sl⟩
theorem okd_int {i : Int} (h : i.natAbs < 2 ^ 900) : Okd (.int i) := by
  have h2 : i.natAbs < 2 ^ 1000 := Nat.lt_of_lt_of_le h (by decide +kernel)
  exact ⟨by simp [PyData.depth], rfl, small_int h2, fun j e => by cases e; exact h2⟩
theorem odds_ok : ∀ d ∈ odds, Okd d := by
  intro d hd
  simp only [odds, odds1, odds2, odds3, List.cons_append, List.nil_append, List.mem_cons, List.not_mem_nil, or_false] at hd
  rcases hd with rfl | rfl | rfl | rfl | rfl | rfl | rfl | rfl | rfl | rfl | rfl | rfl | rfl | rfl | rfl | rfl | rfl | rfl | rfl | rfl | rfl | rfl | rfl | rfl | rfl | rfl | rfl | rfl | rfl
  all_goals
    refine ⟨by decide +kernel, by decide +kernel, ⟨by decide +kernel, by decide +kernel, by decide +kernel⟩, fun i hi => ?_⟩
    first
      | (cases hi; decide +kernel)
      | (exact PyData.noConfusion hi)
theorem small_list3 {a b c : PyData} {n : Nat} (h1 : Small n a) (h2 : Small n b) (h3 : Small n c) (d1 : a.depth ≤ 8) (d2 : b.depth ≤ 8) (d3 : c.depth ≤ 8) : Small (3 * n + 6) (.list [a, b, c]) := by
  refine ⟨?_, ?_, ?_⟩
  · have e1 := h1.sh
    have e2 := h2.sh
    have e3 := h3.sh
    simp [PyData.showable, PyData.showableAll, e1, e2, e3]
  · show (listText [a.shown, b.shown, c.shown]).length ≤ _
    rw [len_list3]
    have e1 := h1.ln
    have e2 := h2.ln
    have e3 := h3.ln
    omega
  · simp only [PyData.depth, PyData.depthAll]
    omega
theorem small_tup2 {a b : PyData} {n : Nat} (h1 : Small n a) (h2 : Small n b) (d1 : a.depth ≤ 8) (d2 : b.depth ≤ 8) : Small (2 * n + 4) (.tuple [a, b]) := by
  refine ⟨?_, ?_, ?_⟩
  · have e1 := h1.sh
    have e2 := h2.sh
    simp [PyData.showable, PyData.showableAll, e1, e2]
  · show (tupleText [a.shown, b.shown]).length ≤ _
    rw [len_tup2]
    have e1 := h1.ln
    have e2 := h2.ln
    omega
  · simp only [PyData.depth, PyData.depthAll]
    omega
theorem small_low {n d : Int} (hd : d ≠ 0) (h1 : n.natAbs < 2 ^ 1000) (h2 : d.natAbs < 2 ^ 1000) : Small 5000 (lowD n d) ∧ (lowD n d).depth ≤ 7 ∧ Lean_ (lowD n d) := by
  have c := lowC_dvd n d
  have e1 : (n.fdiv (lowC n d)).natAbs < 2 ^ 1000 := Nat.lt_of_le_of_lt (fdiv_le (lowC_ne hd) c.1) h1
  have e2 : (d.fdiv (lowC n d)).natAbs < 2 ^ 1000 := Nat.lt_of_le_of_lt (fdiv_le (lowC_ne hd) c.2) h2
  unfold lowD
  split
  · exact ⟨(small_int e1).mono (by decide), by simp [PyData.depth], fun ds e => nomatch e⟩
  · exact ⟨(small_tup2 (small_int e1) (small_int e2) (by simp [PyData.depth]) (by simp [PyData.depth])).mono (by decide), by simp [PyData.depth, PyData.depthAll], fun ds e => by cases e; show 2 ≤ 900; decide⟩
theorem small_ref {d : PyData} (h : Okd d) : Small 6100 (.list [.str "refused", d, .bool true]) ∧ (PyData.list [.str "refused", d, .bool true]).depth ≤ 7 := by
  have h1 : Small 2000 (.str "refused") := ⟨by decide +kernel, by decide +kernel, by decide +kernel⟩
  have h2 : Small 2000 (.bool true) := ⟨by decide +kernel, by decide +kernel, by decide +kernel⟩
  have hd := h.dp
  refine ⟨(small_list3 h1 h.sm h2 (by decide +kernel) (by omega) (by decide +kernel)).mono (by decide), ?_⟩
  simp only [PyData.depth, PyData.depthAll]
  omega
theorem small_due {dx dy : PyData} (hx : Okd dx) (hy : Okd dy) : Small 6100 (dueD dx dy) ∧ (dueD dx dy).depth ≤ 7 ∧ Lean_ (dueD dx dy) := by
  unfold dueD
  split
  · exact ⟨(small_ref hx).1, (small_ref hx).2, fun ds e => nomatch e⟩
  · split
    · exact ⟨(small_ref hy).1, (small_ref hy).2, fun ds e => nomatch e⟩
    · rename_i h1 h2
      split
      · rename_i p q
        have hq : q ≠ 0 := by
          rintro rfl
          exact h2 rfl
        obtain ⟨a, b, c⟩ := small_low hq (hx.ib p rfl) (hy.ib q rfl)
        exact ⟨a.mono (by decide), b, c⟩
      · exact ⟨⟨by decide +kernel, by decide +kernel, by decide +kernel⟩, by decide +kernel, fun ds e => nomatch e⟩
theorem okd_one : Okd (.int 1) := okd_int (by decide +kernel)
theorem small_told {dx dy : PyData} (hx : Okd dx) (hy : Okd dy) : Small 20000 (.list [dueD dx dy, dueD dx dy, dueD dx (.int 1)]) := by
  obtain ⟨a, b, _⟩ := small_due hx hy
  obtain ⟨c, d, _⟩ := small_due hx okd_one
  exact (small_list3 a a c (by omega) (by omega) (by omega)).mono (by decide)
theorem thd_pair {dx dy : PyData} (hx : Okd dx) (hy : Okd dy) : Thd (.tuple [dx, dy]) := by
  have h1 := hx.dp
  have h2 := hy.dp
  exact ⟨(small_tup2 hx.sm hy.sm (by omega) (by omega)).mono (by decide), fun ds e => by cases e; show 2 ≤ 900; decide⟩
theorem thd_due {dx dy : PyData} (hx : Okd dx) (hy : Okd dy) : Thd (dueD dx dy) := by
  obtain ⟨a, b, c⟩ := small_due hx hy
  exact ⟨a.mono (by decide), c⟩
theorem Small.line {n : Nat} {d : PyData} (h : Small n d) (e : n ≤ 100000) : d.showable = true ∧ d.shown.length ≤ sizeLine ∧ d.depth ≤ 60 :=
  ⟨h.sh, Nat.le_trans h.ln (Nat.le_trans e (by decide)), Nat.le_trans h.dp (by decide)⟩
end K12

set_option Elab.async false
set_option linter.all false
set_option maxRecDepth 100000
set_option maxHeartbeats 4000000
namespace K12
open PySem PySem.Spec PyProof.Rows L2 Lw
section
variable {P : Program} {w : World} {K : PySem.W.Frag} {mg : Str → Option Value} {base : Heap} {f : Addr} {fd : FuncData}
def sp_right : Sp := fun vs H Q _ => ∃ a : Addr, vs = [.ref a] ∧ PotAt H a ∧ ∀ H', PotAt H' a → Off a H H' → Q (.bl true) H'
theorem ok_right {fD fO fW fM fU fR fN : Addr} {fdD fdO fdW fdM fdU fdR fdN : FuncData} (F : FnP K "_law_right" s_right f fd) (T : Tz mg) (B : SysOk base)
    (O_draw : Own P w K mg base CX0 1 "_law_draw" ["_law_pot_here", "_law_many"] sp_draw fD fdD)
    (O_odd : Own P w K mg base CX0 2 "_law_odd" ["_law_pot_here"] (sp_odd K) fO fdO)
    (O_whole : Own P w K mg base CX0 2 "_law_whole" ["_law_pot_here"] sp_whole fW fdW)
    (O_made : Own P w K mg base CX0 11 "_law_made" ["_law_top", "_law_low", "_law_is_short"] (sp_made K 5) fM fdM)
    (O_due : Own P w K mg base CX0 3 "_law_due" ["_law_top", "_law_low"] (sp_due K) fU fdU)
    (O_is_ratio : Own P w K mg base CX0 2 "_law_is_ratio" ["_law_thing"] (sp_num K) fR fdR)
    (O_is_number : Own P w K mg base CX0 2 "is_number" ["value"] (sp_num K) fN fdN)
    (O_is_number_kw : KBn K fdN ["value"] 0 ["value"] (fun _ ws => ws) (fun _ zs => zs)) :
    FnG P w K mg base CX0 12 f fd ["_law_pot_here"] sp_right := by
  refine fn_g F sc_right (fun vs H Q E h => ?_) (fun cdv A outer s H vs Q E hg hr h => ?_)
  · obtain ⟨a, rfl, _⟩ := h
    rfl
  · obtain ⟨a, rfl, hp, q⟩ := h
    refine ⟨_, PSs.nox (pss_cons (ps_par (i := 1) (j := 2) (by rfl) sc_right.nd rfl rfl (by decide) rfl rfl (pa_cons (pe_own O_whole (hr.mono (by first | decide | omega)) (pa_cons (pv 0) pa_nil)) (pa_cons (pe_own O_whole (hr.mono (by first | decide | omega)) (pa_cons (pv 0) pa_nil)) pa_nil)) (by rfl))
      (C8.pss_cut (ps_if (pt_cmpR op_eq (pe_own O_draw (hr.mono (by first | decide | omega)) (pa_cons (pv 0) (pa_cons pe_int pa_nil))) pe_int (nomark _)) (pss_one (ps_set (i := 1) sc_right.nd rfl (Or.inl rfl) (pe_own O_odd (hr.mono (by first | decide | omega)) (pa_cons (pv 0) pa_nil)))) pss_nil)
      (C8.pss_cut (ps_if (pt_cmpR op_eq (pe_own O_draw (hr.mono (by first | decide | omega)) (pa_cons (pv 0) (pa_cons pe_int pa_nil))) pe_int (nomark _)) (pss_one (ps_set (i := 2) sc_right.nd rfl (Or.inl rfl) (pe_own O_odd (hr.mono (by first | decide | omega)) (pa_cons (pv 0) pa_nil)))) pss_nil)
      (pss_cons (ps_set (i := 3) sc_right.nd rfl (Or.inl rfl) (pe_lst (pa_cons (pe_own O_made (hr.mono (by first | decide | omega)) (pa_cons (pv 1) (pa_cons (pv 2) (pa_cons pe_bl pa_nil)))) (pa_cons (pe_own O_made (hr.mono (by first | decide | omega)) (pa_cons (pv 1) (pa_cons (pv 2) (pa_cons pe_bl pa_nil)))) (pa_cons (pe_own O_made (hr.mono (by first | decide | omega)) (pa_cons (pv 1) (pa_cons pe_int (pa_cons pe_bl pa_nil)))) pa_nil)))))
      (pss_cons (ps_if (pt_cmpR op_ne (pe_callB (call_repr B hg hr.units) (by rfl) T.z_repr (by decide +kernel) (pa_cons (pv 3) pa_nil)) (pe_callB (call_repr B hg hr.units) (by rfl) T.z_repr (by decide +kernel) (pa_cons (pe_lst (pa_cons (pe_own O_due (hr.mono (by first | decide | omega)) (pa_cons (pv 1) (pa_cons (pv 2) pa_nil))) (pa_cons (pe_own O_due (hr.mono (by first | decide | omega)) (pa_cons (pv 1) (pa_cons (pv 2) pa_nil))) (pa_cons (pe_own O_due (hr.mono (by first | decide | omega)) (pa_cons (pv 1) (pa_cons pe_int pa_nil))) pa_nil)))) pa_nil)) (nomark _)) (pss_one (ps_ret pe_bl)) pss_nil)
      (pss_cons (ps_set (i := 4) sc_right.nd rfl (Or.inl rfl) (pe_ix ix_list (pe_lst (pa_cons (pe_tup (pa_cons (pv 1) (pa_cons (pv 2) pa_nil))) (pa_cons (pv 1) (pa_cons (pe_own O_odd (hr.mono (by first | decide | omega)) (pa_cons (pv 0) pa_nil)) (pa_cons (pe_ix ix_list (pv 3) pe_int (fun _ _ => rfl)) pa_nil))))) (pe_own O_draw (hr.mono (by first | decide | omega)) (pa_cons (pv 0) (pa_cons pe_int pa_nil))) (fun _ _ => rfl)))
      (pss_cons (ps_par (i := 5) (j := 6) (by rfl) sc_right.nd rfl rfl (by decide) rfl rfl (pa_cons (pe_callB (call_repr B hg hr.units) (by rfl) T.z_repr (by decide +kernel) (pa_cons (pv 4) pa_nil)) (pa_cons (pe_own O_is_ratio (hr.mono (by first | decide | omega)) (pa_cons (pv 4) pa_nil)) pa_nil)) (by rfl))
      (pss_one (ps_ret (pe_and (pe_cmpR op_eq (pe_callB (call_repr B hg hr.units) (by rfl) T.z_repr (by decide +kernel) (pa_cons (pe_lst (pa_cons (pe_own O_is_number (hr.mono (by first | decide | omega)) (pa_cons (pv 4) pa_nil)) (pa_cons (pe_ownW O_is_number O_is_number_kw (hr.mono (by first | decide | omega)) (pk_cons (pv 4) pk_nil)) pa_nil))) pa_nil)) (pe_callB (call_repr B hg hr.units) (by rfl) T.z_repr (by decide +kernel) (pa_cons (pe_lst (pa_cons (pv 6) (pa_cons (pv 6) pa_nil))) pa_nil)) (nomark _)) (pe_one (pe_cmpR op_eq (pe_callB (call_repr B hg hr.units) (by rfl) T.z_repr (by decide +kernel) (pa_cons (pv 4) pa_nil)) (pv 5) (nomark _))))))))))))), ?_⟩
    refine ⟨.ref a, rfl, a, rfl, hp, fun i1 H1 b1 p1 o1 => ⟨.ref a, rfl, a, rfl, p1, fun i2 H2 b2 p2 o2 => ?_⟩⟩
    refine ⟨_, _, rfl, fun σ' H' => ∃ x dx, σ' = [some (.ref a), some x, some (.int i2), none, none, none, none] ∧ Okd dx ∧ Dq K (off H' a) x dx ∧ PotAt H' a ∧ Off a H H', ?_, ?_⟩
    · refine ⟨.ref a, rfl, a, 4, rfl, p2, by decide, by decide, fun r H3 r0 r1 p3 o3 => ⟨rfl, _, rfl, ?_⟩⟩
      have o4 := (o1.trans o2).trans o3
      refine ite2 (fun e => ?_) (fun e => ?_)
      · exact ⟨.ref a, rfl, a, rfl, p3, fun v d H4 hd dv p4 o5 => ⟨v, d, rfl, odds_ok d hd, dv, p4, o4.trans o5⟩⟩
      · exact ⟨_, _, rfl, okd_int b1, .int i1, p3, o4⟩
    rintro σ' H3 ⟨x, dx, rfl, kx, hx3, p3, o3⟩
    refine ⟨fun σ' H' => ∃ x dx y dy, σ' = [some (.ref a), some x, some y, none, none, none, none] ∧ Okd dx ∧ Dq K (off H' a) x dx ∧ Okd dy ∧ Dq K (off H' a) y dy ∧ PotAt H' a ∧ Off a H H', ?_, ?_⟩
    · refine ⟨.ref a, rfl, a, 4, rfl, p3, by decide, by decide, fun r H4 r0 r1 p4 o4 => ⟨rfl, _, rfl, ?_⟩⟩
      refine ite2 (fun e => ?_) (fun e => ?_)
      · exact ⟨.ref a, rfl, a, rfl, p4, fun v d H5 hd dv p5 o5 => ⟨x, dx, v, d, rfl, kx, Dq.same (o4.trans o5) hx3, odds_ok d hd, dv, p5, (o3.trans o4).trans o5⟩⟩
      · exact ⟨x, dx, _, _, rfl, kx, Dq.same o4 hx3, okd_int b2, .int i2, p4, o3.trans o4⟩
    rintro σ' H4 ⟨x, dx, y, dy, rfl, kx, hx, ky, hy, p4, o4⟩
    -- told
    have hxm : Dq K H4 x dx := Dq.same off_same hx
    have hym : Dq K H4 y dy := Dq.same off_same hy
    refine ⟨x, rfl, y, rfl, x, y, dx, dy, false, rfl, hxm, hym, kx.dp, kx.sl, ky.dp, ky.sl, ky.ib, fun v1 H5 s5 f1 => ?_⟩
    refine ⟨x, rfl, y, rfl, x, y, dx, dy, false, rfl, hxm.same s5, hym.same s5, kx.dp, kx.sl, ky.dp, ky.sl, ky.ib, fun v2 H6 s6 f2 => ?_⟩
    refine ⟨x, rfl, x, .int 1, dx, .int 1, true, rfl, hxm.same (s5.trans s6), .int 1, kx.dp, kx.sl, okd_one.dp, rfl, okd_one.ib, fun v3 H7 s7 f3 => ?_⟩
    refine ⟨by show 3 ≤ sizeLine; decide, fun l nl => ?_⟩
    have n4 : H4 a ≠ none := pot_some p4
    have p7 : PotAt H7 a := p4.same ((s5.trans s6).trans s7)
    have nla : l ≠ a := p7.ne nl
    have s8 : Same H7 (upd H7 l (.lst [v1, v2, v3])) := same_upd nl
    have e8 : off (upd H7 l (.lst [v1, v2, v3])) a l = some (.lst [v1, v2, v3]) := by
      rw [off_ne nla, upd_same]
    have p8 := p7.same s8
    have f1' : Dq K (off H7 a) v1 (dueD dx dy) := Dq.same (off_mono (s6.trans s7)) (f1.away n4)
    have f2' : Dq K (off H7 a) v2 (dueD dx dy) := Dq.same (off_mono s7) (f2.away (same_some s5 n4))
    have f3' : Dq K (off H7 a) v3 (dueD dx (.int 1)) := f3.away (same_some (s5.trans s6) n4)
    have s48 : Same H4 (upd H7 l (.lst [v1, v2, v3])) := ((s5.trans s6).trans s7).trans s8
    revert s48 e8 p8 s8
    generalize upd H7 l (.lst [v1, v2, v3]) = H8
    intro s8 e8 p8 s48
    have w1 := Dq.same (off_mono s8) f1'
    have w2 := Dq.same (off_mono s8) f2'
    have w3 := Dq.same (off_mono s8) f3'
    have tl : Dq K (off H8 a) (.ref l) (.list [dueD dx dy, dueD dx dy, dueD dx (.int 1)]) := .lst (.inl (.inl e8)) (.cons w1 (.cons w2 (.cons w3 .nil)))
    have hx8 : Dq K (off H8 a) x dx := Dq.same (off_mono s48) hx
    have hy8 : Dq K (off H8 a) y dy := Dq.same (off_mono s48) hy
    have o8 : Off a H H8 := o4.trans (Off.same s48)
    obtain ⟨y0, y1, y2⟩ := Small.line (small_told kx ky) (by decide)
    refine ⟨.ref l, rfl, .ref l, _, rfl, Dq.same off_same tl, y0, y1, y2, ?_⟩
    have hxm := Dq.same off_same hx8
    have hym := Dq.same off_same hy8
    refine ⟨x, rfl, y, rfl, x, y, dx, dy, rfl, hxm, hym, ky.ib, fun u1 H9 t9 g1 => ?_⟩
    refine ⟨x, rfl, y, rfl, x, y, dx, dy, rfl, hxm.same t9, hym.same t9, ky.ib, fun u2 H10 t10 g2 => ?_⟩
    refine ⟨x, rfl, x, .int 1, dx, .int 1, rfl, hxm.same (t9.trans t10), .int 1, okd_one.ib, fun u3 H11 t11 g3 => ?_⟩
    refine ⟨by show 3 ≤ sizeLine; decide, fun l2 nl2 => ?_⟩
    have t12 : Same H11 (upd H11 l2 (.lst [u1, u2, u3])) := same_upd nl2
    refine ⟨.ref l2, _, rfl, .lst (.inl (.inl upd_same)) (.cons (g1.same ((t10.trans t11).trans t12)) (.cons (g2.same (t11.trans t12)) (.cons (g3.same t12) .nil))), y0, y1, y2, rfl, _, rfl, ?_⟩
    rw [decide_eq_true rfl]
    have s12 : Same H8 (upd H11 l2 (.lst [u1, u2, u3])) := ((t9.trans t10).trans t11).trans t12
    revert s12
    generalize upd H11 l2 (.lst [u1, u2, u3]) = H12
    intro s12
    refine iteF ?_
    -- the thing
    have p12 := p8.same s12
    have l12 : off H12 a l = some (.lst [v1, v2, v3]) := (off_mono s12) _ _ e8
    have w12 := Dq.same (off_mono s12) w1
    have hx12 := Dq.same (off_mono s12) hx8
    have hy12 := Dq.same (off_mono s12) hy8
    have o12 := o8.trans (Off.same s12)
    refine ⟨x, rfl, y, rfl, by show 2 ≤ sizeLine; decide, fun tp ntp => ⟨x, rfl, .ref a, rfl, a, rfl, p12.new ntp, fun ov od H13 hod dvo p13 o13 => ?_⟩⟩
    have tpa : tp ≠ a := p12.ne ntp
    have q13 : Off a H12 H13 := (Off.new ntp).trans o13
    have l13 : off H13 a l = some (.lst [v1, v2, v3]) := q13 _ _ l12
    have t13 : off H13 a tp = some (.tup [x, y]) := o13 _ _ (by rw [off_ne tpa, upd_same])
    refine ⟨.ref l, rfl, l, [v1, v2, v3], 0, v1, rfl, rfl, .inl (.inl (off_same _ _ l13)), rfl, by show 4 ≤ sizeLine; decide, fun tl2 nt => ?_⟩
    refine ⟨.ref a, rfl, a, 4, rfl, p13.new nt, by decide, by decide, fun r H14 r0 r1 p14 o14 => ?_⟩
    have q14 : Off a H12 H14 := (q13.trans (Off.new nt)).trans o14
    have q14' : Off a H13 H14 := (Off.new nt).trans o14
    obtain ⟨v, hv, _, ev⟩ := at_in (xs := [.ref tp, x, ov, v1]) r0 r1
    have hd : ∃ d, Dq K (off H14 a) v d ∧ Thd d := by
      simp only [List.mem_cons, List.not_mem_nil, or_false] at hv
      rcases hv with rfl | rfl | rfl | rfl
      · exact ⟨.tuple [dx, dy], .tup (.inl (.inl (q14' _ _ t13))) (.cons (Dq.same q14 hx12) (.cons (Dq.same q14 hy12) .nil)), thd_pair kx ky⟩
      · exact ⟨dx, Dq.same q14 hx12, kx.th⟩
      · exact ⟨od, Dq.same q14' dvo, (odds_ok od hod).th⟩
      · exact ⟨_, Dq.same q14 w12, thd_due kx ky⟩
    obtain ⟨d, dv, td⟩ := hd
    refine ⟨tl2, _, r, v, rfl, rfl, .inl (.inl (o14.get upd_same (p13.ne nt))), ev, ?_⟩
    have o15 := o12.trans q14
    have dm := Dq.same off_same dv
    obtain ⟨z0, z1, z2⟩ := Small.line td.sm (by decide)
    refine ⟨v, rfl, v, d, rfl, dm, z0, z1, z2, v, rfl, v, d, rfl, dm, td.ln, fun H15 s15 => ⟨_, _, rfl, ?_⟩⟩
    refine ⟨v, rfl, v, d, rfl, dm.same s15, td.ln, fun H16 s16 => ⟨v, rfl, rfl, rfl, v, d, rfl, dm.same (s15.trans s16), td.ln, fun H17 s17 => ?_⟩⟩
    have s18 := (s15.trans s16).trans s17
    have rb : ∀ b : Bool, Small 20 (.list [.bool b, .bool b]) := fun b => by cases b <;> exact ⟨by decide +kernel, by decide +kernel, by decide +kernel⟩
    obtain ⟨b0, b1, b2⟩ := Small.line (rb (numD d)) (by decide)
    refine ⟨by show 2 ≤ sizeLine; decide, fun la na => ⟨.ref la, _, rfl, .lst (.inl (.inl upd_same)) (.cons (.bl _) (.cons (.bl _) .nil)), b0, b1, b2, ?_⟩⟩
    refine ⟨.bl (numD d), rfl, .bl (numD d), rfl, by show 2 ≤ sizeLine; decide, fun lb nb => ⟨.ref lb, _, rfl, .lst (.inl (.inl upd_same)) (.cons (.bl _) (.cons (.bl _) .nil)), b0, b1, b2, rfl, _, rfl, ?_⟩⟩
    rw [decide_eq_true rfl]
    have s20 := (s18.trans (same_upd (o := .lst [.bl (numD d), .bl (numD d)]) na)).trans (same_upd (o := .lst [.bl (numD d), .bl (numD d)]) nb)
    refine iteT ⟨v, rfl, v, d, rfl, dm.same s20, z0, z1, z2, .str d.shown, rfl, rfl, ?_⟩
    rw [decide_eq_true rfl]
    exact q _ (p14.same s20) (o15.trans (Off.same s20))
end
end K12

set_option Elab.async false
set_option linter.all false
set_option maxRecDepth 100000
set_option maxHeartbeats 4000000
namespace K12
open PySem PySem.Spec PyProof.Rows L2 Lw
theorem passF {X : Cx} : Passes (L2.CX X.prog X.w) X E0 := fun _ _ _ _ _ _ _ h => by
  obtain ⟨_, _, _, _, _, _, _, _, _, _, _, _, h⟩ := h
  exact h.elim
section
variable {X : Cx} {k : Nat} {f : Addr} {fd : FuncData} {ps ks : List Str} {sp : Sp} {x : Str} {p pos : Pos} {tk : TA} {kws : List Keyword} {g : List Value → List Value → List Value} {gV : List V → List V → List V}
theorem pe_ownXW (O : OwnX X.prog X.w X.K X.mg X.base k x ps sp f fd) (hb : KBn X.K fd ps 0 ks g gV) (hr : Room k X.A) (hkw : PK X kws tk) (hg : Gl X x := by rfl)
    (hall : (backToKw pos (keywordEach kws X.env)).all (fun q => q.1.isSome) = true := by rfl)
    (hks : (backToKw pos (keywordEach kws X.env)).filterMap (fun q => q.1) = ks := by rfl)
    (hdb : (x == ("__debug__" : Str)) = false := by decide)
    (hpl : ((backTo pos (starEach [] X.env)).any (fun q => q.1) || (backToKw pos (keywordEach kws X.env)).any (fun q => q.1.isNone)) = false := by rfl) :
    PE X (.Call (.Name x p) [] kws pos) (tCallN 0 ks.length sp gV E0 tNil tk) := pe_callW O.ok hr hg O.m O.kp hb passF hkw hall hks hdb hpl
end
def flip2 {α : Type} : List α → List α
  | [a, b] => [b, a]
  | _ => []
theorem flip_rel {vs : List V} {us : List Value} (h : Vals vs us) : Vals (flip2 vs) (flip2 us) := by
  match vs, us, h with
  | [], _, .nil => exact .nil
  | [_], _, .cons _ .nil => exact .nil
  | [_, _], _, .cons a (.cons b .nil) => exact .cons b (.cons a .nil)
  | _ :: _ :: _ :: _, _, .cons a (.cons b (.cons c d)) => exact .nil
section
variable {P : Program} {w : World} {K : PySem.W.Frag} {mg : Str → Option Value} {base : Heap} {f : Addr} {fd : FuncData}
theorem off_new {K : PySem.W.Frag} {H : Hp} {p s : Addr} {o : HO} {xs : List V} (h : SqL K H s xs) (n : H p = none) : SqL K (off (upd H p o) p) s xs := by
  refine Same.seq (fun b u e => ?_) h
  rw [off_ne (ne_of_none e n), upd_ne (ne_of_none e n)]
  exact e
def sp_law (K : PySem.W.Frag) : Sp := fun vs H Q _ => ∃ (s : Addr) (ns : List Int), vs = [.ref s] ∧ SqL K H s (ns.map V.int) ∧ ns.length ≤ 63 ∧ ∀ H', Q (.bl true) H'
theorem ok_law {C fP fR fN : Addr} {fdP fdR fdN : FuncData} {g : List Value → List Value → List Value} (F : FnP K "law" s_law f fd) (T : Tz mg) (B : SysOk base)
    (O_pot : Own P w K mg base CX0 1 "_law_pot" ["_law_script", "_law_k"] (sp_pot K) fP fdP)
    (O_right : OwnG P w K mg base CX0 12 "_law_right" ["_law_pot_here"] sp_right fR fdR)
    (O_number : OwnX P w K mg base 10 "number" ["numerator", "denominator"] (sp_number K C 5) fN fdN)
    (O_number_kw : KBn K fdN ["numerator", "denominator"] 0 ["denominator", "numerator"] g (fun _ zs => flip2 zs)) :
    FnG P w K mg base CX0 13 f fd ["_law_script"] (sp_law K) := by
  refine fn_g F sc_law (fun vs H Q E h => ?_) (fun cdv A outer s H vs Q E hg hr h => ?_)
  · obtain ⟨a, ns, rfl, _⟩ := h
    rfl
  · obtain ⟨sc, ns, rfl, hS, hl, q⟩ := h
    refine ⟨_, PSs.nox (pss_cons (ps_for PassesOwn.never rfl (pi_range1 (by rfl) T.z_range (pa_cons (pe_callB (call_max2 rfl) (by rfl) T.z_max (by decide +kernel) (pa_cons pe_int (pa_cons (pe_callB (call_min2 rfl) (by rfl) T.z_min (by decide +kernel) (pa_cons pe_int (pa_cons (pe_callB call_len_seq (by rfl) T.z_len (by decide +kernel) (pa_cons (pv 0) pa_nil)) pa_nil))) pa_nil))) pa_nil)) (pg_name (i := 1) sc_law.nd rfl (Or.inl rfl)) (pss_cons (ps_set (i := 2) sc_law.nd rfl (Or.inr rfl) (pe_own O_pot (hr.mono (by first | decide | omega)) (pa_cons (pv 0) (pa_cons (pv 1) pa_nil))))
      (pss_one (ps_if (pt_not (pt_val (pe_callB (cr_all rfl) (by rfl) T.z_all (by decide +kernel) (pa_cons (pe_lc (own := [("_law_turn", 3)]) (g := gName 3) (tt := tYes) rfl sc_law.nd (pi_range1 (by rfl) T.z_range (pa_cons pe_int pa_nil)) (blkOk_by (own := [("_law_turn", 3)]) (N := N_law) (sc := defScope s_law) (by decide +kernel)) (fun _ _ _ _ _ => pg_name (i := 3) sc_law.nd rfl (Or.inl rfl)) (fun _ _ _ _ _ => pts_nil) (fun _ _ _ _ _ => (pe_owng O_right hg (hr.mono (by first | decide | omega)) (pa_cons (pv 2) pa_nil)))) pa_nil)))) (pss_one (ps_ret pe_bl)) pss_nil))))
      (pss_one (ps_ret (pe_cmpR op_eq (pe_callB (call_repr B hg hr.units) (by rfl) T.z_repr (by decide +kernel) (pa_cons (pe_ownXW O_number O_number_kw (hr.mono (by first | decide | omega)) (pk_cons (pe_un un_neg pe_int) (pk_cons pe_int pk_nil))) pa_nil)) pe_str (nomark _))))), ?_⟩
    refine ⟨.ref sc, rfl, sc, _, rfl, .inl hS, _, _, rfl, _, _, rfl, _, rfl, ?_, ?_, ?_⟩
    · split <;> split <;> omega
    · rw [List.length_map]
      split <;> split <;> omega
    refine for_range (lo := 0) (n := _) (fun _ σ H1 => ∃ x1 x2 x3, σ = [some (.ref sc), x1, x2, x3] ∧ SqL K H1 sc (ns.map V.int)) ⟨none, none, none, rfl, hS⟩ ?_ ?_
    · rintro i σ H1 hi ⟨x1, x2, x3, rfl, hS1⟩
      have hi1 : i < 1000 := by
        refine Nat.lt_of_lt_of_le hi ?_
        rw [List.length_map]
        split <;> split <;> omega
      refine ⟨.ref sc, rfl, .int i, by show some (some (V.int (0 + i))) = _; rw [Int.zero_add], sc, ns, i, rfl, hS1, hi1, fun a u v na v0 v1 => ?_⟩
      have pa : PotAt (upd H1 a (.lst [.int u, .int v])) a := ⟨u, v, upd_same, v0, v1⟩
      have sa := off_new (o := .lst [.int u, .int v]) hS1 na
      revert pa sa
      generalize upd H1 a (.lst [.int u, .int v]) = H2
      intro pa sa
      refine ⟨8, rfl, by decide, by decide, fun D nD => ?_⟩
      have nDa : D ≠ a := pa.ne nD
      refine lc_range (lo := 0) (n := 8) (fun j H3 => PotAt H3 a ∧ Off a H2 H3 ∧ H3 D = some (.lst ((List.replicate j true).map V.bl))) ⟨pa.put nDa, Off.refl.put nD, upd_same⟩ ?_ ?_
      · rintro j H3 hj ⟨p3, o3, e3⟩
        refine ⟨rfl, .ref a, rfl, a, rfl, p3, fun H4 p4 o4 => ?_⟩
        refine ⟨_, o4.get e3 nDa, ?_, p4.put nDa, (o3.trans o4).put nD, ?_⟩
        · rw [List.length_map, List.length_replicate]
          exact small1000 (by omega)
        · rw [upd_same, List.replicate_succ', List.map_append]
          rfl
      · rintro H3 ⟨p3, o3, e3⟩
        refine ⟨D, _, rfl, .inl (.inl e3), _, rfl, ?_⟩
        refine iteF ⟨_, _, _, rfl, ?_⟩
        exact off_same.seq (o3.seq sa)
    · rintro σ H1 ⟨x1, x2, x3, rfl, hS1⟩
      refine ⟨4, rfl, rfl, rfl, .int 6, .int (-4), .int 6, .int (-4), rfl, .int 6, .int (-4), by decide +kernel, rfl, by decide +kernel, rfl, (fun i e => by cases e; decide +kernel), (fun z => nomatch z), (fun _ z => ?_), ?_⟩
      · rcases z with z | z
        · cases z
        · cases z
      · intro p r e1 e2 hz v H2 s2 fr
        cases e1
        cases e2
        refine ⟨v, _, rfl, fr.dq, by decide +kernel, by decide +kernel, by decide +kernel, rfl, ?_⟩
        have en : decide (V.str (lowD 6 (-4)).shown = V.str (Str.ofString "(-3, 2)")) = true := by decide +kernel
        rw [en]
        exact q _
end
end K12

set_option Elab.async false
set_option linter.all false
set_option maxRecDepth 100000
set_option maxHeartbeats 0
namespace K12
open PySem PySem.Spec PyProof.Rows L2 Lw
def dd (x : Str) (st : Stmt) : He.DefD := ⟨(x, none), x, x, defArgs st, defBody st, defScope st, [], []⟩
def fn : List He.DefD := [dd "kept" s_kept, dd "is_integer" s_is_integer, dd "common_divisor" s_common_divisor, dd "is_number" s_is_number, dd "lowest" s_lowest, ⟨("number", none), "number", "number", defArgs s_number, defBody s_number, defScope s_number, [.int 1], []⟩,
  dd "_law_pot" s_pot, dd "_law_draw" s_draw, dd "_law_common" s_common, dd "_law_ratio" s_ratio, dd "_law_odd" s_odd, dd "_law_is_ratio" s_is_ratio, dd "_law_whole" s_whole, dd "_law_made" s_made, dd "_law_is_whole" s_is_whole, dd "_law_due" s_due, dd "_law_right" s_right, dd "law" s_law]
def fa : List He.Fa := [.glo "kept", .glo "is_integer", .glo "common_divisor", .glo "is_number", .glo "lowest", .glo "number", .glo "_law_pot", .glo "_law_draw", .glo "_law_common", .glo "_law_ratio", .glo "_law_odd", .glo "_law_is_ratio", .glo "_law_whole", .glo "_law_made", .glo "_law_is_whole", .glo "_law_due", .glo "_law_right", .glo "law",
  .free "isinstance", .free "list", .free "tuple", .free "dict", .free "int", .free "bool", .free "len", .free "all", .free "repr", .free "range", .free "max", .free "min", .free "abs", .free "divmod", .free "ValueError", .free "super",
  .glo "InvalidNumber", .glo "LastheldError", .glo "InvalidCount", .glo "InvalidLevel", .glo "LimitError", .glo "MissingError", .glo "StateError"]
def iD : IniD := ⟨"InvalidNumber", W_ini, "ValueError", "ValueError.__new__", "ValueError.__init__"⟩
def ex (K : PySem.W.Frag) : Bool :=
  decide (PySem.W.exmOne K (.ref (He.ga K "InvalidNumber")) (.ref (He.ga K "InvalidNumber")) = some true) && (excB K (He.ga K "InvalidNumber") && (xfB K (He.ga K "InvalidNumber") && (He.eqO (PySem.W.findIn K (.ref (He.ga K "InvalidNumber")) "value") (some none) &&
    (decide (PySem.W.kitOne K (.ref (He.ga K "InvalidNumber")) (.ref (He.ga K "LastheldError")) = some true) && (decide (PySem.W.kitOne K (.ref (He.ga K "InvalidNumber")) (.type "ValueError") = some true) &&
      decide (PySem.W.kitAny K (.ref (He.ga K "InvalidNumber")) [.ref (He.ga K "InvalidCount"), .ref (He.ga K "InvalidLevel"), .ref (He.ga K "LimitError"), .ref (He.ga K "MissingError"), .ref (He.ga K "StateError")] = some false))))))
abbrev R : PySem.W.OpenRow := PySem.W.OpenLaw.row PySem.Challenge.rw_lastheld_k12_numbers_judged
abbrev hk : PySem.W.Hook := hookW 6 (R.prog.main.file : Str) fa fn [iD] ex
def ob (s : PySem.W.SharedT) : AlW := obsWG 6 (R.prog.main.file : Str) fa fn [iD] ex (HandSHeadRun.getT s)
theorem ob_eq (s : PySem.W.SharedT) : ob s = hk.obs s.abs := obsWG_eq (HandSHeadRun.getT_eq s)
abbrev names : List Str := ["kept", "LastheldError", "InvalidNumber", "InvalidLevel", "InvalidCount", "MissingError", "StateError", "LimitError", "is_integer", "common_divisor", "is_number", "lowest", "number",
  "_law_pot", "_law_draw", "_law_common", "_law_ratio", "_law_odd", "_law_is_ratio", "_law_whole", "_law_made", "_law_is_whole", "_law_due", "_law_right"]
theorem run (w : World) : HandSHeadRun.RunEq R (PySem.W.view R.prog [28]) hk ob 4000 names w := by
  intro os
  kernel_rfl
end K12

set_option Elab.async false
set_option linter.all false
set_option maxRecDepth 100000
set_option maxHeartbeats 0
namespace K12
open PySem PySem.Spec PyProof.Rows L2 Lw
theorem iniF : IniF R.prog iD := ⟨by kernel_rfl, by kernel_rfl, by kernel_rfl, by kernel_rfl, by kernel_rfl, by kernel_rfl⟩
theorem facts {w : World} {K : PySem.W.Frag} {h : Heap} {mg : Str → Option Value} {f : Addr} (X : K.In h) (G : h.Ns mainGlobals mg) (hfa : mg ("law" : Str) = some (.ref f)) (cw : SaysW (R.prog.main.file : Str) fa fn [iD] ex K) :
    ∃ fd : FuncData, (∀ (s : Shared) (v : Value), BindsTo s fd ⟨[v], []⟩ [("_law_script", v)]) ∧ ∀ base : Heap, K.In base → base.Ns mainGlobals mg → SysOk base → FnG R.prog w K mg base CX0 13 f fd ["_law_script"] (sp_law K) := by
  have c := cw.d
  obtain ⟨fd0, F0⟩ := c.def_ 0 (d := dd "kept" s_kept) rfl
  obtain ⟨fd1, F1⟩ := c.def_ 1 (d := dd "is_integer" s_is_integer) rfl
  obtain ⟨fd2, F2⟩ := c.def_ 2 (d := dd "common_divisor" s_common_divisor) rfl
  obtain ⟨fd3, F3⟩ := c.def_ 3 (d := dd "is_number" s_is_number) rfl
  obtain ⟨fd4, F4⟩ := c.def_ 4 (d := dd "lowest" s_lowest) rfl
  obtain ⟨fd5, F5⟩ := c.def_ 5 (d := ⟨("number", none), "number", "number", defArgs s_number, defBody s_number, defScope s_number, [.int 1], []⟩) rfl
  replace F5 : FunD K "number" "number" (defArgs s_number) (defBody s_number) (defScope s_number) [.int 1] [] (He.ga K "number") fd5 := F5
  obtain ⟨fd6, F6⟩ := c.def_ 6 (d := dd "_law_pot" s_pot) rfl
  obtain ⟨fd7, F7⟩ := c.def_ 7 (d := dd "_law_draw" s_draw) rfl
  obtain ⟨fd8, F8⟩ := c.def_ 8 (d := dd "_law_common" s_common) rfl
  obtain ⟨fd9, F9⟩ := c.def_ 9 (d := dd "_law_ratio" s_ratio) rfl
  obtain ⟨fd10, F10⟩ := c.def_ 10 (d := dd "_law_odd" s_odd) rfl
  obtain ⟨fd11, F11⟩ := c.def_ 11 (d := dd "_law_is_ratio" s_is_ratio) rfl
  obtain ⟨fd12, F12⟩ := c.def_ 12 (d := dd "_law_whole" s_whole) rfl
  obtain ⟨fd13, F13⟩ := c.def_ 13 (d := dd "_law_made" s_made) rfl
  obtain ⟨fd14, F14⟩ := c.def_ 14 (d := dd "_law_is_whole" s_is_whole) rfl
  obtain ⟨fd15, F15⟩ := c.def_ 15 (d := dd "_law_due" s_due) rfl
  obtain ⟨fd16, F16⟩ := c.def_ 16 (d := dd "_law_right" s_right) rfl
  obtain ⟨fd, F⟩ := c.def_ 17 (d := dd "law" s_law) rfl
  have e := hfa.symm.trans (He.glo_ok X G (c.fact 17 (f := .glo "law") rfl))
  cases e
  have T : Tz mg := ⟨He.free_ok X G (c.fact 18 rfl), He.free_ok X G (c.fact 19 rfl), He.free_ok X G (c.fact 20 rfl), He.free_ok X G (c.fact 21 rfl), He.free_ok X G (c.fact 22 rfl), He.free_ok X G (c.fact 23 rfl), He.free_ok X G (c.fact 24 rfl), He.free_ok X G (c.fact 25 rfl),
    He.free_ok X G (c.fact 26 rfl), He.free_ok X G (c.fact 27 rfl), He.free_ok X G (c.fact 28 rfl), He.free_ok X G (c.fact 29 rfl), He.free_ok X G (c.fact 30 rfl), He.free_ok X G (c.fact 31 rfl), He.free_ok X G (c.fact 32 rfl), He.free_ok X G (c.fact 33 rfl)⟩
  obtain ⟨fdI, RI⟩ := ini_of (d := iD) X G T.z_super iniF (cw.i iD (List.mem_singleton.mpr rfl)).2 (cw.i iD (List.mem_singleton.mpr rfl)).1
  have cx := cw.ex
  unfold ex at cx
  simp only [Bool.and_eq_true] at cx
  obtain ⟨x1, x2, x3, x4, x5, x6, x7⟩ := cx
  have TC : Tc K mg (He.ga K "InvalidNumber") (He.ga K "LastheldError") (He.ga K "InvalidCount") (He.ga K "InvalidLevel") (He.ga K "LimitError") (He.ga K "MissingError") (He.ga K "StateError") :=
    ⟨He.glo_ok X G (c.fact 34 rfl), He.glo_ok X G (c.fact 35 rfl), He.glo_ok X G (c.fact 36 rfl), He.glo_ok X G (c.fact 37 rfl), He.glo_ok X G (c.fact 38 rfl), He.glo_ok X G (c.fact 39 rfl), He.glo_ok X G (c.fact 40 rfl),
      of_decide_eq_true x1, excB_ok x2, xfB_ok x3, He.eqO_ok x4, of_decide_eq_true x5, of_decide_eq_true x6, of_decide_eq_true x7⟩
  have b := FunD.bindsA (ps := ["_law_script"]) F fun _ _ _ _ _ _ us hl => match us, hl with | [_], _ => rfl
  refine ⟨fd, fun s v => b s [v] rfl, fun base _ _ B => ?_⟩
  have O0 : ∀ n, Own R.prog w K mg base CX0 (n + 1) "kept" ["value"] (sp_kept K n) _ fd0 := fun n => ⟨ok_kept F0 T (He.glo_ok X G (c.fact 0 rfl)) n, He.glo_ok X G (c.fact 0 rfl), F0.kp, F0.bindsN fun _ _ _ _ _ _ us hl => match us, hl with | [_], _ => rfl⟩
  have O1 : Own R.prog w K mg base CX0 1 "is_integer" ["value"] (sp_int K) _ fd1 := ⟨ok_is_integer F1 T, He.glo_ok X G (c.fact 1 rfl), F1.kp, F1.bindsN fun _ _ _ _ _ _ us hl => match us, hl with | [_], _ => rfl⟩
  have O2 : Own R.prog w K mg base CX0 1 "common_divisor" ["first", "second"] sp_gcd _ fd2 := ⟨ok_common_divisor F2 T, He.glo_ok X G (c.fact 2 rfl), F2.kp, F2.bindsN fun _ _ _ _ _ _ us hl => match us, hl with | [_, _], _ => rfl⟩
  have O3 : Own R.prog w K mg base CX0 2 "is_number" ["value"] (sp_num K) _ fd3 := ⟨ok_is_number F3 T O1 O2, He.glo_ok X G (c.fact 3 rfl), F3.kp, F3.bindsN fun _ _ _ _ _ _ us hl => match us, hl with | [_], _ => rfl⟩
  have O4 : Own R.prog w K mg base CX0 2 "lowest" ["numerator", "denominator"] (sp_lowest K) _ fd4 := ⟨ok_lowest F4 T O2, He.glo_ok X G (c.fact 4 rfl), F4.kp, F4.bindsN fun _ _ _ _ _ _ us hl => match us, hl with | [_, _], _ => rfl⟩
  obtain ⟨cc, cda, SI⟩ := RI.s
  have EI : OwnE R.prog w K mg base 8 "InvalidNumber" ["self", "value"] (sp_ini K (He.ga K "InvalidNumber") 5) (He.ga K "InvalidNumber") (iniAt K iD) fdI (tlOf "ValueError") "ValueError.__new__" :=
    ⟨RI.t, RI.i, RI.ti, ok_ini (n := 5) RI.t SI TC.hno RI.lk (O0 6), RI.binds fun _ _ _ _ _ us hl => match us, hl with | [_, _], _ => rfl, RI.m⟩
  have O5 : OwnX R.prog w K mg base 10 "number" ["numerator", "denominator"] (sp_number K (He.ga K "InvalidNumber") 5) _ fd5 := ⟨ok_number (n := 5) F5 T EI O1 O4, He.glo_ok X G (c.fact 5 rfl), F5.kp⟩
  obtain ⟨u1, r1, b1⟩ := F5.binds1 (ps := ["numerator", "denominator"]) 1 0 (fun z => nomatch z) rfl fun _ _ _ _ _ _ _ us its h1 h2 => match us, its, h1, h2 with | [_], [_], _, _ => ⟨_, rfl, rfl⟩
  obtain ⟨u2, r2, b2⟩ := F5.binds1 (ps := ["numerator", "denominator"]) 2 1 (fun z => nomatch z) rfl fun _ _ _ _ _ _ _ us its h1 h2 => match us, its, h1, h2 with | [_, _], [_], _, _ => ⟨_, rfl, rfl⟩
  obtain ⟨its, k5⟩ := F5.kbindsD (ps := ["numerator", "denominator"]) 0 ["denominator", "numerator"] (fun _ _ ws => flip2 ws) (fun z => nomatch z) (fun _ _ r => flip_rel r) fun _ _ _ _ _ _ _ us its ws h1 h2 h3 => match us, its, ws, h1, h2, h3 with | [], [_], [_, _], _, _, _ => ⟨_, rfl, rfl⟩
  have O6 : Own R.prog w K mg base CX0 1 "_law_pot" ["_law_script", "_law_k"] (sp_pot K) _ fd6 := ⟨ok_pot F6 T, He.glo_ok X G (c.fact 6 rfl), F6.kp, F6.bindsN fun _ _ _ _ _ _ us hl => match us, hl with | [_, _], _ => rfl⟩
  have O7 : Own R.prog w K mg base CX0 1 "_law_draw" ["_law_pot_here", "_law_many"] sp_draw _ fd7 := ⟨ok_draw F7 T, He.glo_ok X G (c.fact 7 rfl), F7.kp, F7.bindsN fun _ _ _ _ _ _ us hl => match us, hl with | [_, _], _ => rfl⟩
  have O8 : Own R.prog w K mg base CX0 1 "_law_common" ["_law_a", "_law_b"] sp_gcd _ fd8 := ⟨ok_common F8 T, He.glo_ok X G (c.fact 8 rfl), F8.kp, F8.bindsN fun _ _ _ _ _ _ us hl => match us, hl with | [_, _], _ => rfl⟩
  have O9 : Own R.prog w K mg base CX0 2 "_law_ratio" ["_law_top", "_law_low"] (sp_lowest K) _ fd9 := ⟨ok_ratio F9 T O8, He.glo_ok X G (c.fact 9 rfl), F9.kp, F9.bindsN fun _ _ _ _ _ _ us hl => match us, hl with | [_, _], _ => rfl⟩
  have O10 : Own R.prog w K mg base CX0 2 "_law_odd" ["_law_pot_here"] (sp_odd K) _ fd10 := ⟨ok_odd F10 T O7, He.glo_ok X G (c.fact 10 rfl), F10.kp, F10.bindsN fun _ _ _ _ _ _ us hl => match us, hl with | [_], _ => rfl⟩
  have O11 : Own R.prog w K mg base CX0 2 "_law_is_ratio" ["_law_thing"] (sp_num K) _ fd11 := ⟨ok_is_ratio F11 T O8, He.glo_ok X G (c.fact 11 rfl), F11.kp, F11.bindsN fun _ _ _ _ _ _ us hl => match us, hl with | [_], _ => rfl⟩
  have O12 : Own R.prog w K mg base CX0 2 "_law_whole" ["_law_pot_here"] sp_whole _ fd12 := ⟨ok_whole F12 T O7, He.glo_ok X G (c.fact 12 rfl), F12.kp, F12.bindsN fun _ _ _ _ _ _ us hl => match us, hl with | [_], _ => rfl⟩
  cases r2
  obtain ⟨v1, rfl, rv⟩ : ∃ v1, u1 = [v1] ∧ L2.RelV (.int 1) v1 := by
    cases r1 with
    | cons a b =>
      cases b
      exact ⟨_, rfl, a⟩
  have O13 : Own R.prog w K mg base CX0 11 "_law_made" ["_law_top", "_law_low", "_law_is_short"] (sp_made K 5) _ fd13 := ⟨ok_made (n := 5) F13 T TC O5 b1 rv b2, He.glo_ok X G (c.fact 13 rfl), F13.kp, F13.bindsN fun _ _ _ _ _ _ us hl => match us, hl with | [_, _, _], _ => rfl⟩
  have O14 : Own R.prog w K mg base CX0 1 "_law_is_whole" ["_law_thing"] (sp_int K) _ fd14 := ⟨ok_is_whole F14 T, He.glo_ok X G (c.fact 14 rfl), F14.kp, F14.bindsN fun _ _ _ _ _ _ us hl => match us, hl with | [_], _ => rfl⟩
  have O15 : Own R.prog w K mg base CX0 3 "_law_due" ["_law_top", "_law_low"] (sp_due K) _ fd15 := ⟨ok_due F15 T O14 O9, He.glo_ok X G (c.fact 15 rfl), F15.kp, F15.bindsN fun _ _ _ _ _ _ us hl => match us, hl with | [_, _], _ => rfl⟩
  have k3 := kb1 (a := "value") F3 fun _ _ _ _ _ _ _ => rfl
  have O16 : OwnG R.prog w K mg base CX0 12 "_law_right" ["_law_pot_here"] sp_right _ fd16 := ⟨ok_right F16 T B O7 O10 O12 O13 O15 O11 O3 k3, He.glo_ok X G (c.fact 16 rfl), F16.kp, F16.bindsN fun _ _ _ _ _ _ us hl => match us, hl with | [_], _ => rfl⟩
  exact ok_law F T B O6 O16 O5 k5
end K12
open PySem PySem.W PySem.Calls PyProof.Rows
theorem PySem.Challenge.cw_lastheld_k12_numbers_judged_holds : PySem.Challenge.rw_lastheld_k12_numbers_judged.Holds := by
  w_on; o_law
  refine HandSHeadRun.head_any (r := OpenLaw.row PySem.Challenge.rw_lastheld_k12_numbers_judged) (q := view (OpenLaw.row PySem.Challenge.rw_lastheld_k12_numbers_judged).prog [28]) (H := K12.hk) (ob := K12.ob) (M := 4000) (loose := K12.names)
    (d := HandSHeadRun.topDef (OpenLaw.row PySem.Challenge.rw_lastheld_k12_numbers_judged).prog 28) (kwd := []) K12.ob_eq
    (by kernel_rfl) (fun s => by kernel_rfl) K12.run (by kernel_rfl) (by kernel_rfl) (by kernel_rfl) (by rfl) (by first | assumption | decide +kernel) (by decide +kernel) ⟨rfl, rfl, rfl, rfl, rfl, by decide +kernel⟩ ?hw ?hc
  case hw => w_witness2
  case hc =>
    refine Lw.walk_g (l := PySem.Challenge.rw_lastheld_k12_numbers_judged) (n := 63) (k := 13) (x := "_law_script") (CX := L2.CX0) rfl (by decide) (by kernel_rfl) (by kernel_rfl) ⟨rfl, by decide, by decide⟩ ?F (fun _ _ _ _ z => z)
    intro w mg fa h Y G hmg0
    obtain ⟨K, KX, c⟩ := Y
    have hmg : mg ("law" : PySem.Str) = some (.ref fa) := by
      have e : (HandSHeadRun.topDef (OpenLaw.row PySem.Challenge.rw_lastheld_k12_numbers_judged).prog 28).name = ("law" : PySem.Str) := by kernel_rfl
      rw [← e]
      exact hmg0
    obtain ⟨fd, hb, hF⟩ := K12.facts (w := w) KX G hmg c
    exact ⟨K, fd, K12.sp_law K, KX, hb, fun H a ns hl _ hS => ⟨a, ns, rfl, hS, hl, fun _ => rfl⟩, hF⟩


import PyProof.Rows.All
import Wide.All
import OpenK.AllK
import Wide.FinOn
import PyProof.ReprRoads
import PyProof.StrBlock2
import HandS.ForMost
import HandS.Walk
import HandS.IsInst
import HandS.Defaults
import HandS.Flow
import HandS.Wide
import HandS.HeadEnd
import HandS.Head0
import HandS.Head1
import HandS.Head2
import HandS.HeadHook1
import HandS.HeadHook2
import PySem.Challenge.RW_lastheld_k11_names_and_integers
set_option Elab.async false
set_option linter.all false
set_option maxRecDepth 100000
set_option maxHeartbeats 2000000
namespace Lw
open PySem PySem.Spec PyProof.Rows L2

/-! ## data with empty dicts, and repr -/
mutual
inductive Dq (K : PySem.W.Frag) (H : Hp) : V → PyData → Prop
  | non : Dq K H .non .none
  | bl (b : Bool) : Dq K H (.bl b) (.bool b)
  | int (i : Int) : Dq K H (.int i) (.int i)
  | str (x : Str) : Dq K H (.str x) (.str x)
  | lst {a : Addr} {xs : List V} {ds : List PyData} (h : SqL K H a xs) (g : DqAll K H xs ds) : Dq K H (.ref a) (.list ds)
  | tup {a : Addr} {xs : List V} {ds : List PyData} (h : SqT K H a xs) (g : DqAll K H xs ds) : Dq K H (.ref a) (.tuple ds)
  | dic {a : Addr} (h : H a = some (.dK [])) : Dq K H (.ref a) (.dict [])
inductive DqAll (K : PySem.W.Frag) (H : Hp) : List V → List PyData → Prop
  | nil : DqAll K H [] []
  | cons {v : V} {vs : List V} {d : PyData} {ds : List PyData} (h : Dq K H v d) (g : DqAll K H vs ds) : DqAll K H (v :: vs) (d :: ds)
end

theorem same_t {K : PySem.W.Frag} {H H' : Hp} {a : Addr} {xs : List V} (e : Same H H') (h : SqT K H a xs) : SqT K H' a xs := by
  rcases h with (h | ⟨o, h⟩) | h
  · exact .inl (.inl (e _ _ h))
  · exact .inl (.inr ⟨o, e _ _ h⟩)
  · exact .inr h
theorem same_upd {H : Hp} {p : Addr} {o : HO} (h : H p = none) : Same H (upd H p o) := fun b x e => by
  rw [upd_ne (ne_of_none e h)]
  exact e
mutual
theorem Dq.same {K : PySem.W.Frag} {H H' : Hp} (e : Same H H') : ∀ {v : V} {d : PyData}, Dq K H v d → Dq K H' v d
  | _, _, .non => .non
  | _, _, .bl b => .bl b
  | _, _, .int i => .int i
  | _, _, .str x => .str x
  | _, _, .lst h g => .lst (e.seq h) (DqAll.same e g)
  | _, _, .tup h g => .tup (same_t e h) (DqAll.same e g)
  | _, _, .dic h => .dic (e _ _ h)
theorem DqAll.same {K : PySem.W.Frag} {H H' : Hp} (e : Same H H') : ∀ {v : List V} {d : List PyData}, DqAll K H v d → DqAll K H' v d
  | _, _, .nil => .nil
  | _, _, .cons h g => .cons (Dq.same e h) (DqAll.same e g)
end

/-- the table of modules stands, and is a dict -/
def SysOk (h : Heap) : Prop := ∃ o es ep, h.get? sysModules = some o ∧ o.data = Data.dict es ep

section
variable {X : Cx} {pins : List (Addr × Obj)} {σ : L2.St} {H : Hp} {s : Shared}
theorem no_sys (B : SysOk X.base) (I : Inv X pins σ H s) {a : Addr} {o : Obj} {vs : Array Value} {n : Nat} (h : s.heap.get? a = some o) (hd : o.data = .seq vs n) : sysModules ≠ a := by
  obtain ⟨o', es, ep, e1, e2⟩ := B
  intro z
  have e3 := I.bk _ _ e1
  rw [z, h] at e3
  cases e3
  rw [hd] at e2
  cases e2
theorem dict0 (I : Inv X pins σ H s) {a : Addr} (h : H a = some (.dK [])) : ∃ o es ep, s.heap.get? a = some o ∧ o.cls = .type "dict" ∧ o.data = Data.dict es ep ∧ es.toList = [] ∧ sysModules ≠ a := by
  obtain ⟨_, h1, vs, kv, o, es, ep, e1, e2, e3, _, e5, _⟩ := (show ObjOk X.prog X.w H s.heap a (.dK []) from I.hok a _ h)
  have e6 : vs = [] := by
    have := Paired.length kv
    cases vs with
    | nil => rfl
    | cons _ _ => simp at this
  subst e6
  refine ⟨o, es, ep, e1, e2.1, e3, ?_, fun z => ?_⟩
  · generalize es.toList = l at e5
    cases e5
    rfl
  · rw [← z] at h1
    exact absurd h1 (by decide)
mutual
theorem Dq.reads (B : SysOk X.base) (I : Inv X pins σ H s) : ∀ (d : PyData) (v : V) (u : Value), Dq X.K H v d → RelV v u → ∃ as, Reads s.heap u d as ∧ sysModules ∉ as
  | .none, _, _, h, r => by
    cases h
    cases r
    exact ⟨_, Reads.none, by simp⟩
  | .bool b, _, _, h, r => by
    cases h
    cases r
    exact ⟨_, Reads.bool b, by simp⟩
  | .int i, _, _, h, r => by
    cases h
    obtain ⟨t, rfl⟩ := r
    exact ⟨_, Reads.int i t, by simp⟩
  | .str x, _, _, h, r => by
    cases h
    obtain ⟨t, rfl⟩ := r
    exact ⟨_, Reads.str x t, by simp⟩
  | .list ds, _, _, h, r => by
    cases h with
    | lst hs ha =>
      cases r
      obtain ⟨its, rv, ⟨o, n, ho, hc, _, hd⟩, _⟩ := I.list hs
      obtain ⟨as, hr, hn⟩ := DqAll.reads B I ds _ its ha rv
      refine ⟨_, Reads.list ho hc hd hr, fun z => ?_⟩
      rcases List.mem_cons.mp z with z | z
      · exact no_sys B I ho hd z
      · exact hn z
  | .tuple ds, _, _, h, r => by
    cases h with
    | tup hs ha =>
      cases r
      obtain ⟨its, rv, ⟨o, ho, hc, n, hd⟩, _⟩ := I.tuple hs
      obtain ⟨as, hr, hn⟩ := DqAll.reads B I ds _ its ha rv
      exact ⟨_, Reads.tuple ho hc hd hr, hn⟩
  | .dict kvs, _, _, h, r => by
    cases h with
    | dic h =>
      cases r
      obtain ⟨o, es, ep, e1, e2, e3, e4, e5⟩ := dict0 I h
      refine ⟨_, Reads.dict (as := []) (bs := []) e1 e2 e3 ?_ ?_, fun z => ?_⟩
      · rw [e4]
        exact .nil
      · rw [e4]
        exact .nil
      · rcases List.mem_cons.mp z with z | z
        · exact e5 z
        · simp at z
theorem DqAll.reads (B : SysOk X.base) (I : Inv X pins σ H s) : ∀ (ds : List PyData) (vs : List V) (us : List Value), DqAll X.K H vs ds → Vals vs us → ∃ as, ReadsAll s.heap us ds as ∧ sysModules ∉ as
  | [], _, _, h, r => by
    cases h
    cases r
    exact ⟨_, ReadsAll.nil, by simp⟩
  | d :: ds, _, _, h, r => by
    cases h with
    | cons h1 h2 =>
      cases r with
      | cons r1 r2 =>
        obtain ⟨as, q1, n1⟩ := Dq.reads B I d _ _ h1 r1
        obtain ⟨bs, q2, n2⟩ := DqAll.reads B I ds _ _ h2 r2
        refine ⟨_, ReadsAll.cons q1 q2, fun z => ?_⟩
        rcases List.mem_append.mp z with z | z
        · exact n1 z
        · exact n2 z
end
end

/-- repr(x) of data: its text -/
def rRepr (K : PySem.W.Frag) : List V → Hp → VK → Prop := fun xs H Q =>
  ∃ (v : V) (d : PyData), xs = [v] ∧ Dq K H v d ∧ d.showable = true ∧ d.shown.length ≤ sizeLine ∧ d.depth ≤ 60 ∧ Q (.str d.shown) H
section
variable {X : Cx}
theorem call_repr (B : SysOk X.base) (hg : X.A.guards = some []) (hu : X.A.units + 64 < cLine) : CallR X (.builtin "repr") (rRepr X.K) := by
  intro pins s σ H xs us Q I r h
  obtain ⟨v, d, rfl, hd, hs, hz, hp, q⟩ := h
  obtain ⟨u, rfl, ru⟩ := vals1 r
  obtain ⟨as, r1, ns⟩ := Dq.reads B I d v u hd ru
  cases r1 with
  | none => exact PySem.P.repr_of_none ⟨.str _, H, I.tok _, ⟨_, rfl⟩, q⟩
  | bool b => exact PySem.P.repr_of_bool ⟨.str _, H, I.tok _, ⟨_, rfl⟩, q⟩
  | int i t => exact PySem.P.repr_of_int (by simpa [PyData.showable] using hs) ⟨.str _, H, I.tok _, ⟨_, rfl⟩, q⟩
  | str x t => exact PySem.P.repr_of_str ⟨.str _, H, I.tok _, ⟨_, rfl⟩, q⟩ hz
  | list h1 h2 h3 h4 => exact repr_of_reads' (Reads.list h1 h2 h3 h4) hs (fun _ => ns) hg (by omega) (fun _ _ e => e) (fun h' u tk hk => ⟨.str _, H, I.kept hk, ⟨_, rfl⟩, q⟩) hz
  | tuple h1 h2 h3 h4 => exact repr_of_reads' (Reads.tuple h1 h2 h3 h4) hs (fun _ => ns) hg (by omega) (fun _ _ e => e) (fun h' u tk hk => ⟨.str _, H, I.kept hk, ⟨_, rfl⟩, q⟩) hz
  | dict h1 h2 h3 h4 h5 => exact repr_of_reads' (Reads.dict h1 h2 h3 h4 h5) hs (fun _ => ns) hg (by omega) (fun _ _ e => e) (fun h' u tk hk => ⟨.str _, H, I.kept hk, ⟨_, rfl⟩, q⟩) hz
/-- text * int -/
def rMulS : R2 := fun x y H Q => ∃ (z : Str) (n : Int), x = .str z ∧ y = .int n ∧ MulOk z n ∧ Q (.str (Txt.mul z n)) H
theorem op_mulS : OpR X (binaryOp .Mult) rMulS := by
  intro pins s σ H x y v u Q I rx ry h
  obtain ⟨z, n, rfl, rfl, ok, q⟩ := h
  obtain ⟨t, rfl⟩ := rx
  obtain ⟨t', rfl⟩ := ry
  exact PySem.SB.mul ok fun t k => ⟨.str _, H, I.tok _, ⟨_, rfl⟩, q⟩
end

/-! ## calls by keywords alone -/
section
variable {X : Cx} {CX : CXT} {k n : Nat} {f : Addr} {fd : FuncData} {ps ks : List Str} {sp : Sp} {E : XK} {x : Str} {p pos : Pos} {kws : List Keyword} {tk : TA} {g : List Value → List Value → List Value} {gV : List V → List V → List V}
theorem pe_callW (F : FnOk X.prog X.w X.K X.mg X.base CX k f fd ps sp) (hr : Room k X.A) (hg : Gl X x) (hm : X.mg x = some (.ref f)) (hk : PySem.W.keepIn X.K (.ref f) = true) (hb : KBn X.K fd ps 0 ks g gV)
    (hx : Passes CX X E) (hkw : PK X kws tk)
    (hall : (backToKw pos (keywordEach kws X.env)).all (fun q => q.1.isSome) = true := by rfl)
    (hks : (backToKw pos (keywordEach kws X.env)).filterMap (fun q => q.1) = ks := by rfl)
    (hdb : (x == ("__debug__" : Str)) = false := by decide)
    (hpl : ((backTo pos (starEach [] X.env)).any (fun q => q.1) || (backToKw pos (keywordEach kws X.env)).any (fun q => q.1.isNone)) = false := by rfl) :
    PE X (.Call (.Name x p) [] kws pos) (tCallN 0 ks.length sp gV E tNil tk) := by
  constructor
  intro pins s σ H Q I h
  refine wpAny_Call_Name_kw (ld_glob I hg hm ?_ hdb)
  refine PySem.W.callWith_KW0 (h₀ := X.base) I.ok.mod.kin hk hall ?_ hpl
  refine thn (hkw.run pos pins s σ H _ I h) fun ws s2 hq => ?_
  obtain ⟨zs, H2, I2, rz, l1, l2, q2⟩ := hq
  refine ⟨I2.kIn, ?_⟩
  rw [hks]
  exact run_fnN (us := []) (vs := []) F hr hb hx I2 .nil rz rfl l2 q2
/-- one keyword for the one parameter -/
theorem kb1 {K : PySem.W.Frag} {y qual : Str} {params : Arguments} {body : List Stmt} {scope : Scope} {kw : List (Str × V)} {f : Addr} {fd : FuncData} {a : Str} (F : FunD K y qual params body scope [] kw f fd)
    (h : ∀ (kV doc pm : Value) (an : Option Addr) (cdv ct v : Value), bindArgs (PySem.W.fnOf y qual params body scope .none kV doc pm an cdv ct) ⟨[], [(a, v)]⟩ = pure [(a, v)]) :
    KBn K fd [a] 0 [a] (fun _ ws => ws) (fun _ zs => zs) := by
  obtain ⟨oc, od, dV, kV, doc, pm, an, cdv, ct, osl, rfl, lk, hcd, hD, hK⟩ := F.ex
  rcases hD with ⟨_, rfl⟩ | ⟨e, _⟩
  · refine ⟨fun s us ws X l1 l2 => ?_, fun _ r => r⟩
    match us, ws, l1, l2 with
    | [], [v], _, _ => exact .of_eq (h kV doc pm an cdv ct v)
  · exact absurd rfl e
end

/-! ## defs that are called where no repr is under way -/
structure FnG (P : Program) (w : World) (K : PySem.W.Frag) (mg : Str → Option Value) (base : Heap) (CX : CXT) (k : Nat) (f : Addr) (fd : FuncData) (ps : List Str) (sp : Sp) : Prop where
  len : ∀ vs H Q E, sp vs H Q E → vs.length = ps.length
  run : ∀ (A : Around) (outer : List Env) (s : Shared) (H : Hp) (args : Args) (us : List Value) (vs : List V) (Q : VK) (E : XK),
    A.guards = some [] → Room k A → Env0 P w K mg base A outer s H → BindsTo s fd args (ps.zip us) → Vals vs us → sp vs H Q E →
      codeAny (model P w) A (.call (.ref f) args) (CR CX outer P w H s Q E) s
section
variable {P : Program} {w : World} {K : PySem.W.Frag} {mg : Str → Option Value} {base : Heap} {x qual : Str} {params : Arguments} {body : List Stmt} {scope : Scope} {dvs : List V} {kws : List (Str × V)} {f : Addr} {fd : FuncData}
theorem fn_g {CX : CXT} {N ps : List Str} {k : Nat} {sp : Sp} (F : FunD K x qual params body scope dvs kws f fd) (S : FnScope N ps scope) (len : ∀ vs H Q E, sp vs H Q E → vs.length = ps.length)
    (hbody : ∀ (cdv : Value) (A : Around) (outer : List Env) (s : Shared) (H : Hp) (vs : List V) (Q : VK) (E : XK),
      A.guards = some [] → Room k (A.deeper (envOfC qual scope s.heap.objs.size f cdv)) → sp vs H Q E →
      ∃ t, PSs (cxOf CX P w K mg base N qual scope f cdv A outer s H E) body t ∧ t { nx := fun _ H' => Q .non H', rt := Q } (start N vs) H) :
    FnG P w K mg base CX (k + 1) f fd ps sp := by
  obtain ⟨oc, od, dV, kV, doc, pm, an, cdv, ct, osl, rfl, lk, hcd, _, _⟩ := F.ex
  refine ⟨len, fun A outer s H args us vs Q E hg hr e0 hb r hsp => ?_⟩
  have hk := fun b o e => (e0.bs b o e).1
  have KX : K.In s.heap := e0.mod.kin.keeps hk
  have lim : s.heap.NoLimit := e0.mod.nolimit.keeps hk
  have hkind : ∀ y ∈ ps.zip us, scope.names.lookup y.1 = some .local ∨ (scope.names.lookup y.1 = some .cell ∧ ((cellsFrom (s.heap.objs.size + 1) scope.names []).lookup y.1).isSome = true) := by
    rintro ⟨n, v⟩ hy
    exact (S.par n (List.of_mem_zip hy).1).imp (fun q => q) fun q => ⟨q, PySem.W.cellsFrom_some _ _ _ (.inl q)⟩
  refine codeAny_call_function hr.depth (KX _ _ lk) rfl S.co S.gen rfl (PySem.W.codeRec_of KX hcd) (hb _ _ _ _ ?_)
  refine wpAny_newFunctionEnv_cells S.kind hkind fun env he s1 y => ?_
  subst he
  obtain ⟨t, ht, hq⟩ := hbody cdv A outer s H vs Q E hg (hr.deeper _) hsp
  have I := inv_start (CX := CX) (E := E) S hr.hd e0 (len _ _ _ _ hsp) r y
  refine ⟨lim.keeps y.toInCall.keep, codeAny_func (wpAny_mono (ht.run [] s1 (start N vs) H _ I hq) (fun fl s' hs => ?_) fun e s' hs => hs)⟩
  cases fl with
  | ret u =>
    obtain ⟨v, σ', H', J, rv, q⟩ := hs
    exact ⟨v, H', J.os, J.bare, J.base, J.hok, rv, q⟩
  | next =>
    obtain ⟨σ', H', J, q⟩ := hs
    exact ⟨V.non, H', J.os, J.bare, J.base, J.hok, rfl, q⟩
  | brk => exact hs.elim fun _ z => z.elim fun _ z => z.2.elim
  | cont => exact hs.elim fun _ z => z.elim fun _ z => z.2.elim
end
section
variable {X : Cx} {CX : CXT} {k : Nat} {f : Addr} {fd : FuncData} {ps : List Str} {sp : Sp} {dvs : List V} {ds : List Value} {E : XK} {x : Str} {p pos : Pos} {e : Expr} {es : List Expr} {t : TA}
theorem run_g {pins : List (Addr × Obj)} {σ : L2.St} {H : Hp} {s : Shared} {Q : VK} {us : List Value} {vs : List V} (F : FnG X.prog X.w X.K X.mg X.base CX k f fd ps sp) (hgd : X.A.guards = some []) (hr : Room k X.A) (hb : Binds X.K fd ps ds) (hd : Vals dvs ds) (hx : Passes CX X E)
    (I : Inv X pins σ H s) (r : Vals vs us) (h : sp (vs ++ dvs) H Q E) : wpAny (model X.prog X.w) X.A (call (.ref f) us) (EP X pins σ Q) X.xe s := by
  have r2 : Vals (vs ++ dvs) (us ++ ds) := r.append hd
  have hl : (us ++ ds).length = ps.length := r2.length.symm.trans (F.len _ _ _ _ h)
  refine wpAny_call (codeAny_mono (F.run X.A X.stack s H ⟨us, []⟩ _ _ Q E hgd hr I.env0 (hb s us I.kIn hl) r2 h) fun r s' hq => ?_)
  match r, hq with
  | .error e, hq => exact hx pins σ H s e s' I hq
  | .ok (.ret u), hq => exact I.after hq
  | .ok .next, hq => exact False.elim hq
  | .ok .brk, hq => exact False.elim hq
  | .ok .cont, hq => exact False.elim hq
theorem pe_callg (F : FnG X.prog X.w X.K X.mg X.base CX k f fd ps sp) (hgd : X.A.guards = some []) (hr : Room k X.A) (hg : Gl X x) (hm : X.mg x = some (.ref f)) (hk : PySem.W.keepIn X.K (.ref f) = true) (hb : Binds X.K fd ps ds) (hd : Vals dvs ds) (hx : Passes CX X E)
    (ha : PA X (e :: es) t) (hdb : (x == ("__debug__" : Str)) = false := by decide) (he : starEach (e :: es) X.env = (false, eval e X.env) :: starEach es X.env := by rfl)
    (hpl : (backTo pos (starEach es X.env)).any (fun q => q.1) = false := by rfl) : PE X (.Call (.Name x p) (e :: es) [] pos) (tCall sp dvs E t) := by
  constructor
  intro pins s σ H Q I h
  refine wpAny_Call_Name_kw (ld_glob I hg hm (PySem.W.callWith_K (h₀ := X.base) I.ok.mod.kin hk ?_ he hpl) hdb)
  exact thn (ha.run pos pins s σ H _ I h) fun us s1 ⟨vs, H1, I1, r, q⟩ => ⟨I1.kIn, run_g F hgd hr hb hd hx I1 r q⟩
theorem pe_callg0 (F : FnG X.prog X.w X.K X.mg X.base CX k f fd ps sp) (hgd : X.A.guards = some []) (hr : Room k X.A) (hg : Gl X x) (hm : X.mg x = some (.ref f)) (hk : PySem.W.keepIn X.K (.ref f) = true) (hb : Binds X.K fd ps ds) (hd : Vals dvs ds) (hx : Passes CX X E)
    (hdb : (x == ("__debug__" : Str)) = false := by decide) : PE X (.Call (.Name x p) [] [] pos) (tCall sp dvs E tNil) := by
  constructor
  intro pins s σ H Q I h
  exact wpAny_Call_Name_kw (ld_glob I hg hm (PySem.W.callWith_K0 I.kIn hk (run_g (us := []) F hgd hr hb hd hx I .nil h)) hdb)
end

/-! ## the law's own call -/
theorem law_g {P : Program} {w : World} {K : PySem.W.Frag} {mg mb : Str → Option Value} {CX : CXT} {k : Nat} {fa a : Addr} {fd : FuncData} {x : Str} {sp : Sp} {s₁ : Shared} {vs : List Value} {ns : List Int}
    (KX : K.In s₁.heap) (hns : s₁.heap.Ns mainGlobals mg) (hb : s₁.heap.Ns builtinsNs mb) (hbb : ∀ x : Str, x ≠ "__name__" → mb x = bootBuiltins x) (hlim : s₁.heap.NoLimit) (hsy : SysOk s₁.heap) (hg : s₁.gens = #[])
    (ha : s₁.heap.get? a = some { cls := .type "list", data := .seq vs.toArray }) (hi : IntsAre vs ns) (hl : ns.length ≤ sizeLine) (hr : Room k callerA)
    (F : ∀ base : Heap, K.In base → base.Ns mainGlobals mg → SysOk base → FnG P w K mg base CX k fa fd [x] sp) (hbind : ∀ (s : Shared) (u : Value), BindsTo s fd ⟨[u], []⟩ [(x, u)])
    (hsp : ∀ H : Hp, Only H → SqL K H a (ns.map V.int) → sp [.ref a] H (fun v _ => v = .bl true) fun _ _ _ => False)
    (hCX : ∀ H e s', CX [] H s₁ (fun _ _ _ => False) e s' → False) :
    codeAny (model P w) callerA (.call (.ref fa) ⟨[.ref a], []⟩) (fun r s' => r = .ok (.ret (.bool true)) ∧ OldK s₁.heap s'.heap ∧ s'.os = s₁.os ∧ AllBare s'.gens) s₁ := by
  have rv := vals_ints hi
  have core : ∀ H : Hp, Only H → SqL K H a (ns.map V.int) → HOk P w H s₁.heap → (∀ b, H b ≠ none → b = a) → (H a ≠ none → K.lookup a = none) →
      codeAny (model P w) callerA (.call (.ref fa) ⟨[.ref a], []⟩) (fun r s' => r = .ok (.ret (.bool true)) ∧ OldK s₁.heap s'.heap ∧ s'.os = s₁.os ∧ AllBare s'.gens) s₁ := by
    intro H hO hS hok hA hK
    -- a dict is not the script: it is not tracked
    have noA : ∀ {b : Addr} {o : Obj} {es : Array DictEntry} {ep : Nat}, s₁.heap.get? b = some o → o.data = Data.dict es ep → H b = none := by
      intro b o es ep e d
      refine Classical.byContradiction fun z => ?_
      have e' := hA b z
      subst e'
      rw [ha] at e
      cases e
      cases d
    have nsK : ∀ {b : Addr} {m : Str → Option Value}, s₁.heap.Ns b m → (hidT s₁.heap H).Ns b m := by
      rintro b m ⟨o, es, ep, e, d, r⟩
      exact ⟨o, es, ep, hidT_get e (noA e d), d, r⟩
    have hKb : K.In (hidT s₁.heap H) := by
      intro b o e
      refine hidT_get (KX b o e) (Classical.byContradiction fun z => ?_)
      have e' := hA b z
      subst e'
      rw [hK z] at e
      cases e
    have hM : Mod K mg (hidT s₁.heap H) := by
      obtain ⟨mc, h1, h2⟩ := hlim
      exact ⟨hKb, nsK hns, ⟨mb, nsK hb, hbb⟩, ⟨mc, nsK h1, h2⟩⟩
    have hB : SysOk (hidT s₁.heap H) := by
      obtain ⟨o, es, ep, e1, e2⟩ := hsy
      exact ⟨o, es, ep, hidT_get e1 (noA e1 e2), e2⟩
    have e0 : Env0 P w K mg (hidT s₁.heap H) callerA [] s₁ H := ⟨rfl, hM, fun b o e => of_hidT e, Nat.le_of_eq (hidT_size _ _), trivial, fun b hb => absurd (show b ∈ ([] : List Addr) from hb) (by simp), hok, .of_eq hg⟩
    have run := (F _ hKb (nsK hns) hB).run callerA [] s₁ H ⟨[.ref a], []⟩ [.ref a] [.ref a] _ _ rfl hr e0 (hbind s₁ (.ref a)) (.cons rfl .nil) (hsp H hO hS)
    refine codeAny_mono run fun r s' h => ?_
    match r, h with
    | .error e, h => exact (hCX H e s' h).elim
    | .ok .next, h => exact False.elim h
    | .ok .brk, h => exact False.elim h
    | .ok .cont, h => exact False.elim h
    | .ok (.ret u), h =>
      obtain ⟨v, H', os, bare, un, hok', r', q⟩ := h
      cases (show v = .bl true from q)
      cases (show u = Value.bool true from r')
      refine ⟨rfl, OldK.of_keep fun b o e => ?_, os, bare⟩
      rcases hO b with z | ⟨ob, xs, z⟩
      · exact un.keep b o e z (by intro y; exact absurd (show b ∈ ([] : List Addr) from y) (by simp)) (by simp)
      · have e1 := (hok b _ z).1
        rw [e] at e1
        cases e1
        exact (hok' b _ (un.frzs b _ _ z)).1
  cases hk : K.lookup a with
  | some o =>
    have e := KX a o hk
    rw [ha] at e
    cases e
    refine core (fun _ => none) (fun _ => .inl rfl) (.inr ⟨_, vs.toArray, _, hk, rfl, rfl, rfl, ?_, ?_⟩) (fun b u z => nomatch z) (fun b z => absurd rfl z) fun z => absurd rfl z
    · rw [List.size_toArray, hi.length]
      exact hl
    · simpa using rv
  | none =>
    refine core (upd (fun _ => none) a (.frz { cls := .type "list", data := .seq vs.toArray } (.lst (ns.map V.int)))) (fun b => ?_) (.inl (.inr ⟨_, upd_same⟩)) (fun b u z => ?_) (fun b z => ?_) fun _ => hk
    · by_cases hb : b = a
      · exact .inr ⟨_, _, by rw [hb]; exact upd_same⟩
      · exact .inl (by rw [upd_ne hb])
    · by_cases hb : b = a
      · subst hb
        rw [upd_same] at z
        cases z
        exact ⟨ha, by rw [List.length_map]; exact hl, vs, _, rv, ha⟩
      · rw [upd_ne hb] at z
        cases z
    · exact Classical.byContradiction fun hb => z (by rw [upd_ne hb])

theorem walk_g {l : PySem.W.OpenLaw} {n k : Nat} {q : Program} {loose : List Str} {XP : (Str → Option Value) → Heap → Prop} {YP : World → Heap → Prop} {d : DefRec} {CX : CXT} {x : Str}
    (hn : l.most = some n) (hn2 : n ≤ sizeLine) (hdf : d.params.defaults = []) (hi : importsNone q = true) (hr : Room k callerA)
    (F : ∀ (w : World) (mg : Str → Option Value) (fa : Addr) (h : Heap), YP w h → h.Ns mainGlobals mg → mg d.name = some (.ref fa) →
      ∃ (K : PySem.W.Frag) (fd : FuncData) (sp : Sp), K.In h ∧ (∀ (s : Shared) (u : Value), BindsTo s fd ⟨[u], []⟩ [(x, u)]) ∧
        (∀ (H : Hp) (a : Addr) (ns : List Int), ns.length ≤ n → Only H → SqL K H a (ns.map V.int) → sp [.ref a] H (fun v _ => v = .bl true) fun _ _ _ => False) ∧
        ∀ base : Heap, K.In base → base.Ns mainGlobals mg → SysOk base → FnG l.prog w K mg base CX k fa fd [x] sp)
    (hCX : ∀ (H : Hp) (s : Shared) (e : Value) (s' : Shared), CX [] H s (fun _ _ _ => False) e s' → False) :
    PySem.W.WalkO q loose XP YP l.row.toRowW d [] (fun f vs => PySem.call f vs) := by
  refine Att.attach_call hn hdf fun w s₀ s₁ mg mb fa o pm cd doc a vs ns G Y ho hd hcd hmg hobj hints hlen hg => ?_
  obtain ⟨K, fd, sp, KX, hb, hsp, hF⟩ := F w mg fa _ Y G.T.g hmg
  have hsy : SysOk s₁.heap := by
    obtain ⟨mm, ⟨o, es, ep, e1, e2, _⟩, _⟩ := (G.T.seer hi).mods
    exact ⟨o, es, ep, e1, e2⟩
  exact law_g KX G.T.g G.T.b G.T.builtins G.T.nolimit hsy hg hobj hints (Nat.le_trans hlen hn2) hr hF hb (fun H hO hS => hsp H a ns hlen hO hS) fun H e s' => hCX H s₁ e s'
end Lw

set_option Elab.async false
set_option linter.all false
set_option maxRecDepth 100000
set_option maxHeartbeats 2000000
namespace Lw
open PySem PySem.Spec PyProof.Rows L2

/-! ## the heap without one object -/
def off (H : Hp) (a : Addr) : Hp := fun b => if b = a then none else H b
theorem off_ne {H : Hp} {a b : Addr} (h : b ≠ a) : off H a b = H b := by
  unfold off
  rw [if_neg h]
theorem off_self {H : Hp} {a : Addr} : off H a a = none := by
  unfold off
  rw [if_pos rfl]
theorem off_get {H : Hp} {a b : Addr} {o : HO} (h : off H a b = some o) : b ≠ a ∧ H b = some o := by
  by_cases e : b = a
  · rw [e, off_self] at h
    cases h
  · exact ⟨e, (off_ne e).symm.trans h⟩
theorem off_same {H : Hp} {a : Addr} : Same (off H a) H := fun _ _ h => (off_get h).2
/-- all but a is as it was -/
def Off (a : Addr) (H H' : Hp) : Prop := Same (off H a) (off H' a)
theorem Off.refl {a : Addr} {H : Hp} : Off a H H := fun _ _ h => h
theorem Off.trans {a : Addr} {H H1 H2 : Hp} (x : Off a H H1) (y : Off a H1 H2) : Off a H H2 := fun b o h => y b o (x b o h)
theorem Off.get {a b : Addr} {H H' : Hp} {o : HO} (x : Off a H H') (h : H b = some o) (n : b ≠ a) : H' b = some o := by
  have e := x b o ((off_ne n).trans h)
  exact (off_get e).2
theorem Off.at {a : Addr} {H : Hp} {o : HO} : Off a H (upd H a o) := by
  intro b u h
  obtain ⟨n, e⟩ := off_get h
  rw [off_ne n, upd_ne n]
  exact e
theorem Off.new {a p : Addr} {H : Hp} {o : HO} (h : H p = none) : Off a H (upd H p o) := by
  intro b u g
  obtain ⟨n, e⟩ := off_get g
  rw [off_ne n, upd_ne (ne_of_none e h)]
  exact e
theorem Off.same {a : Addr} {H H' : Hp} (x : Same H H') : Off a H H' := by
  intro b u g
  obtain ⟨n, e⟩ := off_get g
  rw [off_ne n]
  exact x _ _ e
theorem Off.free {a p : Addr} {H H' : Hp} (x : Off a H H') (h : H' p = none) (ha : ∃ o, H a = some o) (n : p ≠ a) : H p = none := by
  cases e : H p with
  | none => rfl
  | some o =>
    rw [x.get e n] at h
    cases h

/-! ## the pot -/
def PotAt (H : Hp) (a : Addr) : Prop := ∃ p q : Int, H a = some (.lst [.int p, .int q]) ∧ 0 ≤ q ∧ q < 2147483648
theorem PotAt.new {H : Hp} {a p : Addr} {o : HO} (h : PotAt H a) (n : H p = none) : PotAt (upd H p o) a := by
  obtain ⟨x, y, e, r⟩ := h
  exact ⟨x, y, by rw [upd_ne (ne_of_none e n)]; exact e, r⟩
theorem PotAt.same {H H' : Hp} {a : Addr} (h : PotAt H a) (s : Same H H') : PotAt H' a := by
  obtain ⟨x, y, e, r⟩ := h
  exact ⟨x, y, s _ _ e, r⟩
theorem PotAt.ne {H : Hp} {a p : Addr} (h : PotAt H a) (n : H p = none) : p ≠ a := by
  obtain ⟨x, y, e, r⟩ := h
  exact (ne_of_none e n).symm

/-! ## data: kinds -/
def tyD : PyData → String
  | .none => "NoneType"
  | .bool _ => "bool"
  | .int _ => "int"
  | .str _ => "str"
  | .list _ => "list"
  | .tuple _ => "tuple"
  | .dict _ => "dict"
theorem Dq.ty {K : PySem.W.Frag} {H : Hp} {v : V} {d : PyData} (h : Dq K H v d) : TyX K H v (.type (tyD d)) := by
  cases h with
  | non => exact .base .non
  | bl b => exact .base (.bl b)
  | int i => exact .base (.int i)
  | str x => exact .base (.str x)
  | lst h _ =>
    rcases h with (h | ⟨o, h⟩) | ⟨o, xs, n, h1, h2, _⟩
    · exact .base (.lst h)
    · exact .base (.frz h)
    · exact .kList h1 h2
  | tup h _ =>
    rcases h with (h | ⟨o, h⟩) | ⟨o, xs, n, h1, h2, _⟩
    · exact .base (.tup h)
    · exact .fTuple h
    · exact .kTuple h1 h2
  | dic h => exact .base (.dK h)
/-- isinstance of data and a built-in class -/
theorem isi_ty {K : PySem.W.Frag} {H : Hp} {v : V} {d : PyData} {T : String} {b : Bool} {Q : VK} (h : Dq K H v d) (e : kitB (tyD d) T = some b) (q : Q (.bl b) H) : rIsi K [v, .ty T] H Q :=
  ⟨v, .ty T, .type (tyD d), .type T, b, rfl, .ty T, h.ty, kit_ty e, q⟩

/-! ## data: sizes -/
theorem len_list2 (a b : Str) : (listText [a, b]).length = a.length + b.length + 4 := by
  show (((("[" : Str) ++ ("" : String) ++ a) ++ (", " : String) ++ b) ++ ("]" : Str)).length = _
  simp only [strLen_append]
  show 1 + 0 + a.length + 2 + b.length + 1 = _
  omega
theorem len_list3 (a b c : Str) : (listText [a, b, c]).length = a.length + b.length + c.length + 6 := by
  show ((((("[" : Str) ++ ("" : String) ++ a) ++ (", " : String) ++ b) ++ (", " : String) ++ c) ++ ("]" : Str)).length = _
  simp only [strLen_append]
  show 1 + 0 + a.length + 2 + b.length + 2 + c.length + 1 = _
  omega
theorem len_bool (b : Bool) : (PyData.bool b).shown.length ≤ 5 := by cases b <;> decide
/-- data that can be shown in a row -/
structure Small (n : Nat) (d : PyData) : Prop where
  sh : d.showable = true
  ln : d.shown.length ≤ n
  dp : d.depth ≤ 10
theorem Small.mono {n m : Nat} {d : PyData} (h : Small n d) (e : n ≤ m) : Small m d := ⟨h.sh, Nat.le_trans h.ln e, h.dp⟩

/-! ## texts of single signs -/
def Bytes (z : Str) : Prop := ∀ c ∈ z.cps.toList, c < 256
theorem small_text {z : Str} {n : Nat} (h : Bytes z) (l : z.length ≤ n) : Small (10 * n + 2) (.str z) := by
  refine ⟨rfl, ?_, ?_⟩
  · have e := StrLaws.reprText_len z fun c hc => Nat.lt_trans (h c hc) (by decide)
    show (reprText z).length ≤ _
    omega
  · simp [PyData.depth]
theorem bytes_join : ∀ (ys : List Str), (∀ y ∈ ys, y.length = 1 ∧ Bytes y) → (Str.join "" ys).length = ys.length ∧ Bytes (Str.join "" ys)
  | [], _ => ⟨rfl, fun c hc => by cases hc⟩
  | [x], h => ⟨(h x (by simp)).1, (h x (by simp)).2⟩
  | x :: y :: r, h => by
    obtain ⟨h1, h2⟩ := bytes_join (y :: r) fun z hz => h z (List.mem_cons_of_mem _ hz)
    obtain ⟨h3, h4⟩ := h x (by simp)
    have e : Str.join "" (x :: y :: r) = x ++ ("" : Str) ++ Str.join "" (y :: r) := rfl
    constructor
    · rw [e, strLen_append, strLen_append, h1, h3]
      show 1 + 0 + (y :: r).length = (y :: r).length + 1
      omega
    · intro c hc
      rw [e] at hc
      have hc' : c ∈ x.cps.toList ++ ([] : List Nat) ++ (Str.join "" (y :: r)).cps.toList := by
        have : (x ++ ("" : Str) ++ Str.join "" (y :: r)).cps.toList = x.cps.toList ++ ([] : List Nat) ++ (Str.join "" (y :: r)).cps.toList := by
          show ((x.cps ++ #[]) ++ (Str.join "" (y :: r)).cps).toList = _
          simp
        rw [← this]
        exact hc
      simp only [List.append_nil, List.mem_append] at hc'
      rcases hc' with q | q
      · exact h4 c q
      · exact h2 c q
theorem sum_ones {ys : List Str} (h : ∀ y ∈ ys, y.length = 1 ∧ Bytes y) : (ys.map fun y => y.length).sum = ys.length := by
  induction ys with
  | nil => rfl
  | cons y r ih =>
    rw [List.map_cons, List.sum_cons, ih fun z hz => h z (List.mem_cons_of_mem _ hz), (h y (by simp)).1, List.length_cons]
    omega
/-- an item of a list, at a place that is told -/
theorem at_in {α : Type} {xs : List α} {i : Int} (h0 : 0 ≤ i) (h1 : i < xs.length) : ∃ v, v ∈ xs ∧ xs[i.toNat]? = some v ∧ atI xs i = some v := by
  have h2 : i.toNat < xs.length := by omega
  refine ⟨xs[i.toNat], List.getElem_mem h2, List.getElem?_eq_getElem h2, ?_⟩
  have q := atI_nat (xs := xs) (j := i.toNat) (List.getElem?_eq_getElem h2)
  rw [Int.toNat_of_nonneg h0] at q
  exact q

/-! ## an own def, with all that a call wants -/
structure Own (P : Program) (w : World) (K : PySem.W.Frag) (mg : Str → Option Value) (base : Heap) (CX : CXT) (k : Nat) (x : Str) (ps : List Str) (sp : Sp) (f : Addr) (fd : FuncData) : Prop where
  ok : FnOk P w K mg base CX k f fd ps sp
  m : mg x = some (.ref f)
  kp : PySem.W.keepIn K (.ref f) = true
  b : Binds K fd ps []
structure OwnG (P : Program) (w : World) (K : PySem.W.Frag) (mg : Str → Option Value) (base : Heap) (CX : CXT) (k : Nat) (x : Str) (ps : List Str) (sp : Sp) (f : Addr) (fd : FuncData) : Prop where
  ok : FnG P w K mg base CX k f fd ps sp
  m : mg x = some (.ref f)
  kp : PySem.W.keepIn K (.ref f) = true
  b : Binds K fd ps []
section
variable {X : Cx} {CX : CXT} {k : Nat} {f : Addr} {fd : FuncData} {ps ks : List Str} {sp : Sp} {x : Str} {p pos : Pos} {e : Expr} {es : List Expr} {t tk : TA} {kws : List Keyword} {g : List Value → List Value → List Value} {gV : List V → List V → List V}
theorem pe_own (O : Own X.prog X.w X.K X.mg X.base CX0 k x ps sp f fd) (hr : Room k X.A) (ha : PA X (e :: es) t) (hg : Gl X x := by rfl) (hdb : (x == ("__debug__" : Str)) = false := by decide)
    (he : starEach (e :: es) X.env = (false, eval e X.env) :: starEach es X.env := by rfl) (hpl : (backTo pos (starEach es X.env)).any (fun q => q.1) = false := by rfl) :
    PE X (.Call (.Name x p) (e :: es) [] pos) (tCall sp [] E0 t) := pe_call O.ok hr hg O.m O.kp O.b .nil pass0 ha hdb he hpl
theorem pe_own0 (O : Own X.prog X.w X.K X.mg X.base CX0 k x ps sp f fd) (hr : Room k X.A) (hg : Gl X x := by rfl) (hdb : (x == ("__debug__" : Str)) = false := by decide) :
    PE X (.Call (.Name x p) [] [] pos) (tCall sp [] E0 tNil) := pe_call0 O.ok hr hg O.m O.kp O.b .nil pass0 hdb
theorem pe_owng (O : OwnG X.prog X.w X.K X.mg X.base CX0 k x ps sp f fd) (hgd : X.A.guards = some []) (hr : Room k X.A) (ha : PA X (e :: es) t) (hg : Gl X x := by rfl) (hdb : (x == ("__debug__" : Str)) = false := by decide)
    (he : starEach (e :: es) X.env = (false, eval e X.env) :: starEach es X.env := by rfl) (hpl : (backTo pos (starEach es X.env)).any (fun q => q.1) = false := by rfl) :
    PE X (.Call (.Name x p) (e :: es) [] pos) (tCall sp [] E0 t) := pe_callg O.ok hgd hr hg O.m O.kp O.b .nil pass0 ha hdb he hpl
theorem pe_owng0 (O : OwnG X.prog X.w X.K X.mg X.base CX0 k x ps sp f fd) (hgd : X.A.guards = some []) (hr : Room k X.A) (hg : Gl X x := by rfl) (hdb : (x == ("__debug__" : Str)) = false := by decide) :
    PE X (.Call (.Name x p) [] [] pos) (tCall sp [] E0 tNil) := pe_callg0 O.ok hgd hr hg O.m O.kp O.b .nil pass0 hdb
theorem pe_ownW (O : Own X.prog X.w X.K X.mg X.base CX0 k x ps sp f fd) (hb : KBn X.K fd ps 0 ks g gV) (hr : Room k X.A) (hkw : PK X kws tk) (hg : Gl X x := by rfl)
    (hall : (backToKw pos (keywordEach kws X.env)).all (fun q => q.1.isSome) = true := by rfl)
    (hks : (backToKw pos (keywordEach kws X.env)).filterMap (fun q => q.1) = ks := by rfl)
    (hdb : (x == ("__debug__" : Str)) = false := by decide)
    (hpl : ((backTo pos (starEach [] X.env)).any (fun q => q.1) || (backToKw pos (keywordEach kws X.env)).any (fun q => q.1.isNone)) = false := by rfl) :
    PE X (.Call (.Name x p) [] kws pos) (tCallN 0 ks.length sp gV E0 tNil tk) := pe_callW O.ok hr hg O.m O.kp hb pass0 hkw hall hks hdb hpl
/-- a constant of the module -/
theorem pe_gi {i : Int} (h : ∃ t, X.mg x = some (.int i t)) (hg : Gl X x := by rfl) (hd : (x == ("__debug__" : Str)) = false := by decide) : PE X (.Name x pos) (tC (.int i)) :=
  h.elim fun t e => pe_glob hg e ⟨t, rfl⟩ hd
theorem pe_gs {z : Str} (h : ∃ t, X.mg x = some (.str z t)) (hg : Gl X x := by rfl) (hd : (x == ("__debug__" : Str)) = false := by decide) : PE X (.Name x pos) (tC (.str z)) :=
  h.elim fun t e => pe_glob hg e ⟨t, rfl⟩ hd
end
end Lw
namespace Lw
open PySem PySem.Spec PyProof.Rows L2
theorem Off.put {a D : Addr} {H H' : Hp} {o : HO} (x : Off a H H') (h : H D = none) : Off a H (upd H' D o) := by
  intro b u g
  obtain ⟨n, e⟩ := off_get g
  rw [off_ne n, upd_ne (ne_of_none e h)]
  exact x.get e n
theorem PotAt.put {H : Hp} {a D : Addr} {o : HO} (h : PotAt H a) (n : D ≠ a) : PotAt (upd H D o) a := by
  obtain ⟨x, y, e, r⟩ := h
  exact ⟨x, y, by rw [upd_ne n.symm]; exact e, r⟩
theorem small_int {i : Int} (h : i.natAbs < 2 ^ 1000) : Small 2000 (.int i) := by
  have h1 : i.natAbs.log2 < 1920 := Nat.lt_of_lt_of_le (PySem.Flt.log2_lt_of (by decide) h) (by decide)
  refine ⟨?_, ?_, ?_⟩
  · show decide (i.natAbs.log2 < 1920) = true
    exact decide_eq_true h1
  · have e := int_text_len_1921 h1
    show (Str.ofString (toString i)).length ≤ 2000
    omega
  · simp [PyData.depth]

/-! ## displays of data -/
def Mk (K : PySem.W.Frag) (te : TE) (d : PyData) : Prop := ∀ σ H (Q : VK), (∀ v H', Same H H' → (∀ a, H a ≠ none → Dq K (off H' a) v d) → Q v H') → te σ H Q
def MkA (K : PySem.W.Frag) (ta : TA) (ds : List PyData) : Prop := ∀ σ H (Q : List V → Hp → Prop), (∀ vs H', Same H H' → vs.length = ds.length → (∀ a, H a ≠ none → DqAll K (off H' a) vs ds) → Q vs H') → ta σ H Q
theorem off_mono {H H' : Hp} {a : Addr} (s : Same H H') : Same (off H a) (off H' a) := Off.same s
theorem same_some {H H' : Hp} {a : Addr} (s : Same H H') (h : H a ≠ none) : H' a ≠ none := by
  cases e : H a with
  | none => exact absurd e h
  | some o =>
    rw [s _ _ e]
    exact fun z => nomatch z
section
variable {K : PySem.W.Frag}
theorem Mk.non : Mk K (tC .non) .none := fun _ H Q h => h _ H (Same.refl H) fun _ _ => .non
theorem Mk.bl {b : Bool} : Mk K (tC (.bl b)) (.bool b) := fun _ H Q h => h _ H (Same.refl H) fun _ _ => .bl b
theorem Mk.int {i : Int} : Mk K (tC (.int i)) (.int i) := fun _ H Q h => h _ H (Same.refl H) fun _ _ => .int i
theorem Mk.str {x : Str} : Mk K (tC (.str x)) (.str x) := fun _ H Q h => h _ H (Same.refl H) fun _ _ => .str x
theorem Mk.neg {i : Int} : Mk K (tUn (rU fun i => .int (-i)) (tC (.int i))) (.int (-i)) := fun _ H Q h => ⟨i, rfl, h _ H (Same.refl H) fun _ _ => .int _⟩
theorem MkA.nil : MkA K tNil [] := fun _ H Q h => h _ H (Same.refl H) rfl fun _ _ => .nil
theorem MkA.cons {te : TE} {ta : TA} {d : PyData} {ds : List PyData} (h1 : Mk K te d) (h2 : MkA K ta ds) : MkA K (tCons te ta) (d :: ds) := by
  intro σ H Q h
  refine h1 σ H _ fun v H1 s1 q1 => h2 σ H1 _ fun vs H2 s2 l2 q2 => h _ H2 (s1.trans s2) (congrArg Nat.succ l2) fun a ha => ?_
  exact .cons (Dq.same (off_mono s2) (q1 a ha)) (q2 a (same_some s1 ha))
theorem mk_new {H : Hp} {p a : Addr} {o : HO} (hp : H p = none) (ha : H a ≠ none) : off (upd H p o) a p = some o := by
  have n : p ≠ a := fun e => ha (e ▸ hp)
  rw [off_ne n, upd_same]
theorem Mk.tup {ta : TA} {ds : List PyData} (h1 : MkA K ta ds) (hl : ds.length ≤ 1000 := by decide) : Mk K (tTup ta) (.tuple ds) := by
  intro σ H Q h
  refine h1 σ H _ fun vs H1 s1 l1 q1 => ⟨?_, fun p hp => h _ _ (s1.trans (same_upd hp)) fun a ha => ?_⟩
  · rw [l1]
    exact Nat.le_of_lt (small1000 hl)
  · exact .tup (.inl (.inl (mk_new hp (same_some s1 ha)))) (DqAll.same (off_mono (same_upd hp)) (q1 a ha))
theorem Mk.lst {ta : TA} {ds : List PyData} (h1 : MkA K ta ds) (hl : ds.length ≤ 1000 := by decide) : Mk K (tLst ta) (.list ds) := by
  intro σ H Q h
  refine h1 σ H _ fun vs H1 s1 l1 q1 => ⟨?_, fun p hp => h _ _ (s1.trans (same_upd hp)) fun a ha => ?_⟩
  · rw [l1]
    exact Nat.le_of_lt (small1000 hl)
  · exact .lst (.inl (.inl (mk_new hp (same_some s1 ha)))) (DqAll.same (off_mono (same_upd hp)) (q1 a ha))
theorem Mk.dict : Mk K tDNewK (.dict []) := by
  intro σ H Q h
  intro p hp
  exact h _ _ (same_upd hp) fun a ha => .dic (mk_new hp ha)
theorem dq_at {H : Hp} : ∀ {vs : List V} {ds : List PyData}, DqAll K H vs ds → ∀ v ∈ vs, ∃ d ∈ ds, Dq K H v d
  | _, _, .nil, v, h => nomatch h
  | _, _, .cons h g, v, hv => by
    rcases List.mem_cons.mp hv with rfl | hv
    · exact ⟨_, List.mem_cons_self .., h⟩
    · obtain ⟨d, hd, e⟩ := dq_at g v hv
      exact ⟨d, List.mem_cons_of_mem _ hd, e⟩
theorem dq_app {H : Hp} : ∀ {vs ws : List V} {ds es : List PyData}, DqAll K H vs ds → DqAll K H ws es → DqAll K H (vs ++ ws) (ds ++ es)
  | _, _, _, _, .nil, q => q
  | _, _, _, _, .cons h g, q => .cons h (dq_app g q)
end
end Lw
namespace Lw
open PySem PySem.Spec PyProof.Rows L2
section
variable {K : PySem.W.Frag}
theorem s_lst {ta : TA} {ds : List PyData} {i : Nat} {u : TS} {D : Ends} {σ : L2.St} {H : Hp} (h : MkA K ta ds) (hl : ds.length ≤ 1000)
    (k : ∀ vs H1 p, Same H H1 → vs.length = ds.length → (∀ a, H a ≠ none → DqAll K (off H1 a) vs ds) → H1 p = none → u D (σ.set i (some (.ref p))) (upd H1 p (.lst vs))) :
    tSeq (tAsg (tLst ta) (gName i)) u D σ H := by
  refine h σ H _ fun vs H1 s l d => ⟨?_, fun p np => k vs H1 p s l d np⟩
  rw [l]
  exact Nat.le_of_lt (small1000 hl)
/-- x + [..] -/
theorem e_cat {ta : TA} {ds : List PyData} {i : Nat} {σ : L2.St} {H : Hp} {Q : VK} {t : Addr} {xs : List V} (h : MkA K ta ds) (hl : xs.length + ds.length ≤ 1000) (hi : σ[i]? = some (some (.ref t))) (ht : H t = some (.lst xs))
    (k : ∀ vs H1 p, Same H H1 → vs.length = ds.length → (∀ a, H a ≠ none → DqAll K (off H1 a) vs ds) → H1 p = none → Q (.ref p) (upd H1 p (.lst (xs ++ vs)))) :
    tOp rCat (tVar i) (tLst ta) σ H Q := by
  refine ⟨.ref t, hi, h σ H _ fun vs H1 s l d => ⟨?_, fun p np => ⟨t, p, xs, vs, rfl, rfl, ?_, upd_same, ?_, fun p2 np2 => ?_⟩⟩⟩
  · rw [l]
    exact Nat.le_of_lt (small1000 (by omega))
  · rw [upd_ne (ne_of_none (s _ _ ht) np)]
    exact s _ _ ht
  · rw [l]
    exact Nat.le_of_lt (small1000 hl)
  · refine k vs (upd H1 p (.lst vs)) p2 (s.trans (same_upd np)) l (fun a ha => DqAll.same (off_mono (same_upd np)) (d a ha)) np2
def rLenQ (K : PySem.W.Frag) : List V → Hp → VK → Prop := fun xs H Q => ∃ (p : Addr) (ys : List V), xs = [.ref p] ∧ (SqL K H p ys ∨ SqT K H p ys) ∧ Q (.int ys.length) H
theorem call_lenQ {X : Cx} : CallR X (.builtin "len") (rLenQ X.K) := call_len_seq
end
end Lw

set_option Elab.async false
set_option linter.all false
set_option maxRecDepth 100000
set_option maxHeartbeats 4000000
namespace K11
open PySem PySem.Spec PyProof.Rows L2 Lw
def topS (i : Nat) : Stmt := PySem.Challenge.pw_lastheld_k11_names_and_integers.main.body.getD i (.Pass ⟨0, 0, 0, 0⟩)
abbrev s_is_name : Stmt := topS 3
abbrev N_is_name : List Str := ["value", "sign"]
theorem sc_is_name : FnScope N_is_name ["value"] (defScope s_is_name) := ⟨rfl, rfl, rfl, by decide +kernel, rfl, by decide +kernel, by decide +kernel⟩
abbrev s_is_integer : Stmt := topS 4
abbrev N_is_integer : List Str := ["value"]
theorem sc_is_integer : FnScope N_is_integer ["value"] (defScope s_is_integer) := ⟨rfl, rfl, rfl, by decide +kernel, rfl, by decide +kernel, by decide +kernel⟩
abbrev s_pot : Stmt := topS 6
abbrev N_pot : List Str := ["_law_script", "_law_k", "_law_digits"]
theorem sc_pot : FnScope N_pot ["_law_script", "_law_k"] (defScope s_pot) := ⟨rfl, rfl, rfl, by decide +kernel, rfl, by decide +kernel, by decide +kernel⟩
abbrev s_draw : Stmt := topS 7
abbrev N_draw : List Str := ["_law_pot_here", "_law_many", "_law_digit"]
theorem sc_draw : FnScope N_draw ["_law_pot_here", "_law_many"] (defScope s_draw) := ⟨rfl, rfl, rfl, by decide +kernel, rfl, by decide +kernel, by decide +kernel⟩
abbrev s_word : Stmt := topS 8
abbrev N_word : List Str := ["_law_pot_here", "_law_taken", "_law_letters", "_law_word_here", "_law_letter", "_law_k"]
theorem sc_word : FnScope N_word ["_law_pot_here", "_law_taken"] (defScope s_word) := ⟨rfl, rfl, rfl, by decide +kernel, rfl, by decide +kernel, by decide +kernel⟩
abbrev s_odd : Stmt := topS 9
abbrev N_odd : List Str := ["_law_pot_here", "_law_some"]
theorem sc_odd : FnScope N_odd ["_law_pot_here"] (defScope s_odd) := ⟨rfl, rfl, rfl, by decide +kernel, rfl, by decide +kernel, by decide +kernel⟩
abbrev s_is_word : Stmt := topS 10
abbrev N_is_word : List Str := ["_law_thing", "_law_sign"]
theorem sc_is_word : FnScope N_is_word ["_law_thing"] (defScope s_is_word) := ⟨rfl, rfl, rfl, by decide +kernel, rfl, by decide +kernel, by decide +kernel⟩
abbrev s_string : Stmt := topS 11
abbrev N_string : List Str := ["_law_pot_here", "_law_signs", "_law_k"]
theorem sc_string : FnScope N_string ["_law_pot_here"] (defScope s_string) := ⟨rfl, rfl, rfl, by decide +kernel, rfl, by decide +kernel, by decide +kernel⟩
abbrev s_whole : Stmt := topS 12
abbrev N_whole : List Str := ["_law_pot_here"]
theorem sc_whole : FnScope N_whole ["_law_pot_here"] (defScope s_whole) := ⟨rfl, rfl, rfl, by decide +kernel, rfl, by decide +kernel, by decide +kernel⟩
abbrev s_right : Stmt := topS 13
abbrev N_right : List Str := ["_law_thing", "_law_shown", "_law_due", "_law_told", "_law_named"]
theorem sc_right : FnScope N_right ["_law_thing"] (defScope s_right) := ⟨rfl, rfl, rfl, by decide +kernel, rfl, by decide +kernel, by decide +kernel⟩
abbrev s_law : Stmt := topS 14
abbrev N_law : List Str := ["_law_script", "_law_k", "_law_pot_here", "_law_turn", "_law_things"]
theorem sc_law : FnScope N_law ["_law_script"] (defScope s_law) := ⟨rfl, rfl, rfl, by decide +kernel, rfl, by decide +kernel, by decide +kernel⟩
abbrev FnP (K : PySem.W.Frag) (x : Str) (st : Stmt) (f : Addr) (fd : FuncData) : Prop := FunD K x x (defArgs st) (defBody st) (defScope st) [] [] f fd
structure Tz (mg : Str → Option Value) : Prop where
  z_isinstance : mg "isinstance" = none
  z_str : mg "str" = none
  z_int : mg "int" = none
  z_bool : mg "bool" = none
  z_len : mg "len" = none
  z_all : mg "all" = none
  z_repr : mg "repr" = none
  z_range : mg "range" = none
  z_max : mg "max" = none
  z_min : mg "min" = none
  z_abs : mg "abs" = none
  z_divmod : mg "divmod" = none
  c_LETTERS : ∃ t, mg "LETTERS" = some (.str "abcdefghijklmnopqrstuvwxyz" t)
  c_LONGEST_NAME : ∃ t, mg "LONGEST_NAME" = some (.int 8 t)
theorem pos_c {j : Int} (h : 0 < j) : 0 < j := h
section
variable {P : Program} {w : World} {K : PySem.W.Frag} {mg : Str → Option Value} {base : Heap} {f : Addr} {fd : FuncData}

def sp_pot (K : PySem.W.Frag) : Sp := fun vs H Q _ => ∃ (s : Addr) (ns : List Int) (k : Nat), vs = [.ref s, .int k] ∧ SqL K H s (ns.map V.int) ∧ k < 1000 ∧
  ∀ p u v, H p = none → 0 ≤ v → v < 2147483648 → Q (.ref p) (upd H p (.lst [.int u, .int v]))
theorem ok_pot (F : FnP K "_law_pot" s_pot f fd) (T : Tz mg) : FnOk P w K mg base CX0 1 f fd ["_law_script", "_law_k"] (sp_pot K) := by
  refine F.ok sc_pot (fun vs H Q E h => ?_) (fun cdv A outer s H vs Q E hr h => ?_)
  · obtain ⟨a, ns, k, rfl, _⟩ := h
    rfl
  · obtain ⟨a, ns, k, rfl, hS, hk, q⟩ := h
    refine ⟨_, PSs.nox (pss_cons (ps_set (i := 2) sc_pot.nd rfl (Or.inl rfl) (pe_ifExp (pt_cmpR op_lt (pv 1) (pe_callB call_len_seq (by rfl) T.z_len (by decide +kernel) (pa_cons (pv 0) pa_nil)) (nomark _)) (pe_ix ix_list (pv 0) (pv 1) (fun _ _ => rfl)) pe_int))
      (pss_one (ps_ret (pe_lst (pa_cons (pe_callB (call_max2 rfl) (by rfl) T.z_max (by decide +kernel) (pa_cons pe_int (pa_cons (pe_op op_sub (pe_callB call_abs (by rfl) T.z_abs (by decide +kernel) (pa_cons (pv 2) pa_nil)) (pe_op op_pow pe_int pe_int)) pa_nil))) (pa_cons (pe_op op_mod (pe_op op_add (pe_op op_add (pe_op op_mul (pe_op op_mod (pe_callB call_abs (by rfl) T.z_abs (by decide +kernel) (pa_cons (pv 2) pa_nil)) pe_int) pe_int) (pe_op op_mul pe_int (pv 1))) pe_int) pe_int) pa_nil)))))), ?_⟩
    refine ⟨_, rfl, .ref a, rfl, a, _, rfl, .inl hS, _, _, rfl, rfl, _, rfl, ?_⟩
    refine ite2 (fun e => ?_) (fun e => ?_)
    · have e1 : (k : Int) < ((ns.map V.int).length : Nat) := of_decide_eq_true e
      have e2 : k < ns.length := by
        rw [List.length_map] at e1
        omega
      have e3 : (ns.map V.int)[k]? = some (.int ns[k]) := by
        rw [List.getElem?_map, List.getElem?_eq_getElem e2]
        rfl
      refine ⟨.ref a, rfl, .int k, rfl, a, _, _, .int ns[k], rfl, rfl, hS, atI_nat e3, ?_⟩
      refine ⟨.int ns[k], rfl, _, rfl, 10, 18, rfl, rfl, ⟨by decide, by decide, by decide⟩, _, _, rfl, rfl, _, _, rfl, ?_⟩
      refine ⟨.int ns[k], rfl, _, rfl, _, _, rfl, rfl, pos_c (by decide), _, _, rfl, rfl, .inr ⟨by decide, by decide⟩, .int k, rfl, _, _, rfl, rfl, .inl ⟨by decide, by decide⟩, _, _, rfl, rfl, _, _, rfl, rfl, _, _, rfl, rfl, pos_c (by decide), ?_⟩
      exact ⟨by show 2 ≤ sizeLine; decide, fun p np => q p _ _ np (Int.emod_nonneg _ (by decide)) (Int.lt_trans (Int.emod_lt_of_pos _ (by decide)) (by decide))⟩
    · refine ⟨.int 0, rfl, _, rfl, 10, 18, rfl, rfl, ⟨by decide, by decide, by decide⟩, _, _, rfl, rfl, _, _, rfl, ?_⟩
      refine ⟨.int 0, rfl, _, rfl, _, _, rfl, rfl, pos_c (by decide), _, _, rfl, rfl, .inr ⟨by decide, by decide⟩, .int k, rfl, _, _, rfl, rfl, .inl ⟨by decide, by decide⟩, _, _, rfl, rfl, _, _, rfl, rfl, _, _, rfl, rfl, pos_c (by decide), ?_⟩
      exact ⟨by show 2 ≤ sizeLine; decide, fun p np => q p _ _ np (Int.emod_nonneg _ (by decide)) (Int.lt_trans (Int.emod_lt_of_pos _ (by decide)) (by decide))⟩

def sp_draw : Sp := fun vs H Q _ => ∃ (a : Addr) (n : Int), vs = [.ref a, .int n] ∧ PotAt H a ∧ 0 < n ∧ n < 1073741824 ∧
  ∀ r H', 0 ≤ r → r < n → PotAt H' a → Off a H H' → Q (.int r) H'
theorem ok_draw (F : FnP K "_law_draw" s_draw f fd) (T : Tz mg) : FnOk P w K mg base CX0 1 f fd ["_law_pot_here", "_law_many"] sp_draw := by
  refine F.ok sc_draw (fun vs H Q E h => ?_) (fun cdv A outer s H vs Q E hr h => ?_)
  · obtain ⟨a, n, rfl, _⟩ := h
    rfl
  · obtain ⟨a, n, rfl, ⟨x, y, hp, y0, y1⟩, n0, n1, q⟩ := h
    refine ⟨_, PSs.nox (pss_cons (ps_if (pt_cmpR op_gt (pe_ix ix_list (pv 0) pe_int (fun _ _ => rfl)) pe_int (nomark _)) (pss_cons (ps_asg (pe_callB call_divmod (by rfl) T.z_divmod (by decide +kernel) (pa_cons (pe_ix ix_list (pv 0) pe_int (fun _ _ => rfl)) (pa_cons (pv 1) pa_nil))) (pg_tup rfl (pgs_cons (pg_sub (pv 0) pe_int set_list) (pgs_cons (pg_name (i := 2) sc_draw.nd rfl (Or.inl rfl)) pgs_nil))))
      (pss_one (ps_ret (pv 2)))) pss_nil)
      (pss_cons (ps_asg (pe_op op_mod (pe_op op_add (pe_op op_mul (pe_ix ix_list (pv 0) pe_int (fun _ _ => rfl)) pe_int) pe_int) pe_int) (pg_sub (pv 0) pe_int set_list))
      (pss_one (ps_ret (pe_op op_mod (pe_op op_fdiv (pe_op op_mod (pe_op op_mul (pe_ix ix_list (pv 0) pe_int (fun _ _ => rfl)) (pe_ix ix_list (pv 0) pe_int (fun _ _ => rfl))) pe_int) pe_int) (pv 1)))))), ?_⟩
    refine ⟨.ref a, rfl, a, _, 0, .int x, rfl, rfl, .inl (.inl hp), rfl, _, _, rfl, rfl, _, rfl, ite2 (fun e => ?_) (fun e => ?_)⟩
    · have x0 : 0 < x := of_decide_eq_true e
      refine ⟨.ref a, rfl, a, _, 0, .int x, rfl, rfl, .inl (.inl hp), rfl, .int n, rfl, x, n, rfl, ⟨n0, n1⟩, fun t nt => ?_⟩
      have ht : (upd H t (.tup [.int (x / n), .int (x % n)])) a = some (.lst [.int x, .int y]) := by
        rw [upd_ne (ne_of_none hp nt)]
        exact hp
      refine ⟨t, _, rfl, .inl (.inl upd_same), rfl, _, _, rfl, .ref a, rfl, a, _, 0, 0, rfl, rfl, ht, rfl, _, _, rfl, rfl, .int (x % n), rfl, ?_⟩
      exact q _ _ (Int.emod_nonneg _ (by omega)) (Int.emod_lt_of_pos _ n0) ⟨x / n, y, upd_same, y0, y1⟩ ((Off.new nt).trans Off.at)
    · refine ⟨.ref a, rfl, a, _, 1, .int y, rfl, rfl, .inl (.inl hp), rfl, _, _, rfl, rfl, .inr ⟨by decide, by decide⟩, _, _, rfl, rfl, _, _, rfl, rfl, pos_c (by decide), ?_⟩
      refine ⟨.ref a, rfl, a, _, 1, 1, rfl, rfl, hp, rfl, ?_⟩
      have z0 : 0 ≤ (y * 39373 + 12227) % 2147483629 := Int.emod_nonneg _ (by decide)
      have z1 : (y * 39373 + 12227) % 2147483629 < 2147483629 := Int.emod_lt_of_pos _ (by decide)
      refine ⟨.ref a, rfl, a, _, 1, _, rfl, rfl, .inl (.inl upd_same), rfl, .ref a, rfl, a, _, 1, _, rfl, rfl, .inl (.inl upd_same), rfl, _, _, rfl, rfl, .inl ⟨?_, ?_⟩, _, _, rfl, rfl, pos_c (by decide), _, _, rfl, rfl, ⟨by decide, by decide⟩, .int n, rfl, _, _, rfl, rfl, n0, ?_⟩
      · exact Int.lt_of_lt_of_le (by decide) z0
      · exact Int.lt_trans z1 (by decide)
      · exact q _ _ (Int.emod_nonneg _ (by omega)) (Int.emod_lt_of_pos _ n0) ⟨x, _, upd_same, z0, Int.lt_trans z1 (by decide)⟩ Off.at

def Txt10 (z : Str) : Prop := z.length ≤ 10 ∧ Bytes z
def sp_string : Sp := fun vs H Q _ => ∃ a : Addr, vs = [.ref a] ∧ PotAt H a ∧ ∀ z H', Txt10 z → PotAt H' a → Off a H H' → Q (.str z) H'
def sigs : Str := Txt.mul "abcxyz" 5 ++ "AZ0_ -'\n~"
theorem sigs_len : sigs.length = 39 := by decide +kernel
theorem sigs_bytes : ∀ c ∈ sigs.cps.toList, c < 256 := by decide +kernel
theorem one_sign {c : Nat} (h : c < 256) : (⟨#[c]⟩ : Str).length = 1 ∧ Bytes ⟨#[c]⟩ := ⟨rfl, fun x hx => by
  have e : x = c := by simpa using hx
  rw [e]
  exact h⟩
theorem ok_string {fD : Addr} {fdD : FuncData} (F : FnP K "_law_string" s_string f fd) (T : Tz mg) (O_draw : Own P w K mg base CX0 1 "_law_draw" ["_law_pot_here", "_law_many"] sp_draw fD fdD) : FnOk P w K mg base CX0 2 f fd ["_law_pot_here"] sp_string := by
  refine F.ok sc_string (fun vs H Q E h => ?_) (fun cdv A outer s H vs Q E hr h => ?_)
  · obtain ⟨a, rfl, _⟩ := h
    rfl
  · obtain ⟨a, rfl, hp, q⟩ := h
    refine ⟨_, PSs.nox (pss_cons (ps_set (i := 1) sc_string.nd rfl (Or.inr rfl) (pe_op op_add_str (pe_op op_mulS pe_str pe_int) pe_str))
      (pss_one (ps_ret (pe_join pe_str (pe_lc (own := [("_law_k", 2)]) (g := gName 2) (tt := tYes) rfl sc_string.nd (pi_range1 (by rfl) T.z_range (pa_cons (pe_own O_draw (hr.mono (by decide)) (pa_cons (pv 0) (pa_cons pe_int pa_nil))) pa_nil)) (blkOk_by (own := [("_law_k", 2)]) (N := N_string) (sc := defScope s_string) (by decide +kernel)) (fun _ _ _ _ _ => pg_name (i := 2) sc_string.nd rfl (Or.inl rfl)) (fun _ _ _ _ _ => pts_nil) (fun _ _ _ _ _ => (pe_ix ix_str (pv 1) (pe_own O_draw (hr.mono (by decide)) (pa_cons (pv 0) (pa_cons (pe_callB call_len_str (by rfl) T.z_len (by decide +kernel) (pa_cons (pv 1) pa_nil)) pa_nil))) (fun _ _ => rfl)))))))), ?_⟩
    refine ⟨"abcxyz", 5, rfl, rfl, ⟨by decide, fun _ _ => by decide, fun _ _ => by decide⟩, _, _, rfl, rfl, (by decide +kernel), ?_⟩
    have eS : (Txt.mul "abcxyz" 5 ++ "AZ0_ -'\n~" : Str) = sigs := rfl
    refine ⟨⟨_, rfl⟩, .ref a, rfl, a, 11, rfl, hp, by decide, by decide, fun r H1 r0 r1 p1 o1 => ⟨r, rfl, by omega, by omega, fun D nD => ?_⟩⟩
    have nDa : D ≠ a := p1.ne nD
    refine lc_range (lo := 0) (n := r.toNat) (fun i H2 => PotAt H2 a ∧ Off a H1 H2 ∧ ∃ ys : List Str, H2 D = some (.lst (ys.map V.str)) ∧ ys.length = i ∧ ∀ y ∈ ys, y.length = 1 ∧ Bytes y) ⟨p1.put nDa, Off.refl.put nD, [], upd_same, rfl, fun y hy => nomatch hy⟩ ?_ ?_
    · rintro i H2 hi ⟨p2, o2, ys, e2, l2, b2⟩
      refine ⟨rfl, .str sigs, rfl, .ref a, rfl, .str sigs, rfl, sigs, rfl, by rw [sigs_len]; decide, a, sigs.length, rfl, p2, by rw [sigs_len]; decide, by rw [sigs_len]; decide, fun m H3 m0 m1 p3 o3 => ?_⟩
      obtain ⟨c, hc, _, ec⟩ := at_in (xs := sigs.cps.toList) m0 (by rw [sigs_len] at m1; exact Int.lt_of_lt_of_le m1 (by decide +kernel))
      refine ⟨sigs, m, c, rfl, rfl, by rw [sigs_len]; decide, ec, ys.map V.str, o3.get e2 nDa, ?_, ?_⟩
      · rw [List.length_map, l2]
        exact small1000 (by omega)
      · refine ⟨p3.put nDa, (o2.trans o3).put nD, ys ++ [⟨#[c]⟩], ?_, by rw [List.length_append, l2]; rfl, fun y hy => ?_⟩
        · rw [upd_same, List.map_append]
          rfl
        · rcases List.mem_append.mp hy with hy | hy
          · exact b2 y hy
          · cases List.mem_singleton.mp hy
            exact one_sign (sigs_bytes c hc)
    · rintro H2 ⟨p2, o2, ys, e2, l2, b2⟩
      refine ⟨"", D, ys, rfl, rfl, .inl (.inl (.inl e2)), ?_, ?_⟩
      · rw [sum_ones b2]
        show ys.length + ys.length * 0 ≤ 16777216
        omega
      · rw [TL.join_eq]
        obtain ⟨h1, h2⟩ := bytes_join ys b2
        exact q _ _ ⟨by omega, h2⟩ p2 (o1.trans o2)
end
end K11

set_option Elab.async false
set_option linter.all false
set_option maxRecDepth 100000
set_option maxHeartbeats 4000000
namespace K11
open PySem PySem.Spec PyProof.Rows L2 Lw
section
variable {P : Program} {w : World} {K : PySem.W.Frag} {mg : Str → Option Value} {base : Heap} {f : Addr} {fd : FuncData} {fD : Addr} {fdD : FuncData}

def sp_whole : Sp := fun vs H Q _ => ∃ a : Addr, vs = [.ref a] ∧ PotAt H a ∧ ∀ i H', i.natAbs < 2 ^ 1000 → PotAt H' a → Off a H H' → Q (.int i) H'
theorem ok_whole (F : FnP K "_law_whole" s_whole f fd) (T : Tz mg) (O_draw : Own P w K mg base CX0 1 "_law_draw" ["_law_pot_here", "_law_many"] sp_draw fD fdD) : FnOk P w K mg base CX0 2 f fd ["_law_pot_here"] sp_whole := by
  refine F.ok sc_whole (fun vs H Q E h => ?_) (fun cdv A outer s H vs Q E hr h => ?_)
  · obtain ⟨a, rfl, _⟩ := h
    rfl
  · obtain ⟨a, rfl, hp, q⟩ := h
    refine ⟨_, PSs.nox (pss_one (ps_ret (pe_op op_add (pe_ix ix_list (pe_lst (pa_cons pe_int (pa_cons pe_int (pa_cons (pe_un un_neg pe_int) (pa_cons (pe_op op_pow pe_int pe_int) (pa_cons (pe_un un_neg (pe_op op_pow pe_int pe_int)) pa_nil)))))) (pe_own O_draw (hr.mono (by decide)) (pa_cons (pv 0) (pa_cons pe_int pa_nil))) (fun _ _ => rfl)) (pe_own O_draw (hr.mono (by decide)) (pa_cons (pv 0) (pa_cons (pe_op op_pow pe_int pe_int) pa_nil)))))), ?_⟩
    refine ⟨1, rfl, 10, 50, rfl, rfl, ⟨by decide, by decide, by decide⟩, 10, 50, rfl, rfl, ⟨by decide, by decide, by decide⟩, _, rfl, by show 5 ≤ sizeLine; decide, fun l nl => ?_⟩
    have nla : l ≠ a := hp.ne nl
    refine ⟨.ref a, rfl, a, 5, rfl, hp.new nl, by decide, by decide, fun r H1 r0 r1 p1 o1 => ?_⟩
    obtain ⟨v, hv, _, ev⟩ := at_in (xs := [V.int 0, .int 1, .int (-1), .int (10 ^ (50 : Int).toNat), .int (-10 ^ (50 : Int).toNat)]) r0 r1
    have hi : ∃ i : Int, v = .int i ∧ i.natAbs ≤ 10 ^ 50 := by
      simp only [List.mem_cons, List.not_mem_nil, or_false] at hv
      rcases hv with rfl | rfl | rfl | rfl | rfl
      · exact ⟨_, rfl, by decide⟩
      · exact ⟨_, rfl, by decide⟩
      · exact ⟨_, rfl, by decide⟩
      · exact ⟨_, rfl, by decide⟩
      · exact ⟨_, rfl, by decide⟩
    obtain ⟨i, rfl, hi⟩ := hi
    refine ⟨l, _, r, _, rfl, rfl, .inl (.inl (o1.get upd_same nla)), ev, ?_⟩
    refine ⟨.ref a, rfl, 10, 9, rfl, rfl, ⟨by decide, by decide, by decide⟩, a, _, rfl, p1, by decide, by decide, fun m H2 m0 m1 p2 o2 => ⟨_, _, rfl, rfl, ?_⟩⟩
    refine q _ _ ?_ p2 (((Off.new nl).trans o1).trans o2)
    have m2 : m.natAbs < 10 ^ 9 := by
      have : m < 10 ^ 9 := m1
      omega
    have h3 : (i + m).natAbs ≤ i.natAbs + m.natAbs := Int.natAbs_add_le i m
    have h4 : (10 : Nat) ^ 50 + 10 ^ 9 < 2 ^ 1000 := by decide +kernel
    omega

/-! ### odd -/
def odds1 : List PyData := [.none, .int 0, .int 1, .bool true, .bool false, .str "", .str "A", .str "nineletters", .tuple [], .list [], .dict [], .tuple [.int 1, .int 2], .tuple [.int 2, .int 4], .tuple [.int 3, .int 1], .tuple [.int 1, .int 0], .tuple [.int 1, .int (-2)]]
def odds2 : List PyData := [.tuple [.bool true, .int 2], .list [.int 1, .int 2], .tuple [.int 1, .int 2, .int 3], .tuple [.str "1", .int 2], .tuple [.int 0, .int 2], .tuple [.int (-3), .int 6], .int (-5), .str "a", .str "ab", .str "a b", .str "1", .tuple [.str "a"]]
def odds3 : List PyData := [.tuple [.int 1, .bool true]]
def odds : List PyData := odds1 ++ odds2 ++ odds3
def sp_odd (K : PySem.W.Frag) : Sp := fun vs H Q _ => ∃ a : Addr, vs = [.ref a] ∧ PotAt H a ∧ ∀ v d H', d ∈ odds → Dq K (off H' a) v d → PotAt H' a → Off a H H' → Q v H'
theorem pot_some {H : Hp} {a : Addr} (h : PotAt H a) : H a ≠ none := by
  obtain ⟨x, y, e, _⟩ := h
  rw [e]
  exact fun z => nomatch z
theorem ok_odd (F : FnP K "_law_odd" s_odd f fd) (T : Tz mg) (O_draw : Own P w K mg base CX0 1 "_law_draw" ["_law_pot_here", "_law_many"] sp_draw fD fdD) : FnOk P w K mg base CX0 2 f fd ["_law_pot_here"] (sp_odd K) := by
  refine F.ok sc_odd (fun vs H Q E h => ?_) (fun cdv A outer s H vs Q E hr h => ?_)
  · obtain ⟨a, rfl, _⟩ := h
    rfl
  · obtain ⟨a, rfl, hp, q⟩ := h
    refine ⟨_, PSs.nox (pss_cons (ps_set (i := 1) sc_odd.nd rfl (Or.inl rfl) (pe_lst (pa_cons pe_non (pa_cons pe_int (pa_cons pe_int (pa_cons pe_bl (pa_cons pe_bl (pa_cons pe_str (pa_cons pe_str (pa_cons pe_str (pa_cons (pe_tup pa_nil) (pa_cons (pe_lst pa_nil) (pa_cons pe_dnewK (pa_cons (pe_tup (pa_cons pe_int (pa_cons pe_int pa_nil))) (pa_cons (pe_tup (pa_cons pe_int (pa_cons pe_int pa_nil))) (pa_cons (pe_tup (pa_cons pe_int (pa_cons pe_int pa_nil))) (pa_cons (pe_tup (pa_cons pe_int (pa_cons pe_int pa_nil))) (pa_cons (pe_tup (pa_cons pe_int (pa_cons (pe_un un_neg pe_int) pa_nil))) pa_nil))))))))))))))))))
      (pss_cons (ps_set (i := 1) sc_odd.nd rfl (Or.inl rfl) (pe_op op_cat (pv 1) (pe_lst (pa_cons (pe_tup (pa_cons pe_bl (pa_cons pe_int pa_nil))) (pa_cons (pe_lst (pa_cons pe_int (pa_cons pe_int pa_nil))) (pa_cons (pe_tup (pa_cons pe_int (pa_cons pe_int (pa_cons pe_int pa_nil)))) (pa_cons (pe_tup (pa_cons pe_str (pa_cons pe_int pa_nil))) (pa_cons (pe_tup (pa_cons pe_int (pa_cons pe_int pa_nil))) (pa_cons (pe_tup (pa_cons (pe_un un_neg pe_int) (pa_cons pe_int pa_nil))) (pa_cons (pe_un un_neg pe_int) (pa_cons pe_str (pa_cons pe_str (pa_cons pe_str (pa_cons pe_str (pa_cons (pe_tup (pa_cons pe_str pa_nil)) pa_nil)))))))))))))))
      (pss_one (ps_ret (pe_ix ix_list (pe_op op_cat (pv 1) (pe_lst (pa_cons (pe_tup (pa_cons pe_int (pa_cons pe_bl pa_nil))) pa_nil))) (pe_own O_draw (hr.mono (by decide)) (pa_cons (pv 0) (pa_cons pe_int pa_nil))) (fun _ _ => rfl)))))), ?_⟩
    refine s_lst (ds := odds1) (K := K) ?m1 (by decide) fun v1 H1 t1 s1 l1 d1 n1 => ?_
    case m1 => exact .cons .non (.cons .int (.cons .int (.cons .bl (.cons .bl (.cons .str (.cons .str (.cons .str (.cons (.tup .nil) (.cons (.lst .nil) (.cons .dict (.cons (.tup (.cons .int (.cons .int .nil))) (.cons (.tup (.cons .int (.cons .int .nil))) (.cons (.tup (.cons .int (.cons .int .nil))) (.cons (.tup (.cons .int (.cons .int .nil))) (.cons (.tup (.cons .int (.cons .neg .nil))) .nil)))))))))))))))
    have p1 := (hp.same s1).new (o := .lst v1) n1
    refine e_cat (ds := odds2) (K := K) (t := t1) (xs := v1) ?m2 (by rw [l1]; decide) rfl upd_same fun v2 H2 t2 s2 l2 d2 n2 => ?_
    case m2 => exact .cons (.tup (.cons .bl (.cons .int .nil))) (.cons (.lst (.cons .int (.cons .int .nil))) (.cons (.tup (.cons .int (.cons .int (.cons .int .nil)))) (.cons (.tup (.cons .str (.cons .int .nil))) (.cons (.tup (.cons .int (.cons .int .nil))) (.cons (.tup (.cons .neg (.cons .int .nil))) (.cons .neg (.cons .str (.cons .str (.cons .str (.cons .str (.cons (.tup (.cons .str .nil)) .nil)))))))))))
    have p2 := (p1.same s2).new (o := .lst (v1 ++ v2)) n2
    refine e_cat (ds := odds3) (K := K) (t := t2) (xs := v1 ++ v2) ?m3 (by rw [List.length_append, l1, l2]; decide) rfl upd_same fun v3 H3 t3 s3 l3 d3 n3 => ?_
    case m3 => exact .cons (.tup (.cons .int (.cons .bl .nil))) .nil
    have p3 := (p2.same s3).new (o := .lst (v1 ++ v2 ++ v3)) n3
    have sA : Same H1 H3 := (((same_upd n1).trans s2).trans (same_upd n2)).trans s3
    have sB : Same H2 H3 := (same_upd n2).trans s3
    have sC : Same H H3 := s1.trans sA
    have sD : Same H3 (upd H3 t3 (.lst (v1 ++ v2 ++ v3))) := same_upd n3
    have dd : DqAll K (off H3 a) (v1 ++ v2 ++ v3) odds :=
      dq_app (dq_app (DqAll.same (off_mono sA) (d1 a (pot_some hp))) (DqAll.same (off_mono sB) (d2 a (pot_some p1)))) (d3 a (pot_some p2))
    have ll : (v1 ++ v2 ++ v3).length = 29 := by rw [List.length_append, List.length_append, l1, l2, l3]; rfl
    refine ⟨.ref a, rfl, a, 29, rfl, p3, by decide, by decide, fun r H4 r0 r1 p6 o6 => ?_⟩
    obtain ⟨v, hv, _, ev⟩ := at_in (xs := v1 ++ v2 ++ v3) r0 (by rw [ll]; exact r1)
    obtain ⟨d, hd, dv⟩ := dq_at dd v hv
    refine ⟨t3, _, r, v, rfl, rfl, .inl (.inl (o6.get upd_same ((p2.same s3).ne n3))), ev, ?_⟩
    exact q v d H4 hd (Dq.same ((off_mono sD).trans o6) dv) p6 ((Off.same (sC.trans sD)).trans o6)

/-! ### word -/
def Txt8 (z : Str) : Prop := z.length ≤ 8 ∧ Bytes z
def sp_word (K : PySem.W.Frag) : Sp := fun vs H Q _ => ∃ a l : Addr, vs = [.ref a, .ref l] ∧ PotAt H a ∧ H l = some (.lst []) ∧ ∀ z H', Txt8 z → PotAt H' a → Off a H H' → Q (.str z) H'
def abc : Str := "abcdefghijklmnopqrstuvwxyz"
theorem abc_len : abc.length = 26 := by decide +kernel
theorem abc_bytes : ∀ c ∈ abc.cps.toList, c < 256 := by decide +kernel
theorem ok_word (F : FnP K "_law_word" s_word f fd) (T : Tz mg) (O_draw : Own P w K mg base CX0 1 "_law_draw" ["_law_pot_here", "_law_many"] sp_draw fD fdD) : FnOk P w K mg base CX0 2 f fd ["_law_pot_here", "_law_taken"] (sp_word K) := by
  refine F.ok sc_word (fun vs H Q E h => ?_) (fun cdv A outer s H vs Q E hr h => ?_)
  · obtain ⟨a, l, rfl, _⟩ := h
    rfl
  · obtain ⟨a, l, rfl, hp, hl, q⟩ := h
    have nla : l ≠ a := fun e => by
      obtain ⟨x, y, e1, _⟩ := hp
      rw [e, e1] at hl
      cases hl
    refine ⟨_, PSs.nox (pss_cons (ps_set (i := 2) sc_word.nd rfl (Or.inr rfl) pe_str)
      (pss_cons (ps_set (i := 3) sc_word.nd rfl (Or.inl rfl) (pe_join pe_str (pe_lc (own := [("_law_k", 5)]) (g := gName 5) (tt := tYes) rfl sc_word.nd (pi_range1 (by rfl) T.z_range (pa_cons (pe_ix ix_list (pe_lst (pa_cons pe_int (pa_cons pe_int (pa_cons pe_int (pa_cons pe_int pa_nil))))) (pe_own O_draw (hr.mono (by decide)) (pa_cons (pv 0) (pa_cons pe_int pa_nil))) (fun _ _ => rfl)) pa_nil)) (blkOk_by (own := [("_law_k", 5)]) (N := N_word) (sc := defScope s_word) (by decide +kernel)) (fun _ _ _ _ _ => pg_name (i := 5) sc_word.nd rfl (Or.inl rfl)) (fun _ _ _ _ _ => pts_nil) (fun _ _ _ _ _ => (pe_ix ix_str (pv 2) (pe_own O_draw (hr.mono (by decide)) (pa_cons (pv 0) (pa_cons pe_int pa_nil))) (fun _ _ => rfl))))))
      (pss_cons (ps_if (pt_cmpR op_in_seq (pv 3) (pv 1) (by with_unfolding_all rfl)) (pss_one (ps_set (i := 3) sc_word.nd rfl (Or.inl rfl) (pe_ix ix_list (pe_lc (own := [("_law_letter", 4)]) (g := gName 4) rfl sc_word.nd (pi_str (pv 2)) (blkOk_by (own := [("_law_letter", 4)]) (N := N_word) (sc := defScope s_word) (by decide +kernel)) (fun _ _ _ _ _ => pg_name (i := 4) sc_word.nd rfl (Or.inl rfl)) (fun _ _ _ _ _ => pts_one (pt_cmpR (show OpR _ _ (rIn K true) from op_notIn_seq) (pv 4) (pv 1) (by with_unfolding_all rfl))) (fun _ _ _ _ _ => (pv 4))) pe_int (fun _ _ => rfl)))) pss_nil)
      (pss_one (ps_ret (pv 3)))))), ?_⟩
    refine ⟨⟨_, rfl⟩, by show 4 ≤ sizeLine; decide, fun t nt => ⟨.ref a, rfl, a, 4, rfl, hp.new nt, by decide, by decide, fun r H1 r0 r1 p1 o1 => ?_⟩⟩
    obtain ⟨v, hv, _, ev⟩ := at_in (xs := [V.int 1, .int 1, .int 2, .int 8]) r0 r1
    have hi : ∃ i : Int, v = .int i ∧ 0 ≤ i ∧ i ≤ 8 := by
      simp only [List.mem_cons, List.not_mem_nil, or_false] at hv
      rcases hv with rfl | rfl | rfl | rfl
      · exact ⟨_, rfl, by decide, by decide⟩
      · exact ⟨_, rfl, by decide, by decide⟩
      · exact ⟨_, rfl, by decide, by decide⟩
      · exact ⟨_, rfl, by decide, by decide⟩
    obtain ⟨i, rfl, i0, i1⟩ := hi
    refine ⟨t, _, r, _, rfl, rfl, .inl (.inl (o1.get upd_same (hp.ne nt))), ev, i, rfl, by omega, by omega, fun D nD => ?_⟩
    have o1' : Off a H H1 := (Off.new nt).trans o1
    have nDa : D ≠ a := p1.ne nD
    refine lc_range (lo := 0) (n := i.toNat) (fun j H2 => PotAt H2 a ∧ Off a H1 H2 ∧ ∃ ys : List Str, H2 D = some (.lst (ys.map V.str)) ∧ ys.length = j ∧ ∀ y ∈ ys, y.length = 1 ∧ Bytes y) ⟨p1.put nDa, Off.refl.put nD, [], upd_same, rfl, fun y hy => nomatch hy⟩ ?_ ?_
    · rintro j H2 hj ⟨p2, o2, ys, e2, l2, b2⟩
      refine ⟨rfl, .str abc, rfl, .ref a, rfl, a, 26, rfl, p2, by decide, by decide, fun m H3 m0 m1 p3 o3 => ?_⟩
      obtain ⟨c, hc, _, ec⟩ := at_in (xs := abc.cps.toList) m0 (Int.lt_of_lt_of_le m1 (by decide +kernel))
      refine ⟨abc, m, c, rfl, rfl, by rw [abc_len]; decide, ec, ys.map V.str, o3.get e2 nDa, ?_, ?_⟩
      · rw [List.length_map, l2]
        exact small1000 (by omega)
      · refine ⟨p3.put nDa, (o2.trans o3).put nD, ys ++ [⟨#[c]⟩], ?_, by rw [List.length_append, l2]; rfl, fun y hy => ?_⟩
        · rw [upd_same, List.map_append]
          rfl
        · rcases List.mem_append.mp hy with hy | hy
          · exact b2 y hy
          · cases List.mem_singleton.mp hy
            exact one_sign (abc_bytes c hc)
    · rintro H2 ⟨p2, o2, ys, e2, l2, b2⟩
      refine ⟨"", D, ys, rfl, rfl, .inl (.inl (.inl e2)), ?_, ?_⟩
      · rw [sum_ones b2]
        show ys.length + ys.length * 0 ≤ 16777216
        omega
      · rw [TL.join_eq]
        obtain ⟨h1, h2⟩ := bytes_join ys b2
        refine ⟨_, rfl, .ref l, rfl, l, [], rfl, .inl (.inl (.inl ((o1'.trans o2).get hl nla))), rfl, rfl, _, rfl, iteF ?_⟩
        exact ⟨_, rfl, q _ _ ⟨by omega, h2⟩ p2 (o1'.trans o2)⟩
end
end K11

set_option Elab.async false
set_option linter.all false
set_option maxRecDepth 100000
set_option maxHeartbeats 4000000
namespace K11
open PySem PySem.Spec PyProof.Rows L2 Lw
section
variable {P : Program} {w : World} {K : PySem.W.Frag} {mg : Str → Option Value} {base : Heap} {f : Addr} {fd : FuncData}

/-! ### is_name -/
def isS : PyData → Bool
  | .str _ => true
  | _ => false
def isI : PyData → Bool
  | .int _ => true
  | .bool _ => true
  | _ => false
def isB : PyData → Bool
  | .bool _ => true
  | _ => false
theorem kit_str (d : PyData) : kitB (tyD d) "str" = some (isS d) := by
  cases d
  all_goals
    simp only [tyD, isS]
    decide +kernel
theorem kit_int (d : PyData) : kitB (tyD d) "int" = some (isI d) := by
  cases d
  all_goals
    simp only [tyD, isI]
    decide +kernel
theorem kit_bool (d : PyData) : kitB (tyD d) "bool" = some (isB d) := by
  cases d
  all_goals
    simp only [tyD, isB]
    decide +kernel
def nameB (z : Str) : Bool := (decide ((1 : Int) ≤ (z.length : Int)) && decide ((z.length : Int) ≤ 8)) && z.cps.toList.all fun c => decide (c ∈ abc.cps.toList)
def nameD : PyData → Bool
  | .str z => nameB z
  | _ => false
def intD (d : PyData) : Bool := isI d && !isB d
def Short (d : PyData) : Prop := ∀ z, d = .str z → z.length ≤ 1000
def sp_name (K : PySem.W.Frag) : Sp := fun vs H Q _ => ∃ (v : V) (d : PyData), vs = [v] ∧ Dq K H v d ∧ Short d ∧ ∀ H', Same H H' → Q (.bl (nameD d)) H'
theorem map_take {z : Str} {i : Nat} {c : Nat} {g : Nat → Bool} (h : z.cps[i]? = some c) : ((z.cps.toList.take (i + 1)).map g) = ((z.cps.toList.take i).map g) ++ [g c] := by
  have e : z.cps.toList[i]? = some c := by
    rw [Array.getElem?_toList]
    exact h
  rw [List.take_add_one, e, List.map_append]
  rfl
theorem all_id {l : List Nat} {g : Nat → Bool} : (l.map g).all id = l.all g := by
  rw [List.all_map]
  rfl
theorem ok_is_name (F : FnP K "is_name" s_is_name f fd) (T : Tz mg) : FnOk P w K mg base CX0 1 f fd ["value"] (sp_name K) := by
  refine F.ok sc_is_name (fun vs H Q E h => ?_) (fun cdv A outer s H vs Q E hr h => ?_)
  · obtain ⟨v, d, rfl, _⟩ := h
    rfl
  · obtain ⟨v, d, rfl, hd, hs, q⟩ := h
    refine ⟨_, PSs.nox (pss_cons (ps_if (pt_not (pt_val (pe_callB call_isi (by rfl) T.z_isinstance (by decide +kernel) (pa_cons (pv 0) (pa_cons (pe_bltn (v := .ty "str") (by rfl) T.z_str (by decide +kernel) rfl) pa_nil))))) (pss_one (ps_ret pe_bl)) pss_nil)
      (pss_one (ps_ret (pe_and (pe_chain op_le op_le pe_int (pe_callB call_len_str (by rfl) T.z_len (by decide +kernel) (pa_cons (pv 0) pa_nil)) (pe_gi T.c_LONGEST_NAME)) (pe_one (pe_callB (cr_all rfl) (by rfl) T.z_all (by decide +kernel) (pa_cons (pe_lc (own := [("sign", 1)]) (g := gName 1) (tt := tYes) rfl sc_is_name.nd (pi_str (pv 0)) (blkOk_by (own := [("sign", 1)]) (N := N_is_name) (sc := defScope s_is_name) (by decide +kernel)) (fun _ _ _ _ _ => pg_name (i := 1) sc_is_name.nd rfl (Or.inl rfl)) (fun _ _ _ _ _ => pts_nil) (fun _ _ _ _ _ => (pe_cmpR op_in_sign (pv 1) (pe_gs T.c_LETTERS) (by with_unfolding_all rfl)))) pa_nil))))))), ?_⟩
    refine ⟨v, rfl, v, .ty "str", _, _, _, rfl, .ty _, hd.ty, kit_ty (kit_str d), _, rfl, ?_⟩
    cases hd with
    | str z =>
      refine iteF ?_
      have lz := hs z rfl
      refine ⟨.str z, rfl, z, rfl, Nat.le_of_lt (small1000 lz), _, _, rfl, rfl, _, rfl, ite2 (fun e1 => ?_) (fun e1 => ?_)⟩
      · refine ⟨_, _, rfl, rfl, _, rfl, ite2 (fun e2 => ?_) (fun e2 => ?_)⟩
        · refine ⟨.str z, rfl, z, rfl, fun D nD => ?_⟩
          refine lc_it walk_str (fun i H2 => Same H H2 ∧ H2 D = some (.lst (((z.cps.toList.take i).map fun c => decide (c ∈ abc.cps.toList)).map V.bl))) ⟨same_upd nD, upd_same⟩ (fun _ _ _ _ => trivial) ?_ ?_
          · rintro i x H2 H3 hi ⟨s2, e3⟩ ⟨rfl, c, hc, rfl⟩
            refine ⟨rfl, _, rfl, c, abc, rfl, rfl, _, e3, ?_, fun b o e => ?_, ?_⟩
            · rw [List.length_map, List.length_map, List.length_take]
              refine small1000 (Nat.le_trans (Nat.min_le_left _ _) ?_)
              have : z.cps.size = z.length := rfl
              omega
            · rw [upd_ne (ne_of_none e nD)]
              exact s2 _ _ e
            · rw [upd_same, map_take hc, List.map_append]
              rfl
          · rintro H2 ⟨s2, e3⟩
            refine ⟨D, _, rfl, .inl (.inl e3), ?_⟩
            rw [all_id]
            have ez : z.cps.toList.take z.cps.size = z.cps.toList := List.take_of_length_le (Nat.le_of_eq (Array.length_toList))
            rw [ez]
            have en : nameD (.str z) = z.cps.toList.all fun c => decide (c ∈ abc.cps.toList) := by
              show nameB z = _
              unfold nameB
              rw [e1, e2]
              rfl
            rw [← en]
            exact q H2 s2
        · have en : nameD (.str z) = false := by
            show nameB z = _
            unfold nameB
            rw [show decide ((z.length : Int) ≤ 8) = false from Bool.eq_false_iff.mpr e2, Bool.and_false, Bool.false_and]
          rw [en] at q
          exact q H (Same.refl H)
      · have en : nameD (.str z) = false := by
          show nameB z = _
          unfold nameB
          rw [show decide ((1 : Int) ≤ (z.length : Int)) = false from Bool.eq_false_iff.mpr e1, Bool.false_and, Bool.false_and]
        rw [en] at q
        exact ⟨_, rfl, q H (Same.refl H)⟩
    | non => exact q H (Same.refl H)
    | bl b => exact q H (Same.refl H)
    | int i => exact q H (Same.refl H)
    | lst h g => exact q H (Same.refl H)
    | tup h g => exact q H (Same.refl H)
    | dic h => exact q H (Same.refl H)

/-! ### is_word -/
theorem ok_is_word (F : FnP K "_law_is_word" s_is_word f fd) (T : Tz mg) : FnOk P w K mg base CX0 1 f fd ["_law_thing"] (sp_name K) := by
  refine F.ok sc_is_word (fun vs H Q E h => ?_) (fun cdv A outer s H vs Q E hr h => ?_)
  · obtain ⟨v, d, rfl, _⟩ := h
    rfl
  · obtain ⟨v, d, rfl, hd, hs, q⟩ := h
    refine ⟨_, PSs.nox (pss_cons (ps_if (PW.pt (pw_or (pt_not (pt_val (pe_callB call_isi (by rfl) T.z_isinstance (by decide +kernel) (pa_cons (pv 0) (pa_cons (pe_bltn (v := .ty "str") (by rfl) T.z_str (by decide +kernel) rfl) pa_nil))))) (pw_or1 (pt_not (pt_chain op_le op_le pe_int (pe_callB call_len_str (by rfl) T.z_len (by decide +kernel) (pa_cons (pv 0) pa_nil)) pe_int))))) (pss_one (ps_ret pe_bl)) pss_nil)
      (pss_one (ps_ret (pe_callB (cr_all rfl) (by rfl) T.z_all (by decide +kernel) (pa_cons (pe_lc (own := [("_law_sign", 1)]) (g := gName 1) (tt := tYes) rfl sc_is_word.nd (pi_str (pv 0)) (blkOk_by (own := [("_law_sign", 1)]) (N := N_is_word) (sc := defScope s_is_word) (by decide +kernel)) (fun _ _ _ _ _ => pg_name (i := 1) sc_is_word.nd rfl (Or.inl rfl)) (fun _ _ _ _ _ => pts_nil) (fun _ _ _ _ _ => (pe_cmpR op_in_sign (pv 1) pe_str (by with_unfolding_all rfl)))) pa_nil))))), ?_⟩
    refine ⟨v, rfl, v, .ty "str", _, _, _, rfl, .ty _, hd.ty, kit_ty (kit_str d), _, rfl, ?_⟩
    cases hd with
    | str z =>
      refine iteF ?_
      have lz := hs z rfl
      refine ⟨.str z, rfl, z, rfl, Nat.le_of_lt (small1000 lz), _, _, rfl, rfl, _, rfl, ite2 (fun e1 => ?_) (fun e1 => ?_)⟩
      · refine ⟨_, _, rfl, rfl, _, rfl, ?_⟩
        by_cases e2 : decide ((z.length : Int) ≤ 8) = true
        · rw [e2]
          refine iteF ?_
          refine ⟨.str z, rfl, z, rfl, fun D nD => ?_⟩
          refine lc_it walk_str (fun i H2 => Same H H2 ∧ H2 D = some (.lst (((z.cps.toList.take i).map fun c => decide (c ∈ abc.cps.toList)).map V.bl))) ⟨same_upd nD, upd_same⟩ (fun _ _ _ _ => trivial) ?_ ?_
          · rintro i x H2 H3 hi ⟨s2, e3⟩ ⟨rfl, c, hc, rfl⟩
            refine ⟨rfl, _, rfl, c, abc, rfl, rfl, _, e3, ?_, fun b o e => ?_, ?_⟩
            · rw [List.length_map, List.length_map, List.length_take]
              refine small1000 (Nat.le_trans (Nat.min_le_left _ _) ?_)
              have : z.cps.size = z.length := rfl
              omega
            · rw [upd_ne (ne_of_none e nD)]
              exact s2 _ _ e
            · rw [upd_same, map_take hc, List.map_append]
              rfl
          · rintro H2 ⟨s2, e3⟩
            refine ⟨D, _, rfl, .inl (.inl e3), ?_⟩
            rw [all_id]
            have ez : z.cps.toList.take z.cps.size = z.cps.toList := List.take_of_length_le (Nat.le_of_eq (Array.length_toList))
            rw [ez]
            have en : nameD (.str z) = z.cps.toList.all fun c => decide (c ∈ abc.cps.toList) := by
              show nameB z = _
              unfold nameB
              rw [e1, e2]
              rfl
            rw [← en]
            exact q H2 s2
        · have e3 : decide ((z.length : Int) ≤ 8) = false := Bool.eq_false_iff.mpr e2
          rw [e3]
          have en : nameD (.str z) = false := by
            show nameB z = _
            unfold nameB
            rw [e3, Bool.and_false, Bool.false_and]
          rw [en] at q
          exact q H (Same.refl H)
      · have en : nameD (.str z) = false := by
          show nameB z = _
          unfold nameB
          rw [show decide ((1 : Int) ≤ (z.length : Int)) = false from Bool.eq_false_iff.mpr e1, Bool.false_and, Bool.false_and]
        rw [en] at q
        exact ⟨_, rfl, q H (Same.refl H)⟩
    | non => exact q H (Same.refl H)
    | bl b => exact q H (Same.refl H)
    | int i => exact q H (Same.refl H)
    | lst h g => exact q H (Same.refl H)
    | tup h g => exact q H (Same.refl H)
    | dic h => exact q H (Same.refl H)

/-! ### is_integer -/
def sp_int (K : PySem.W.Frag) : Sp := fun vs H Q _ => ∃ (v : V) (d : PyData), vs = [v] ∧ Dq K H v d ∧ Q (.bl (intD d)) H
theorem ok_is_integer (F : FnP K "is_integer" s_is_integer f fd) (T : Tz mg) : FnOk P w K mg base CX0 1 f fd ["value"] (sp_int K) := by
  refine F.ok sc_is_integer (fun vs H Q E h => ?_) (fun cdv A outer s H vs Q E hr h => ?_)
  · obtain ⟨v, d, rfl, _⟩ := h
    rfl
  · obtain ⟨v, d, rfl, hd, q⟩ := h
    refine ⟨_, PSs.nox (pss_one (ps_ret (pe_and (pe_callB call_isi (by rfl) T.z_isinstance (by decide +kernel) (pa_cons (pv 0) (pa_cons (pe_bltn (v := .ty "int") (by rfl) T.z_int (by decide +kernel) rfl) pa_nil))) (pe_one (pe_not (pe_callB call_isi (by rfl) T.z_isinstance (by decide +kernel) (pa_cons (pv 0) (pa_cons (pe_bltn (v := .ty "bool") (by rfl) T.z_bool (by decide +kernel) rfl) pa_nil)))))))), ?_⟩
    refine ⟨v, rfl, v, .ty "int", _, _, _, rfl, .ty _, hd.ty, kit_ty (kit_int d), _, rfl, ite2 (fun e => ?_) (fun e => ?_)⟩
    · refine ⟨v, rfl, v, .ty "bool", _, _, _, rfl, .ty _, hd.ty, kit_ty (kit_bool d), _, rfl, ?_⟩
      unfold intD at q
      rw [e, Bool.true_and] at q
      exact q
    · unfold intD at q
      rw [Bool.eq_false_iff.mpr e, Bool.false_and] at q
      exact q

/-! ### right -/
def sp_right (K : PySem.W.Frag) : Sp := fun vs H Q _ => ∃ (v : V) (d : PyData), vs = [v] ∧ Dq K H v d ∧ Short d ∧ Small 2000 d ∧ ∀ H', Same H H' → Q (.bl true) H'
theorem small3 {d : PyData} {a b c e : Bool} (h : Small 2000 d) : (PyData.list [.list [.bool a, .bool b], .list [.bool c, .bool e], d]).showable = true ∧ (PyData.list [.list [.bool a, .bool b], .list [.bool c, .bool e], d]).shown.length ≤ sizeLine ∧ (PyData.list [.list [.bool a, .bool b], .list [.bool c, .bool e], d]).depth ≤ 60 := by
  refine ⟨?_, ?_, ?_⟩
  · have := h.sh
    simp [PyData.showable, PyData.showableAll, this]
  · show (listText [listText [(PyData.bool a).shown, (PyData.bool b).shown], listText [(PyData.bool c).shown, (PyData.bool e).shown], d.shown]).length ≤ sizeLine
    rw [len_list3, len_list2, len_list2]
    have h1 := len_bool a
    have h2 := len_bool b
    have h3 := len_bool c
    have h4 := len_bool e
    have h5 := h.ln
    have h6 : 3000 ≤ sizeLine := by decide
    omega
  · have := h.dp
    simp only [PyData.depth, PyData.depthAll]
    omega
theorem Small.line {n : Nat} {d : PyData} (h : Small n d) (e : n ≤ 10000) : d.shown.length ≤ sizeLine ∧ d.depth ≤ 60 := by
  refine ⟨Nat.le_trans h.ln (Nat.le_trans e (by decide)), Nat.le_trans h.dp (by decide)⟩
theorem ok_right {fN fI fW : Addr} {fdN fdI fdW : FuncData} (F : FnP K "_law_right" s_right f fd) (T : Tz mg) (B : SysOk base)
    (O_is_name : Own P w K mg base CX0 1 "is_name" ["value"] (sp_name K) fN fdN) (O_is_integer : Own P w K mg base CX0 1 "is_integer" ["value"] (sp_int K) fI fdI) (O_is_word : Own P w K mg base CX0 1 "_law_is_word" ["_law_thing"] (sp_name K) fW fdW)
    (O_is_name_kw : KBn K fdN ["value"] 0 ["value"] (fun _ ws => ws) (fun _ zs => zs)) (O_is_integer_kw : KBn K fdI ["value"] 0 ["value"] (fun _ ws => ws) (fun _ zs => zs)) :
    FnG P w K mg base CX0 2 f fd ["_law_thing"] (sp_right K) := by
  refine fn_g F sc_right (fun vs H Q E h => ?_) (fun cdv A outer s H vs Q E hg hr h => ?_)
  · obtain ⟨v, d, rfl, _⟩ := h
    rfl
  · obtain ⟨v, d, rfl, hd, hs, sm, q⟩ := h
    refine ⟨_, PSs.nox (pss_cons (ps_set (i := 1) sc_right.nd rfl (Or.inl rfl) (pe_callB (call_repr B hg hr.units) (by rfl) T.z_repr (by decide +kernel) (pa_cons (pv 0) pa_nil)))
      (pss_cons (ps_set (i := 2) sc_right.nd rfl (Or.inl rfl) (pe_lst (pa_cons (pe_own O_is_word (hr.mono (by decide)) (pa_cons (pv 0) pa_nil)) (pa_cons (pe_and (pe_callB call_isi (by rfl) T.z_isinstance (by decide +kernel) (pa_cons (pv 0) (pa_cons (pe_bltn (v := .ty "int") (by rfl) T.z_int (by decide +kernel) rfl) pa_nil))) (pe_one (pe_not (pe_callB call_isi (by rfl) T.z_isinstance (by decide +kernel) (pa_cons (pv 0) (pa_cons (pe_bltn (v := .ty "bool") (by rfl) T.z_bool (by decide +kernel) rfl) pa_nil)))))) pa_nil))))
      (pss_cons (ps_set (i := 3) sc_right.nd rfl (Or.inl rfl) (pe_lst (pa_cons (pe_own O_is_name (hr.mono (by decide)) (pa_cons (pv 0) pa_nil)) (pa_cons (pe_own O_is_integer (hr.mono (by decide)) (pa_cons (pv 0) pa_nil)) pa_nil))))
      (pss_cons (ps_set (i := 4) sc_right.nd rfl (Or.inl rfl) (pe_lst (pa_cons (pe_ownW O_is_name O_is_name_kw (hr.mono (by decide)) (pk_cons (pv 0) pk_nil)) (pa_cons (pe_ownW O_is_integer O_is_integer_kw (hr.mono (by decide)) (pk_cons (pv 0) pk_nil)) pa_nil))))
      (pss_one (ps_ret (pe_and (pe_cmpR op_eq (pe_callB (call_repr B hg hr.units) (by rfl) T.z_repr (by decide +kernel) (pa_cons (pe_lst (pa_cons (pv 3) (pa_cons (pv 4) (pa_cons (pv 0) pa_nil)))) pa_nil)) (pe_callB (call_repr B hg hr.units) (by rfl) T.z_repr (by decide +kernel) (pa_cons (pe_lst (pa_cons (pv 2) (pa_cons (pv 2) (pa_cons (pv 0) pa_nil)))) pa_nil)) (nomark _)) (pe_one (pe_cmpR op_eq (pe_callB (call_repr B hg hr.units) (by rfl) T.z_repr (by decide +kernel) (pa_cons (pv 0) pa_nil)) (pv 1) (nomark _)))))))))), ?_⟩
    obtain ⟨z1, z2⟩ := Small.line sm (by decide)
    refine ⟨v, rfl, v, d, rfl, hd, sm.sh, z1, z2, ?_⟩
    -- due
    refine ⟨v, rfl, v, d, rfl, hd, hs, fun H1 s1 => ?_⟩
    have due : ∀ Q1 : VK, Q1 (.bl (intD d)) H1 → (tAndV (tCB (rIsi K) (tCons (tVar 0) (tCons (tC (.ty "int")) tNil))) (tNotV (tCB (rIsi K) (tCons (tVar 0) (tCons (tC (.ty "bool")) tNil))))) [some v, some (.str d.shown), none, none, none] H1 Q1 := by
      intro Q1 q1
      refine ⟨v, rfl, v, .ty "int", _, _, _, rfl, .ty _, (hd.same s1).ty, kit_ty (kit_int d), _, rfl, ite2 (fun e => ?_) (fun e => ?_)⟩
      · refine ⟨v, rfl, v, .ty "bool", _, _, _, rfl, .ty _, (hd.same s1).ty, kit_ty (kit_bool d), _, rfl, ?_⟩
        unfold intD at q1
        rw [e, Bool.true_and] at q1
        exact q1
      · unfold intD at q1
        rw [Bool.eq_false_iff.mpr e, Bool.false_and] at q1
        exact q1
    refine due _ ?_
    refine ⟨by show 2 ≤ sizeLine; decide, fun l1 n1 => ?_⟩
    have s2 : Same H (upd H1 l1 (.lst [.bl (nameD d), .bl (intD d)])) := s1.trans (same_upd n1)
    -- told
    refine ⟨v, rfl, v, d, rfl, hd.same s2, hs, fun H2 s3 => ⟨v, rfl, v, d, rfl, hd.same (s2.trans s3), by show 2 ≤ sizeLine; decide, fun l2 n2 => ?_⟩⟩
    have s4 : Same H (upd H2 l2 (.lst [.bl (nameD d), .bl (intD d)])) := (s2.trans s3).trans (same_upd n2)
    -- named
    refine ⟨v, rfl, rfl, rfl, v, d, rfl, hd.same s4, hs, fun H3 s5 => ⟨v, rfl, rfl, rfl, v, d, rfl, hd.same (s4.trans s5), by show 2 ≤ sizeLine; decide, fun l3 n3 => ?_⟩⟩
    have s6 : Same H (upd H3 l3 (.lst [.bl (nameD d), .bl (intD d)])) := (s4.trans s5).trans (same_upd n3)
    have a1 : (upd H3 l3 (.lst [.bl (nameD d), .bl (intD d)])) l1 = some (.lst [.bl (nameD d), .bl (intD d)]) := ((same_upd n3) _ _ (s5 _ _ ((same_upd n2) _ _ (s3 _ _ upd_same))))
    have a2 : (upd H3 l3 (.lst [.bl (nameD d), .bl (intD d)])) l2 = some (.lst [.bl (nameD d), .bl (intD d)]) := ((same_upd n3) _ _ (s5 _ _ upd_same))
    have a3 : (upd H3 l3 (.lst [.bl (nameD d), .bl (intD d)])) l3 = some (.lst [.bl (nameD d), .bl (intD d)]) := upd_same
    revert a1 a2 a3 s6
    generalize upd H3 l3 (.lst [.bl (nameD d), .bl (intD d)]) = H4
    intro s6 a1 a2 a3
    -- repr([told, named, thing])
    have dd : ∀ {H5 : Hp} {l m x : Addr}, Same H H5 → H5 l = some (.lst [.bl (nameD d), .bl (intD d)]) → H5 m = some (.lst [.bl (nameD d), .bl (intD d)]) → H5 x = some (.lst [.ref l, .ref m, v]) →
        Dq K H5 (.ref x) (.list [.list [.bool (nameD d), .bool (intD d)], .list [.bool (nameD d), .bool (intD d)], d]) := by
      intro H5 l m x hs5 e1 e2 e3
      exact .lst (.inl (.inl e3)) (.cons (.lst (.inl (.inl e1)) (.cons (.bl _) (.cons (.bl _) .nil))) (.cons (.lst (.inl (.inl e2)) (.cons (.bl _) (.cons (.bl _) .nil))) (.cons (hd.same hs5) .nil)))
    obtain ⟨y0, y1, y2⟩ := small3 (a := nameD d) (b := intD d) (c := nameD d) (e := intD d) sm
    refine ⟨_, rfl, _, rfl, v, rfl, by show 3 ≤ sizeLine; decide, fun x1 n4 => ?_⟩
    have t1 := same_upd (o := .lst [.ref l2, .ref l3, v]) n4
    refine ⟨_, _, rfl, dd (s6.trans t1) (t1 _ _ a2) (t1 _ _ a3) upd_same, y0, y1, y2, ?_⟩
    refine ⟨_, rfl, _, rfl, v, rfl, by show 3 ≤ sizeLine; decide, fun x2 n5 => ?_⟩
    have t2 := t1.trans (same_upd (o := .lst [.ref l1, .ref l1, v]) n5)
    refine ⟨_, _, rfl, dd (s6.trans t2) (t2 _ _ a1) (t2 _ _ a1) upd_same, y0, y1, y2, rfl, ?_⟩
    refine ⟨_, rfl, ?_⟩
    rw [decide_eq_true rfl]
    refine iteT ?_
    refine ⟨v, rfl, v, d, rfl, hd.same (s6.trans t2), sm.sh, z1, z2, .str d.shown, rfl, rfl, ?_⟩
    rw [decide_eq_true rfl]
    exact q _ (s6.trans t2)
end
end K11

set_option Elab.async false
set_option linter.all false
set_option maxRecDepth 100000
set_option maxHeartbeats 4000000
namespace K11
open PySem PySem.Spec PyProof.Rows L2 Lw
theorem odds_ok : ∀ d ∈ odds, Short d ∧ Small 2000 d := by
  intro d hd
  simp only [odds, odds1, odds2, odds3, List.cons_append, List.nil_append, List.mem_cons, List.not_mem_nil, or_false] at hd
  rcases hd with rfl | rfl | rfl | rfl | rfl | rfl | rfl | rfl | rfl | rfl | rfl | rfl | rfl | rfl | rfl | rfl | rfl | rfl | rfl | rfl | rfl | rfl | rfl | rfl | rfl | rfl | rfl | rfl | rfl
  all_goals
    refine ⟨fun z hz => ?_, ⟨by decide +kernel, by decide +kernel, by decide +kernel⟩⟩
    first
      | (cases hz; decide)
      | (exact PyData.noConfusion hz)
section
variable {P : Program} {w : World} {K : PySem.W.Frag} {mg : Str → Option Value} {base : Heap} {f : Addr} {fd : FuncData}
theorem off_new {K : PySem.W.Frag} {H : Hp} {p s : Addr} {o : HO} {xs : List V} (h : SqL K H s xs) (n : H p = none) : SqL K (off (upd H p o) p) s xs := by
  refine Same.seq (fun b u e => ?_) h
  rw [off_ne (ne_of_none e n), upd_ne (ne_of_none e n)]
  exact e
def sp_law (K : PySem.W.Frag) : Sp := fun vs H Q _ => ∃ (s : Addr) (ns : List Int), vs = [.ref s] ∧ SqL K H s (ns.map V.int) ∧ ns.length ≤ 63 ∧ ∀ H', Q (.bl true) H'
theorem ok_law {fP fD fS fH fO fW fR : Addr} {fdP fdD fdS fdH fdO fdW fdR : FuncData} (F : FnP K "law" s_law f fd) (T : Tz mg)
    (O_pot : Own P w K mg base CX0 1 "_law_pot" ["_law_script", "_law_k"] (sp_pot K) fP fdP)
    (O_draw : Own P w K mg base CX0 1 "_law_draw" ["_law_pot_here", "_law_many"] sp_draw fD fdD)
    (O_string : Own P w K mg base CX0 2 "_law_string" ["_law_pot_here"] sp_string fS fdS)
    (O_whole : Own P w K mg base CX0 2 "_law_whole" ["_law_pot_here"] sp_whole fH fdH)
    (O_odd : Own P w K mg base CX0 2 "_law_odd" ["_law_pot_here"] (sp_odd K) fO fdO)
    (O_word : Own P w K mg base CX0 2 "_law_word" ["_law_pot_here", "_law_taken"] (sp_word K) fW fdW)
    (O_right : OwnG P w K mg base CX0 2 "_law_right" ["_law_thing"] (sp_right K) fR fdR) :
    FnG P w K mg base CX0 3 f fd ["_law_script"] (sp_law K) := by
  refine fn_g F sc_law (fun vs H Q E h => ?_) (fun cdv A outer s H vs Q E hg hr h => ?_)
  · obtain ⟨a, ns, rfl, _⟩ := h
    rfl
  · obtain ⟨sc, ns, rfl, hS, hl, q⟩ := h
    refine ⟨_, PSs.nox (pss_cons (ps_for PassesOwn.never rfl (pi_range1 (by rfl) T.z_range (pa_cons (pe_callB (call_max2 rfl) (by rfl) T.z_max (by decide +kernel) (pa_cons pe_int (pa_cons (pe_callB (call_min2 rfl) (by rfl) T.z_min (by decide +kernel) (pa_cons pe_int (pa_cons (pe_callB call_len_seq (by rfl) T.z_len (by decide +kernel) (pa_cons (pv 0) pa_nil)) pa_nil))) pa_nil))) pa_nil)) (pg_name (i := 1) sc_law.nd rfl (Or.inl rfl)) (pss_cons (ps_set (i := 2) sc_law.nd rfl (Or.inl rfl) (pe_own O_pot (hr.mono (by decide)) (pa_cons (pv 0) (pa_cons (pv 1) pa_nil))))
      (pss_one (ps_for PassesOwn.never rfl (pi_range1 (by rfl) T.z_range (pa_cons pe_int pa_nil)) (pg_name (i := 3) sc_law.nd rfl (Or.inl rfl)) (pss_cons (ps_set (i := 4) sc_law.nd rfl (Or.inl rfl) (pe_lst (pa_cons (pe_own O_string (hr.mono (by decide)) (pa_cons (pv 2) pa_nil)) (pa_cons (pe_own O_whole (hr.mono (by decide)) (pa_cons (pv 2) pa_nil)) (pa_cons (pe_own O_odd (hr.mono (by decide)) (pa_cons (pv 2) pa_nil)) (pa_cons (pe_own O_word (hr.mono (by decide)) (pa_cons (pv 2) (pa_cons (pe_lst pa_nil) pa_nil))) pa_nil))))))
      (pss_one (ps_if (pt_not (pt_val (pe_owng O_right hg (hr.mono (by decide)) (pa_cons (pe_ix ix_list (pv 4) (pe_own O_draw (hr.mono (by decide)) (pa_cons (pv 2) (pa_cons pe_int pa_nil))) (fun _ _ => rfl)) pa_nil)))) (pss_one (ps_ret pe_bl)) pss_nil)))))))
      (pss_one (ps_ret pe_bl))), ?_⟩
    refine ⟨.ref sc, rfl, sc, _, rfl, .inl hS, _, _, rfl, _, _, rfl, _, rfl, ?_, ?_, ?_⟩
    · split <;> split <;> omega
    · rw [List.length_map]
      split <;> split <;> omega
    refine for_range (lo := 0) (n := _) (fun _ σ H1 => ∃ x1 x2 x3 x4, σ = [some (.ref sc), x1, x2, x3, x4] ∧ SqL K H1 sc (ns.map V.int)) ⟨none, none, none, none, rfl, hS⟩ ?_ ?_
    · rintro i σ H1 hi ⟨x1, x2, x3, x4, rfl, hS1⟩
      have hi1 : i < 1000 := by
        refine Nat.lt_of_lt_of_le hi ?_
        rw [List.length_map]
        split <;> split <;> omega
      refine ⟨.ref sc, rfl, .int i, by show some (some (V.int (0 + i))) = _; rw [Int.zero_add], sc, ns, i, rfl, hS1, hi1, fun a u v na v0 v1 => ?_⟩
      refine ⟨8, rfl, by decide, by decide, ?_⟩
      refine for_range (lo := 0) (n := 8) (fun _ σ H2 => ∃ y1 y3 y4, σ = [some (.ref sc), y1, some (.ref a), y3, y4] ∧ PotAt H2 a ∧ SqL K (off H2 a) sc (ns.map V.int)) ⟨_, _, _, rfl, ⟨u, v, upd_same, v0, v1⟩, off_new hS1 na⟩ ?_ ?_
      · rintro j σ H2 hj ⟨y1, y3, y4, rfl, p2, hS2⟩
        -- the four things
        refine ⟨.ref a, rfl, a, rfl, p2, fun z1 H3 hz1 p3 o3 => ?_⟩
        refine ⟨.ref a, rfl, a, rfl, p3, fun k1 H4 hk1 p4 o4 => ?_⟩
        refine ⟨.ref a, rfl, a, rfl, p4, fun v1 d1 H5 hd1 dv1 p5 o5 => ?_⟩
        refine ⟨.ref a, rfl, Nat.zero_le _, fun l nl => ⟨a, l, rfl, p5.new nl, upd_same, fun z2 H6 hz2 p6 o6 => ?_⟩⟩
        refine ⟨by show 4 ≤ sizeLine; decide, fun t nt => ?_⟩
        have o7 : Off a H2 (upd H6 t (.lst [.str z1, .int k1, v1, .str z2])) := ((((o3.trans o4).trans o5).trans (Off.new nl)).trans o6).trans (Off.new nt)
        have o8 : Off a H5 (upd H6 t (.lst [.str z1, .int k1, v1, .str z2])) := ((Off.new nl).trans o6).trans (Off.new nt)
        refine ⟨.ref t, rfl, .ref a, rfl, a, 4, rfl, p6.new nt, by decide, by decide, fun r H8 r0 r1 p8 o9 => ?_⟩
        obtain ⟨v, hv, _, ev⟩ := at_in (xs := [.str z1, .int k1, v1, .str z2]) r0 r1
        have hd : ∃ d, Dq K (off H8 a) v d ∧ Short d ∧ Small 2000 d := by
          simp only [List.mem_cons, List.not_mem_nil, or_false] at hv
          rcases hv with rfl | rfl | rfl | rfl
          · exact ⟨_, .str z1, fun z hz => by cases hz; exact Nat.le_trans hz1.1 (by decide), (small_text hz1.2 hz1.1).mono (by decide)⟩
          · exact ⟨_, .int k1, (fun z hz => by cases hz), small_int hk1⟩
          · exact ⟨d1, Dq.same (o8.trans o9) dv1, odds_ok d1 hd1⟩
          · exact ⟨_, .str z2, fun z hz => by cases hz; exact Nat.le_trans hz2.1 (by decide), (small_text hz2.2 hz2.1).mono (by decide)⟩
        obtain ⟨d, dv, sd, md⟩ := hd
        refine ⟨t, _, r, v, rfl, rfl, .inl (.inl (o9.get upd_same (p6.ne nt))), ev, v, d, rfl, Dq.same off_same dv, sd, md, fun H9 s9 => ⟨_, rfl, ?_⟩⟩
        refine iteF ⟨_, _, _, rfl, p8.same s9, ?_⟩
        exact (((o7.trans o9).trans (Off.same s9))).seq hS2
      · rintro σ H2 ⟨y1, y3, y4, rfl, p2, hS2⟩
        exact ⟨_, _, _, _, rfl, off_same.seq hS2⟩
    · rintro σ H1 ⟨x1, x2, x3, x4, rfl, hS1⟩
      exact q H1
end
end K11

set_option Elab.async false
set_option linter.all false
set_option maxRecDepth 100000
set_option maxHeartbeats 0
namespace K11
open PySem PySem.Spec PyProof.Rows L2 Lw
def dd (x : Str) (st : Stmt) : He.DefD := ⟨(x, none), x, x, defArgs st, defBody st, defScope st, [], []⟩
def fn : List He.DefD := [dd "is_name" s_is_name, dd "is_integer" s_is_integer, dd "_law_pot" s_pot, dd "_law_draw" s_draw, dd "_law_word" s_word, dd "_law_odd" s_odd, dd "_law_is_word" s_is_word, dd "_law_string" s_string, dd "_law_whole" s_whole, dd "_law_right" s_right, dd "law" s_law]
def fa : List He.Fa := [.glo "is_name", .glo "is_integer", .glo "_law_pot", .glo "_law_draw", .glo "_law_word", .glo "_law_odd", .glo "_law_is_word", .glo "_law_string", .glo "_law_whole", .glo "_law_right", .glo "law",
  .free "isinstance", .free "str", .free "int", .free "bool", .free "len", .free "all", .free "repr", .free "range", .free "max", .free "min", .free "abs", .free "divmod",
  .str "LETTERS" "abcdefghijklmnopqrstuvwxyz", .int "LONGEST_NAME" 8]
abbrev R : PySem.W.OpenRow := PySem.W.OpenLaw.row PySem.Challenge.rw_lastheld_k11_names_and_integers
abbrev hk : PySem.W.Hook := He.hookD 4 fa fn
def ob (s : PySem.W.SharedT) : He.AlD := He.obsDG 4 fa fn (HandSHeadRun.getT s)
theorem ob_eq (s : PySem.W.SharedT) : ob s = hk.obs s.abs := He.obsDG_eq (HandSHeadRun.getT_eq s)
abbrev names : List Str := ["LETTERS", "LONGEST_NAME", "is_name", "is_integer", "_law_pot", "_law_draw", "_law_word", "_law_odd", "_law_is_word", "_law_string", "_law_whole", "_law_right"]
theorem run (w : World) : HandSHeadRun.RunEq R (PySem.W.view R.prog [14]) hk ob 2000 names w := by
  intro os
  kernel_rfl
end K11

set_option Elab.async false
set_option linter.all false
set_option maxRecDepth 100000
set_option maxHeartbeats 0
namespace K11
open PySem PySem.Spec PyProof.Rows L2 Lw
theorem bnd1 {K : PySem.W.Frag} {x a : Str} {st : Stmt} {f : Addr} {fd : FuncData} (F : FnP K x st f fd)
    (h : ∀ (kV doc pm : Value) (an : Option Addr) (cdv ct : Value) (us : List Value), us.length = [a].length → bindArgs (PySem.W.fnOf x x (defArgs st) (defBody st) (defScope st) .none kV doc pm an cdv ct) ⟨us, []⟩ = pure ([a].zip us)) : Binds K fd [a] [] := F.bindsN h
theorem facts {P : Program} {w : World} {K : PySem.W.Frag} {h : Heap} {mg : Str → Option Value} {f : Addr} (X : K.In h) (G : h.Ns mainGlobals mg) (hfa : mg ("law" : Str) = some (.ref f)) (c : He.SaysD fa fn K) :
    ∃ fd : FuncData, (∀ (s : Shared) (v : Value), BindsTo s fd ⟨[v], []⟩ [("_law_script", v)]) ∧ ∀ base : Heap, K.In base → base.Ns mainGlobals mg → SysOk base → FnG P w K mg base CX0 3 f fd ["_law_script"] (sp_law K) := by
  obtain ⟨fd0, F0⟩ := c.def_ 0 (d := dd "is_name" s_is_name) rfl
  obtain ⟨fd1, F1⟩ := c.def_ 1 (d := dd "is_integer" s_is_integer) rfl
  obtain ⟨fd2, F2⟩ := c.def_ 2 (d := dd "_law_pot" s_pot) rfl
  obtain ⟨fd3, F3⟩ := c.def_ 3 (d := dd "_law_draw" s_draw) rfl
  obtain ⟨fd4, F4⟩ := c.def_ 4 (d := dd "_law_word" s_word) rfl
  obtain ⟨fd5, F5⟩ := c.def_ 5 (d := dd "_law_odd" s_odd) rfl
  obtain ⟨fd6, F6⟩ := c.def_ 6 (d := dd "_law_is_word" s_is_word) rfl
  obtain ⟨fd7, F7⟩ := c.def_ 7 (d := dd "_law_string" s_string) rfl
  obtain ⟨fd8, F8⟩ := c.def_ 8 (d := dd "_law_whole" s_whole) rfl
  obtain ⟨fd9, F9⟩ := c.def_ 9 (d := dd "_law_right" s_right) rfl
  obtain ⟨fd, F⟩ := c.def_ 10 (d := dd "law" s_law) rfl
  have e := hfa.symm.trans (He.glo_ok X G (c.fact 10 (f := .glo "law") rfl))
  cases e
  have T : Tz mg := ⟨He.free_ok X G (c.fact 11 rfl), He.free_ok X G (c.fact 12 rfl), He.free_ok X G (c.fact 13 rfl), He.free_ok X G (c.fact 14 rfl), He.free_ok X G (c.fact 15 rfl), He.free_ok X G (c.fact 16 rfl), He.free_ok X G (c.fact 17 rfl), He.free_ok X G (c.fact 18 rfl),
    He.free_ok X G (c.fact 19 rfl), He.free_ok X G (c.fact 20 rfl), He.free_ok X G (c.fact 21 rfl), He.free_ok X G (c.fact 22 rfl), He.str_ok X G (c.fact 23 rfl), He.int_ok X G (c.fact 24 rfl)⟩
  have b := FunD.bindsA (ps := ["_law_script"]) F fun _ _ _ _ _ _ us hl => match us, hl with | [_], _ => rfl
  refine ⟨fd, fun s v => b s [v] rfl, fun base _ _ B => ?_⟩
  have O3 : Own P w K mg base CX0 1 "_law_draw" ["_law_pot_here", "_law_many"] sp_draw _ fd3 := ⟨ok_draw F3 T, He.glo_ok X G (c.fact 3 rfl), F3.kp, F3.bindsN fun _ _ _ _ _ _ us hl => match us, hl with | [_, _], _ => rfl⟩
  have O2 : Own P w K mg base CX0 1 "_law_pot" ["_law_script", "_law_k"] (sp_pot K) _ fd2 := ⟨ok_pot F2 T, He.glo_ok X G (c.fact 2 rfl), F2.kp, F2.bindsN fun _ _ _ _ _ _ us hl => match us, hl with | [_, _], _ => rfl⟩
  have O0 : Own P w K mg base CX0 1 "is_name" ["value"] (sp_name K) _ fd0 := ⟨ok_is_name F0 T, He.glo_ok X G (c.fact 0 rfl), F0.kp, F0.bindsN fun _ _ _ _ _ _ us hl => match us, hl with | [_], _ => rfl⟩
  have O1 : Own P w K mg base CX0 1 "is_integer" ["value"] (sp_int K) _ fd1 := ⟨ok_is_integer F1 T, He.glo_ok X G (c.fact 1 rfl), F1.kp, F1.bindsN fun _ _ _ _ _ _ us hl => match us, hl with | [_], _ => rfl⟩
  have O6 : Own P w K mg base CX0 1 "_law_is_word" ["_law_thing"] (sp_name K) _ fd6 := ⟨ok_is_word F6 T, He.glo_ok X G (c.fact 6 rfl), F6.kp, F6.bindsN fun _ _ _ _ _ _ us hl => match us, hl with | [_], _ => rfl⟩
  have O4 : Own P w K mg base CX0 2 "_law_word" ["_law_pot_here", "_law_taken"] (sp_word K) _ fd4 := ⟨ok_word F4 T O3, He.glo_ok X G (c.fact 4 rfl), F4.kp, F4.bindsN fun _ _ _ _ _ _ us hl => match us, hl with | [_, _], _ => rfl⟩
  have O5 : Own P w K mg base CX0 2 "_law_odd" ["_law_pot_here"] (sp_odd K) _ fd5 := ⟨ok_odd F5 T O3, He.glo_ok X G (c.fact 5 rfl), F5.kp, F5.bindsN fun _ _ _ _ _ _ us hl => match us, hl with | [_], _ => rfl⟩
  have O7 : Own P w K mg base CX0 2 "_law_string" ["_law_pot_here"] sp_string _ fd7 := ⟨ok_string F7 T O3, He.glo_ok X G (c.fact 7 rfl), F7.kp, F7.bindsN fun _ _ _ _ _ _ us hl => match us, hl with | [_], _ => rfl⟩
  have O8 : Own P w K mg base CX0 2 "_law_whole" ["_law_pot_here"] sp_whole _ fd8 := ⟨ok_whole F8 T O3, He.glo_ok X G (c.fact 8 rfl), F8.kp, F8.bindsN fun _ _ _ _ _ _ us hl => match us, hl with | [_], _ => rfl⟩
  have k0 := kb1 (a := "value") F0 fun _ _ _ _ _ _ _ => rfl
  have k1 := kb1 (a := "value") F1 fun _ _ _ _ _ _ _ => rfl
  have O9 : OwnG P w K mg base CX0 2 "_law_right" ["_law_thing"] (sp_right K) _ fd9 := ⟨ok_right F9 T B O0 O1 O6 k0 k1, He.glo_ok X G (c.fact 9 rfl), F9.kp, F9.bindsN fun _ _ _ _ _ _ us hl => match us, hl with | [_], _ => rfl⟩
  exact ok_law F T O2 O3 O7 O8 O5 O4 O9
end K11
open PySem PySem.W PySem.Calls PyProof.Rows
theorem PySem.Challenge.cw_lastheld_k11_names_and_integers_holds : PySem.Challenge.rw_lastheld_k11_names_and_integers.Holds := by
  w_on; o_law
  refine HandSHeadRun.head_any (r := OpenLaw.row PySem.Challenge.rw_lastheld_k11_names_and_integers) (q := view (OpenLaw.row PySem.Challenge.rw_lastheld_k11_names_and_integers).prog [14]) (H := K11.hk) (ob := K11.ob) (M := 2000) (loose := K11.names)
    (d := HandSHeadRun.topDef (OpenLaw.row PySem.Challenge.rw_lastheld_k11_names_and_integers).prog 14) (kwd := []) K11.ob_eq
    (by kernel_rfl) (fun s => by kernel_rfl) K11.run (by kernel_rfl) (by kernel_rfl) (by kernel_rfl) (by rfl) (by first | assumption | decide +kernel) (by decide +kernel) ⟨rfl, rfl, rfl, rfl, rfl, by decide +kernel⟩ ?hw ?hc
  case hw => w_witness2
  case hc =>
    refine Lw.walk_g (l := PySem.Challenge.rw_lastheld_k11_names_and_integers) (n := 63) (k := 3) (x := "_law_script") (CX := L2.CX0) rfl (by decide) (by kernel_rfl) (by kernel_rfl) ⟨rfl, by decide, by decide⟩ ?F (fun _ _ _ _ z => z)
    intro w mg fa h Y G hmg0
    obtain ⟨K, KX, c⟩ := Y
    have hmg : mg ("law" : PySem.Str) = some (.ref fa) := by
      have e : (HandSHeadRun.topDef (OpenLaw.row PySem.Challenge.rw_lastheld_k11_names_and_integers).prog 14).name = ("law" : PySem.Str) := by kernel_rfl
      rw [← e]
      exact hmg0
    obtain ⟨fd, hb, hF⟩ := K11.facts (P := (PySem.Challenge.rw_lastheld_k11_names_and_integers).prog) (w := w) KX G hmg c
    exact ⟨K, fd, K11.sp_law K, KX, hb, fun H a ns hl _ hS => ⟨a, ns, rfl, hS, hl, fun _ => rfl⟩, hF⟩


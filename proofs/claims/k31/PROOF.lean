import PyProof.Rows.All
import Wide.All
import OpenK.AllK
import Wide.FinOn
import PyProof.ReprRoads
import PyProof.StrBlock2
import HandS.ForMost
import HandS.Walk
import HandS.IsInst
import HandS.Defaults
import HandS.Flow
import HandS.Wide
import HandS.HeadEnd
import HandS.ForExc
import HandS.ExcInit
import HandS.ExcIs
import HandS.ExcField
import HandS.NestedK
import KE.KExcSuper
import HandS.StrMore
import HandS.Style
import KE.IntTextText
import PyProof.StrLawsChain
import HandS.Head0
import HandS.Head1
import HandS.Head2
import HandS.HeadHook1
import HandS.HeadHook2
import HandS.Star
import HandS.CallSlots
import HandS.MakeKw
import KE.DataFind
import PyProof.NeKinds
import HandS.ExcValue
import KE.KDictZip
import PyProof.ListNew
import HandS.GenList
import HandS.ClsMeth
import HandS.Property
import HandS.FStr
import KE.KCallOwn
import KE.KFmtOwn
import HandS.OwnEq
import PyProof.FactsAll.NoneType_1
import PyProof.FactsAll.bool_1
import PyProof.FactsAll.dict_1
import PyProof.FactsAll.object_2
import KE.GoesEnum
import HandS.Strs
import HandS.Conv
import HandS.ReplaceDef
import HandS.ReplaceLit
import HandS.TupAny
import KE.KRevSl
import HandS.DictComp
import HandS.WideBits
import PySem.Challenge.RW_lastheld_k31_settings_judged
set_option Elab.async false
set_option linter.all false
set_option maxRecDepth 100000
set_option maxHeartbeats 2000000
namespace Lw
open PySem PySem.Spec PyProof.Rows L2

/-! ## data with dicts of numbers by texts, and repr -/
/-- a number: an int or a pair of ints -/
inductive Nq (K : PySem.W.Frag) (H : Hp) : V → PyData → Prop
  | int (i : Int) : Nq K H (.int i) (.int i)
  | tup {a : Addr} {n e : Int} (h : SqT K H a [.int n, .int e]) : Nq K H (.ref a) (.tuple [.int n, .int e])
abbrev NqD (K : PySem.W.Frag) (H : Hp) : List (Key × V) → List (PyData × PyData) → Prop := Paired fun (p : Key × V) (q : PyData × PyData) => ∃ z : Str, p.1 = Sum.inr z ∧ q.1 = .str z ∧ Nq K H p.2 q.2
mutual
inductive Dq (K : PySem.W.Frag) (H : Hp) : V → PyData → Prop
  | non : Dq K H .non .none
  | bl (b : Bool) : Dq K H (.bl b) (.bool b)
  | int (i : Int) : Dq K H (.int i) (.int i)
  | str (x : Str) : Dq K H (.str x) (.str x)
  | lst {a : Addr} {xs : List V} {ds : List PyData} (h : SqL K H a xs) (g : DqAll K H xs ds) : Dq K H (.ref a) (.list ds)
  | tup {a : Addr} {xs : List V} {ds : List PyData} (h : SqT K H a xs) (g : DqAll K H xs ds) : Dq K H (.ref a) (.tuple ds)
  | dic {a : Addr} (h : H a = some (.dK [])) : Dq K H (.ref a) (.dict [])
  | dct {a : Addr} {kvs : List (Key × V)} {ds : List (PyData × PyData)} (h : H a = some (.dK kvs)) (ne : kvs ≠ []) (g : NqD K H kvs ds) : Dq K H (.ref a) (.dict ds)
inductive DqAll (K : PySem.W.Frag) (H : Hp) : List V → List PyData → Prop
  | nil : DqAll K H [] []
  | cons {v : V} {vs : List V} {d : PyData} {ds : List PyData} (h : Dq K H v d) (g : DqAll K H vs ds) : DqAll K H (v :: vs) (d :: ds)
end

theorem same_t {K : PySem.W.Frag} {H H' : Hp} {a : Addr} {xs : List V} (e : Same H H') (h : SqT K H a xs) : SqT K H' a xs := by
  rcases h with (h | ⟨o, h⟩) | h
  · exact .inl (.inl (e _ _ h))
  · exact .inl (.inr ⟨o, e _ _ h⟩)
  · exact .inr h
theorem same_upd {H : Hp} {p : Addr} {o : HO} (h : H p = none) : Same H (upd H p o) := fun b x e => by
  rw [upd_ne (ne_of_none e h)]
  exact e
theorem Nq.same {K : PySem.W.Frag} {H H' : Hp} (e : Same H H') {v : V} {d : PyData} (h : Nq K H v d) : Nq K H' v d := by
  cases h with
  | int i => exact .int i
  | tup h => exact .tup (same_t e h)
theorem NqD.same {K : PySem.W.Frag} {H H' : Hp} (e : Same H H') : ∀ {kvs : List (Key × V)} {ds : List (PyData × PyData)}, NqD K H kvs ds → NqD K H' kvs ds
  | _, _, .nil => .nil
  | _, _, .cons ⟨z, h1, h2, h3⟩ g => .cons ⟨z, h1, h2, h3.same e⟩ (NqD.same e g)
mutual
theorem Dq.same {K : PySem.W.Frag} {H H' : Hp} (e : Same H H') : ∀ {v : V} {d : PyData}, Dq K H v d → Dq K H' v d
  | _, _, .non => .non
  | _, _, .bl b => .bl b
  | _, _, .int i => .int i
  | _, _, .str x => .str x
  | _, _, .lst h g => .lst (e.seq h) (DqAll.same e g)
  | _, _, .tup h g => .tup (same_t e h) (DqAll.same e g)
  | _, _, .dic h => .dic (e _ _ h)
  | _, _, .dct h ne g => .dct (e _ _ h) ne (g.same e)
theorem DqAll.same {K : PySem.W.Frag} {H H' : Hp} (e : Same H H') : ∀ {v : List V} {d : List PyData}, DqAll K H v d → DqAll K H' v d
  | _, _, .nil => .nil
  | _, _, .cons h g => .cons (Dq.same e h) (DqAll.same e g)
end

/-- the table of modules stands, and is a dict -/
def SysOk (h : Heap) : Prop := ∃ o es ep, h.get? sysModules = some o ∧ o.data = Data.dict es ep

section
variable {X : Cx} {pins : List (Addr × Obj)} {σ : L2.St} {H : Hp} {s : Shared}
theorem no_sys (B : SysOk X.base) (I : Inv X pins σ H s) {a : Addr} {o : Obj} {vs : Array Value} {n : Nat} (h : s.heap.get? a = some o) (hd : o.data = .seq vs n) : sysModules ≠ a := by
  obtain ⟨o', es, ep, e1, e2⟩ := B
  intro z
  have e3 := I.bk _ _ e1
  rw [z, h] at e3
  cases e3
  rw [hd] at e2
  cases e2
theorem dict0 (I : Inv X pins σ H s) {a : Addr} (h : H a = some (.dK [])) : ∃ o es ep, s.heap.get? a = some o ∧ o.cls = .type "dict" ∧ o.data = Data.dict es ep ∧ es.toList = [] ∧ sysModules ≠ a := by
  obtain ⟨_, h1, vs, kv, o, es, ep, e1, e2, e3, _, e5, _⟩ := (show ObjOk X.prog X.w H s.heap a (.dK []) from I.hok a _ h)
  have e6 : vs = [] := by
    have := Paired.length kv
    cases vs with
    | nil => rfl
    | cons _ _ => simp at this
  subst e6
  refine ⟨o, es, ep, e1, e2.1, e3, ?_, fun z => ?_⟩
  · generalize es.toList = l at e5
    cases e5
    rfl
  · rw [← z] at h1
    exact absurd h1 (by decide)
theorem Nq.reads {v : V} {d : PyData} {u : Value} (I : Inv X pins σ H s) (h : Nq X.K H v d) (r : RelV v u) : Reads s.heap u d [] := by
  cases h with
  | int i =>
    obtain ⟨t, rfl⟩ := r
    exact .int i t
  | tup h =>
    cases r
    obtain ⟨its, rv, ⟨o, ho, hc, n, hd⟩, _⟩ := I.tuple h
    cases rv with
    | cons r1 rv =>
      cases rv with
      | cons r2 rv =>
        cases rv
        obtain ⟨t1, rfl⟩ := r1
        obtain ⟨t2, rfl⟩ := r2
        exact Reads.tuple ho hc hd (.cons (.int _ _) (.cons (.int _ _) .nil))
theorem NqD.reads (I : Inv X pins σ H s) : ∀ {kvs : List (Key × V)} {ds : List (PyData × PyData)} {vs : List (Key × Value)} {es : List DictEntry}, NqD X.K H kvs ds → KV kvs vs → Pairs (mixKind X.prog X.w) es vs →
    ReadsAll s.heap (es.map fun e => e.key) (ds.map fun q => q.1) [] ∧ ReadsAll s.heap (es.map fun e => e.val) (ds.map fun q => q.2) []
  | _, _, _, _, .nil, .nil, .nil => ⟨.nil, .nil⟩
  | (k0, v0) :: _, (d0, d1) :: _, (k2, u2) :: _, e :: _, .cons ⟨z, h1, h2, h3⟩ g, .cons ⟨k1, r1⟩ k, .cons p1 p2 p => by
    obtain ⟨i1, i2⟩ := NqD.reads I g k p
    cases (show k0 = Sum.inr z from h1)
    cases (show d0 = PyData.str z from h2)
    cases (show Sum.inr z = k2 from k1)
    constructor
    · have p1' : keyIs (Sum.inr z) e.key = true := p1
      rcases keyIs_shape p1' with ⟨i, t, q, _⟩ | ⟨x, t, q, e2⟩
      · cases q
      · cases q
        refine ReadsAll.cons (as := []) (bs := []) ?_ i1
        show Reads s.heap e.key (.str z) []
        rw [e2]
        exact .str z t
    · refine ReadsAll.cons (as := []) (bs := []) ?_ i2
      show Reads s.heap e.val d1 []
      rw [p2]
      exact Nq.reads I h3 r1
mutual
theorem Dq.reads (B : SysOk X.base) (I : Inv X pins σ H s) : ∀ (d : PyData) (v : V) (u : Value), Dq X.K H v d → RelV v u → ∃ as, Reads s.heap u d as ∧ sysModules ∉ as
  | .none, _, _, h, r => by
    cases h
    cases r
    exact ⟨_, Reads.none, by simp⟩
  | .bool b, _, _, h, r => by
    cases h
    cases r
    exact ⟨_, Reads.bool b, by simp⟩
  | .int i, _, _, h, r => by
    cases h
    obtain ⟨t, rfl⟩ := r
    exact ⟨_, Reads.int i t, by simp⟩
  | .str x, _, _, h, r => by
    cases h
    obtain ⟨t, rfl⟩ := r
    exact ⟨_, Reads.str x t, by simp⟩
  | .list ds, _, _, h, r => by
    cases h with
    | lst hs ha =>
      cases r
      obtain ⟨its, rv, ⟨o, n, ho, hc, _, hd⟩, _⟩ := I.list hs
      obtain ⟨as, hr, hn⟩ := DqAll.reads B I ds _ its ha rv
      refine ⟨_, Reads.list ho hc hd hr, fun z => ?_⟩
      rcases List.mem_cons.mp z with z | z
      · exact no_sys B I ho hd z
      · exact hn z
  | .tuple ds, _, _, h, r => by
    cases h with
    | tup hs ha =>
      cases r
      obtain ⟨its, rv, ⟨o, ho, hc, n, hd⟩, _⟩ := I.tuple hs
      obtain ⟨as, hr, hn⟩ := DqAll.reads B I ds _ its ha rv
      exact ⟨_, Reads.tuple ho hc hd hr, hn⟩
  | .dict kvs, _, _, h, r => by
    cases h with
    | dic h =>
      cases r
      obtain ⟨o, es, ep, e1, e2, e3, e4, e5⟩ := dict0 I h
      refine ⟨_, Reads.dict (as := []) (bs := []) e1 e2 e3 ?_ ?_, fun z => ?_⟩
      · rw [e4]
        exact .nil
      · rw [e4]
        exact .nil
      · rcases List.mem_cons.mp z with z | z
        · exact e5 z
        · simp at z
    | dct h ne g =>
      rename_i a kvs'
      cases r
      obtain ⟨_, h1, vs, kv, o, es, ep, e1, e2, e3, _, e5, _⟩ := (show ObjOk X.prog X.w H s.heap a (.dK kvs') from I.hok a _ h)
      obtain ⟨r1, r2⟩ := NqD.reads I g kv e5
      refine ⟨_, Reads.dict (as := []) (bs := []) e1 e2.1 e3 r1 r2, fun z => ?_⟩
      have z' : sysModules = a := by simpa using z
      rw [← z'] at h1
      exact absurd h1 (by decide)
theorem DqAll.reads (B : SysOk X.base) (I : Inv X pins σ H s) : ∀ (ds : List PyData) (vs : List V) (us : List Value), DqAll X.K H vs ds → Vals vs us → ∃ as, ReadsAll s.heap us ds as ∧ sysModules ∉ as
  | [], _, _, h, r => by
    cases h
    cases r
    exact ⟨_, ReadsAll.nil, by simp⟩
  | d :: ds, _, _, h, r => by
    cases h with
    | cons h1 h2 =>
      cases r with
      | cons r1 r2 =>
        obtain ⟨as, q1, n1⟩ := Dq.reads B I d _ _ h1 r1
        obtain ⟨bs, q2, n2⟩ := DqAll.reads B I ds _ _ h2 r2
        refine ⟨_, ReadsAll.cons q1 q2, fun z => ?_⟩
        rcases List.mem_append.mp z with z | z
        · exact n1 z
        · exact n2 z
end
end

/-- repr(x) of data: its text -/
def rRepr (K : PySem.W.Frag) : List V → Hp → VK → Prop := fun xs H Q =>
  ∃ (v : V) (d : PyData), xs = [v] ∧ Dq K H v d ∧ d.showable = true ∧ d.shown.length ≤ sizeLine ∧ d.depth ≤ 60 ∧ Q (.str d.shown) H
section
variable {X : Cx}
theorem call_repr (B : SysOk X.base) (hg : X.A.guards = some []) (hu : X.A.units + 64 < cLine) : CallR X (.builtin "repr") (rRepr X.K) := by
  intro pins s σ H xs us Q I r h
  obtain ⟨v, d, rfl, hd, hs, hz, hp, q⟩ := h
  obtain ⟨u, rfl, ru⟩ := vals1 r
  obtain ⟨as, r1, ns⟩ := Dq.reads B I d v u hd ru
  cases r1 with
  | none => exact PySem.P.repr_of_none ⟨.str _, H, I.tok _, ⟨_, rfl⟩, q⟩
  | bool b => exact PySem.P.repr_of_bool ⟨.str _, H, I.tok _, ⟨_, rfl⟩, q⟩
  | int i t => exact PySem.P.repr_of_int (by simpa [PyData.showable] using hs) ⟨.str _, H, I.tok _, ⟨_, rfl⟩, q⟩
  | str x t => exact PySem.P.repr_of_str ⟨.str _, H, I.tok _, ⟨_, rfl⟩, q⟩ hz
  | list h1 h2 h3 h4 => exact repr_of_reads' (Reads.list h1 h2 h3 h4) hs (fun _ => ns) hg (by omega) (fun _ _ e => e) (fun h' u tk hk => ⟨.str _, H, I.kept hk, ⟨_, rfl⟩, q⟩) hz
  | tuple h1 h2 h3 h4 => exact repr_of_reads' (Reads.tuple h1 h2 h3 h4) hs (fun _ => ns) hg (by omega) (fun _ _ e => e) (fun h' u tk hk => ⟨.str _, H, I.kept hk, ⟨_, rfl⟩, q⟩) hz
  | dict h1 h2 h3 h4 h5 => exact repr_of_reads' (Reads.dict h1 h2 h3 h4 h5) hs (fun _ => ns) hg (by omega) (fun _ _ e => e) (fun h' u tk hk => ⟨.str _, H, I.kept hk, ⟨_, rfl⟩, q⟩) hz
/-- text * int -/
def rMulS : R2 := fun x y H Q => ∃ (z : Str) (n : Int), x = .str z ∧ y = .int n ∧ MulOk z n ∧ Q (.str (Txt.mul z n)) H
theorem op_mulS : OpR X (binaryOp .Mult) rMulS := by
  intro pins s σ H x y v u Q I rx ry h
  obtain ⟨z, n, rfl, rfl, ok, q⟩ := h
  obtain ⟨t, rfl⟩ := rx
  obtain ⟨t', rfl⟩ := ry
  exact PySem.SB.mul ok fun t k => ⟨.str _, H, I.tok _, ⟨_, rfl⟩, q⟩
end

/-! ## calls by keywords alone -/
section
variable {X : Cx} {CX : CXT} {k n : Nat} {f : Addr} {fd : FuncData} {ps ks : List Str} {sp : Sp} {E : XK} {x : Str} {p pos : Pos} {kws : List Keyword} {tk : TA} {g : List Value → List Value → List Value} {gV : List V → List V → List V}
theorem pe_callW (F : FnOk X.prog X.w X.K X.mg X.base CX k f fd ps sp) (hr : Room k X.A) (hg : Gl X x) (hm : X.mg x = some (.ref f)) (hk : PySem.W.keepIn X.K (.ref f) = true) (hb : KBn X.K fd ps 0 ks g gV)
    (hx : Passes CX X E) (hkw : PK X kws tk)
    (hall : (backToKw pos (keywordEach kws X.env)).all (fun q => q.1.isSome) = true := by rfl)
    (hks : (backToKw pos (keywordEach kws X.env)).filterMap (fun q => q.1) = ks := by rfl)
    (hdb : (x == ("__debug__" : Str)) = false := by decide)
    (hpl : ((backTo pos (starEach [] X.env)).any (fun q => q.1) || (backToKw pos (keywordEach kws X.env)).any (fun q => q.1.isNone)) = false := by rfl) :
    PE X (.Call (.Name x p) [] kws pos) (tCallN 0 ks.length sp gV E tNil tk) := by
  constructor
  intro pins s σ H Q I h
  refine wpAny_Call_Name_kw (ld_glob I hg hm ?_ hdb)
  refine PySem.W.callWith_KW0 (h₀ := X.base) I.ok.mod.kin hk hall ?_ hpl
  refine thn (hkw.run pos pins s σ H _ I h) fun ws s2 hq => ?_
  obtain ⟨zs, H2, I2, rz, l1, l2, q2⟩ := hq
  refine ⟨I2.kIn, ?_⟩
  rw [hks]
  exact run_fnN (us := []) (vs := []) F hr hb hx I2 .nil rz rfl l2 q2
/-- one keyword for the one parameter -/
theorem kb1 {K : PySem.W.Frag} {y qual : Str} {params : Arguments} {body : List Stmt} {scope : Scope} {kw : List (Str × V)} {f : Addr} {fd : FuncData} {a : Str} (F : FunD K y qual params body scope [] kw f fd)
    (h : ∀ (kV doc pm : Value) (an : Option Addr) (cdv ct v : Value), bindArgs (PySem.W.fnOf y qual params body scope .none kV doc pm an cdv ct) ⟨[], [(a, v)]⟩ = pure [(a, v)]) :
    KBn K fd [a] 0 [a] (fun _ ws => ws) (fun _ zs => zs) := by
  obtain ⟨oc, od, dV, kV, doc, pm, an, cdv, ct, osl, rfl, lk, hcd, hD, hK⟩ := F.ex
  rcases hD with ⟨_, rfl⟩ | ⟨e, _⟩
  · refine ⟨fun s us ws X l1 l2 => ?_, fun _ r => r⟩
    match us, ws, l1, l2 with
    | [], [v], _, _ => exact .of_eq (h kV doc pm an cdv ct v)
  · exact absurd rfl e
end

/-! ## defs that are called where no repr is under way -/
structure FnG (P : Program) (w : World) (K : PySem.W.Frag) (mg : Str → Option Value) (base : Heap) (CX : CXT) (k : Nat) (f : Addr) (fd : FuncData) (ps : List Str) (sp : Sp) : Prop where
  len : ∀ vs H Q E, sp vs H Q E → vs.length = ps.length
  run : ∀ (A : Around) (outer : List Env) (s : Shared) (H : Hp) (args : Args) (us : List Value) (vs : List V) (Q : VK) (E : XK),
    A.guards = some [] → Room k A → Env0 P w K mg base A outer s H → BindsTo s fd args (ps.zip us) → Vals vs us → sp vs H Q E →
      codeAny (model P w) A (.call (.ref f) args) (CR CX outer P w H s Q E) s
section
variable {P : Program} {w : World} {K : PySem.W.Frag} {mg : Str → Option Value} {base : Heap} {x qual : Str} {params : Arguments} {body : List Stmt} {scope : Scope} {dvs : List V} {kws : List (Str × V)} {f : Addr} {fd : FuncData}
theorem fn_g {CX : CXT} {N ps : List Str} {k : Nat} {sp : Sp} (F : FunD K x qual params body scope dvs kws f fd) (S : FnScope N ps scope) (len : ∀ vs H Q E, sp vs H Q E → vs.length = ps.length)
    (hbody : ∀ (cdv : Value) (A : Around) (outer : List Env) (s : Shared) (H : Hp) (vs : List V) (Q : VK) (E : XK),
      A.guards = some [] → Room k (A.deeper (envOfC qual scope s.heap.objs.size f cdv)) → sp vs H Q E →
      ∃ t, PSs (cxOf CX P w K mg base N qual scope f cdv A outer s H E) body t ∧ t { nx := fun _ H' => Q .non H', rt := Q } (start N vs) H) :
    FnG P w K mg base CX (k + 1) f fd ps sp := by
  obtain ⟨oc, od, dV, kV, doc, pm, an, cdv, ct, osl, rfl, lk, hcd, _, _⟩ := F.ex
  refine ⟨len, fun A outer s H args us vs Q E hg hr e0 hb r hsp => ?_⟩
  have hk := fun b o e => (e0.bs b o e).1
  have KX : K.In s.heap := e0.mod.kin.keeps hk
  have lim : s.heap.NoLimit := e0.mod.nolimit.keeps hk
  have hkind : ∀ y ∈ ps.zip us, scope.names.lookup y.1 = some .local ∨ (scope.names.lookup y.1 = some .cell ∧ ((cellsFrom (s.heap.objs.size + 1) scope.names []).lookup y.1).isSome = true) := by
    rintro ⟨n, v⟩ hy
    exact (S.par n (List.of_mem_zip hy).1).imp (fun q => q) fun q => ⟨q, PySem.W.cellsFrom_some _ _ _ (.inl q)⟩
  refine codeAny_call_function hr.depth (KX _ _ lk) rfl S.co S.gen rfl (PySem.W.codeRec_of KX hcd) (hb _ _ _ _ ?_)
  refine wpAny_newFunctionEnv_cells S.kind hkind fun env he s1 y => ?_
  subst he
  obtain ⟨t, ht, hq⟩ := hbody cdv A outer s H vs Q E hg (hr.deeper _) hsp
  have I := inv_start (CX := CX) (E := E) S hr.hd e0 (len _ _ _ _ hsp) r y
  refine ⟨lim.keeps y.toInCall.keep, codeAny_func (wpAny_mono (ht.run [] s1 (start N vs) H _ I hq) (fun fl s' hs => ?_) fun e s' hs => hs)⟩
  cases fl with
  | ret u =>
    obtain ⟨v, σ', H', J, rv, q⟩ := hs
    exact ⟨v, H', J.os, J.bare, J.base, J.hok, rv, q⟩
  | next =>
    obtain ⟨σ', H', J, q⟩ := hs
    exact ⟨V.non, H', J.os, J.bare, J.base, J.hok, rfl, q⟩
  | brk => exact hs.elim fun _ z => z.elim fun _ z => z.2.elim
  | cont => exact hs.elim fun _ z => z.elim fun _ z => z.2.elim
end
section
variable {X : Cx} {CX : CXT} {k : Nat} {f : Addr} {fd : FuncData} {ps : List Str} {sp : Sp} {dvs : List V} {ds : List Value} {E : XK} {x : Str} {p pos : Pos} {e : Expr} {es : List Expr} {t : TA}
theorem run_g {pins : List (Addr × Obj)} {σ : L2.St} {H : Hp} {s : Shared} {Q : VK} {us : List Value} {vs : List V} (F : FnG X.prog X.w X.K X.mg X.base CX k f fd ps sp) (hgd : X.A.guards = some []) (hr : Room k X.A) (hb : Binds X.K fd ps ds) (hd : Vals dvs ds) (hx : Passes CX X E)
    (I : Inv X pins σ H s) (r : Vals vs us) (h : sp (vs ++ dvs) H Q E) : wpAny (model X.prog X.w) X.A (call (.ref f) us) (EP X pins σ Q) X.xe s := by
  have r2 : Vals (vs ++ dvs) (us ++ ds) := r.append hd
  have hl : (us ++ ds).length = ps.length := r2.length.symm.trans (F.len _ _ _ _ h)
  refine wpAny_call (codeAny_mono (F.run X.A X.stack s H ⟨us, []⟩ _ _ Q E hgd hr I.env0 (hb s us I.kIn hl) r2 h) fun r s' hq => ?_)
  match r, hq with
  | .error e, hq => exact hx pins σ H s e s' I hq
  | .ok (.ret u), hq => exact I.after hq
  | .ok .next, hq => exact False.elim hq
  | .ok .brk, hq => exact False.elim hq
  | .ok .cont, hq => exact False.elim hq
theorem pe_callg (F : FnG X.prog X.w X.K X.mg X.base CX k f fd ps sp) (hgd : X.A.guards = some []) (hr : Room k X.A) (hg : Gl X x) (hm : X.mg x = some (.ref f)) (hk : PySem.W.keepIn X.K (.ref f) = true) (hb : Binds X.K fd ps ds) (hd : Vals dvs ds) (hx : Passes CX X E)
    (ha : PA X (e :: es) t) (hdb : (x == ("__debug__" : Str)) = false := by decide) (he : starEach (e :: es) X.env = (false, eval e X.env) :: starEach es X.env := by rfl)
    (hpl : (backTo pos (starEach es X.env)).any (fun q => q.1) = false := by rfl) : PE X (.Call (.Name x p) (e :: es) [] pos) (tCall sp dvs E t) := by
  constructor
  intro pins s σ H Q I h
  refine wpAny_Call_Name_kw (ld_glob I hg hm (PySem.W.callWith_K (h₀ := X.base) I.ok.mod.kin hk ?_ he hpl) hdb)
  exact thn (ha.run pos pins s σ H _ I h) fun us s1 ⟨vs, H1, I1, r, q⟩ => ⟨I1.kIn, run_g F hgd hr hb hd hx I1 r q⟩
theorem pe_callg0 (F : FnG X.prog X.w X.K X.mg X.base CX k f fd ps sp) (hgd : X.A.guards = some []) (hr : Room k X.A) (hg : Gl X x) (hm : X.mg x = some (.ref f)) (hk : PySem.W.keepIn X.K (.ref f) = true) (hb : Binds X.K fd ps ds) (hd : Vals dvs ds) (hx : Passes CX X E)
    (hdb : (x == ("__debug__" : Str)) = false := by decide) : PE X (.Call (.Name x p) [] [] pos) (tCall sp dvs E tNil) := by
  constructor
  intro pins s σ H Q I h
  exact wpAny_Call_Name_kw (ld_glob I hg hm (PySem.W.callWith_K0 I.kIn hk (run_g (us := []) F hgd hr hb hd hx I .nil h)) hdb)
end

/-! ## the law's own call -/
theorem law_g {P : Program} {w : World} {K : PySem.W.Frag} {mg mb : Str → Option Value} {CX : CXT} {k : Nat} {fa a : Addr} {fd : FuncData} {x : Str} {sp : Sp} {s₁ : Shared} {vs : List Value} {ns : List Int}
    (KX : K.In s₁.heap) (hns : s₁.heap.Ns mainGlobals mg) (hb : s₁.heap.Ns builtinsNs mb) (hbb : ∀ x : Str, x ≠ "__name__" → mb x = bootBuiltins x) (hlim : s₁.heap.NoLimit) (hsy : SysOk s₁.heap) (hg : s₁.gens = #[])
    (ha : s₁.heap.get? a = some { cls := .type "list", data := .seq vs.toArray }) (hi : IntsAre vs ns) (hl : ns.length ≤ sizeLine) (hr : Room k callerA)
    (F : ∀ base : Heap, K.In base → base.Ns mainGlobals mg → SysOk base → FnG P w K mg base CX k fa fd [x] sp) (hbind : ∀ (s : Shared) (u : Value), BindsTo s fd ⟨[u], []⟩ [(x, u)])
    (hsp : ∀ H : Hp, Only H → SqL K H a (ns.map V.int) → sp [.ref a] H (fun v _ => v = .bl true) fun _ _ _ => False)
    (hCX : ∀ H e s', CX [] H s₁ (fun _ _ _ => False) e s' → False) :
    codeAny (model P w) callerA (.call (.ref fa) ⟨[.ref a], []⟩) (fun r s' => r = .ok (.ret (.bool true)) ∧ OldK s₁.heap s'.heap ∧ s'.os = s₁.os ∧ AllBare s'.gens) s₁ := by
  have rv := vals_ints hi
  have core : ∀ H : Hp, Only H → SqL K H a (ns.map V.int) → HOk P w H s₁.heap → (∀ b, H b ≠ none → b = a) → (H a ≠ none → K.lookup a = none) →
      codeAny (model P w) callerA (.call (.ref fa) ⟨[.ref a], []⟩) (fun r s' => r = .ok (.ret (.bool true)) ∧ OldK s₁.heap s'.heap ∧ s'.os = s₁.os ∧ AllBare s'.gens) s₁ := by
    intro H hO hS hok hA hK
    -- a dict is not the script: it is not tracked
    have noA : ∀ {b : Addr} {o : Obj} {es : Array DictEntry} {ep : Nat}, s₁.heap.get? b = some o → o.data = Data.dict es ep → H b = none := by
      intro b o es ep e d
      refine Classical.byContradiction fun z => ?_
      have e' := hA b z
      subst e'
      rw [ha] at e
      cases e
      cases d
    have nsK : ∀ {b : Addr} {m : Str → Option Value}, s₁.heap.Ns b m → (hidT s₁.heap H).Ns b m := by
      rintro b m ⟨o, es, ep, e, d, r⟩
      exact ⟨o, es, ep, hidT_get e (noA e d), d, r⟩
    have hKb : K.In (hidT s₁.heap H) := by
      intro b o e
      refine hidT_get (KX b o e) (Classical.byContradiction fun z => ?_)
      have e' := hA b z
      subst e'
      rw [hK z] at e
      cases e
    have hM : Mod K mg (hidT s₁.heap H) := by
      obtain ⟨mc, h1, h2⟩ := hlim
      exact ⟨hKb, nsK hns, ⟨mb, nsK hb, hbb⟩, ⟨mc, nsK h1, h2⟩⟩
    have hB : SysOk (hidT s₁.heap H) := by
      obtain ⟨o, es, ep, e1, e2⟩ := hsy
      exact ⟨o, es, ep, hidT_get e1 (noA e1 e2), e2⟩
    have e0 : Env0 P w K mg (hidT s₁.heap H) callerA [] s₁ H := ⟨rfl, hM, fun b o e => of_hidT e, Nat.le_of_eq (hidT_size _ _), trivial, fun b hb => absurd (show b ∈ ([] : List Addr) from hb) (by simp), hok, .of_eq hg⟩
    have run := (F _ hKb (nsK hns) hB).run callerA [] s₁ H ⟨[.ref a], []⟩ [.ref a] [.ref a] _ _ rfl hr e0 (hbind s₁ (.ref a)) (.cons rfl .nil) (hsp H hO hS)
    refine codeAny_mono run fun r s' h => ?_
    match r, h with
    | .error e, h => exact (hCX H e s' h).elim
    | .ok .next, h => exact False.elim h
    | .ok .brk, h => exact False.elim h
    | .ok .cont, h => exact False.elim h
    | .ok (.ret u), h =>
      obtain ⟨v, H', os, bare, un, hok', r', q⟩ := h
      cases (show v = .bl true from q)
      cases (show u = Value.bool true from r')
      refine ⟨rfl, OldK.of_keep fun b o e => ?_, os, bare⟩
      rcases hO b with z | ⟨ob, xs, z⟩
      · exact un.keep b o e z (by intro y; exact absurd (show b ∈ ([] : List Addr) from y) (by simp)) (by simp)
      · have e1 := (hok b _ z).1
        rw [e] at e1
        cases e1
        exact (hok' b _ (un.frzs b _ _ z)).1
  cases hk : K.lookup a with
  | some o =>
    have e := KX a o hk
    rw [ha] at e
    cases e
    refine core (fun _ => none) (fun _ => .inl rfl) (.inr ⟨_, vs.toArray, _, hk, rfl, rfl, rfl, ?_, ?_⟩) (fun b u z => nomatch z) (fun b z => absurd rfl z) fun z => absurd rfl z
    · rw [List.size_toArray, hi.length]
      exact hl
    · simpa using rv
  | none =>
    refine core (upd (fun _ => none) a (.frz { cls := .type "list", data := .seq vs.toArray } (.lst (ns.map V.int)))) (fun b => ?_) (.inl (.inr ⟨_, upd_same⟩)) (fun b u z => ?_) (fun b z => ?_) fun _ => hk
    · by_cases hb : b = a
      · exact .inr ⟨_, _, by rw [hb]; exact upd_same⟩
      · exact .inl (by rw [upd_ne hb])
    · by_cases hb : b = a
      · subst hb
        rw [upd_same] at z
        cases z
        exact ⟨ha, by rw [List.length_map]; exact hl, vs, _, rv, ha⟩
      · rw [upd_ne hb] at z
        cases z
    · exact Classical.byContradiction fun hb => z (by rw [upd_ne hb])

theorem walk_g {l : PySem.W.OpenLaw} {n k : Nat} {q : Program} {loose : List Str} {XP : (Str → Option Value) → Heap → Prop} {YP : World → Heap → Prop} {d : DefRec} {CX : CXT} {x : Str}
    (hn : l.most = some n) (hn2 : n ≤ sizeLine) (hdf : d.params.defaults = []) (hi : importsNone q = true) (hr : Room k callerA)
    (F : ∀ (w : World) (mg : Str → Option Value) (fa : Addr) (h : Heap), YP w h → h.Ns mainGlobals mg → mg d.name = some (.ref fa) →
      ∃ (K : PySem.W.Frag) (fd : FuncData) (sp : Sp), K.In h ∧ (∀ (s : Shared) (u : Value), BindsTo s fd ⟨[u], []⟩ [(x, u)]) ∧
        (∀ (H : Hp) (a : Addr) (ns : List Int), ns.length ≤ n → Only H → SqL K H a (ns.map V.int) → sp [.ref a] H (fun v _ => v = .bl true) fun _ _ _ => False) ∧
        ∀ base : Heap, K.In base → base.Ns mainGlobals mg → SysOk base → FnG l.prog w K mg base CX k fa fd [x] sp)
    (hCX : ∀ (H : Hp) (s : Shared) (e : Value) (s' : Shared), CX [] H s (fun _ _ _ => False) e s' → False) :
    PySem.W.WalkO q loose XP YP l.row.toRowW d [] (fun f vs => PySem.call f vs) := by
  refine Att.attach_call hn hdf fun w s₀ s₁ mg mb fa o pm cd doc a vs ns G Y ho hd hcd hmg hobj hints hlen hg => ?_
  obtain ⟨K, fd, sp, KX, hb, hsp, hF⟩ := F w mg fa _ Y G.T.g hmg
  have hsy : SysOk s₁.heap := by
    obtain ⟨mm, ⟨o, es, ep, e1, e2, _⟩, _⟩ := (G.T.seer hi).mods
    exact ⟨o, es, ep, e1, e2⟩
  exact law_g KX G.T.g G.T.b G.T.builtins G.T.nolimit hsy hg hobj hints (Nat.le_trans hlen hn2) hr hF hb (fun H hO hS => hsp H a ns hlen hO hS) fun H e s' => hCX H s₁ e s'
end Lw

set_option Elab.async false
set_option linter.all false
set_option maxRecDepth 100000
set_option maxHeartbeats 2000000
namespace Lw
open PySem PySem.Spec PyProof.Rows L2

/-! ## the heap without one object -/
def off (H : Hp) (a : Addr) : Hp := fun b => if b = a then none else H b
theorem off_ne {H : Hp} {a b : Addr} (h : b ≠ a) : off H a b = H b := by
  unfold off
  rw [if_neg h]
theorem off_self {H : Hp} {a : Addr} : off H a a = none := by
  unfold off
  rw [if_pos rfl]
theorem off_get {H : Hp} {a b : Addr} {o : HO} (h : off H a b = some o) : b ≠ a ∧ H b = some o := by
  by_cases e : b = a
  · rw [e, off_self] at h
    cases h
  · exact ⟨e, (off_ne e).symm.trans h⟩
theorem off_same {H : Hp} {a : Addr} : Same (off H a) H := fun _ _ h => (off_get h).2
/-- all but a is as it was -/
def Off (a : Addr) (H H' : Hp) : Prop := Same (off H a) (off H' a)
theorem Off.refl {a : Addr} {H : Hp} : Off a H H := fun _ _ h => h
theorem Off.trans {a : Addr} {H H1 H2 : Hp} (x : Off a H H1) (y : Off a H1 H2) : Off a H H2 := fun b o h => y b o (x b o h)
theorem Off.get {a b : Addr} {H H' : Hp} {o : HO} (x : Off a H H') (h : H b = some o) (n : b ≠ a) : H' b = some o := by
  have e := x b o ((off_ne n).trans h)
  exact (off_get e).2
theorem Off.at {a : Addr} {H : Hp} {o : HO} : Off a H (upd H a o) := by
  intro b u h
  obtain ⟨n, e⟩ := off_get h
  rw [off_ne n, upd_ne n]
  exact e
theorem Off.new {a p : Addr} {H : Hp} {o : HO} (h : H p = none) : Off a H (upd H p o) := by
  intro b u g
  obtain ⟨n, e⟩ := off_get g
  rw [off_ne n, upd_ne (ne_of_none e h)]
  exact e
theorem Off.same {a : Addr} {H H' : Hp} (x : Same H H') : Off a H H' := by
  intro b u g
  obtain ⟨n, e⟩ := off_get g
  rw [off_ne n]
  exact x _ _ e
theorem Off.free {a p : Addr} {H H' : Hp} (x : Off a H H') (h : H' p = none) (ha : ∃ o, H a = some o) (n : p ≠ a) : H p = none := by
  cases e : H p with
  | none => rfl
  | some o =>
    rw [x.get e n] at h
    cases h

/-! ## the pot -/
def PotAt (H : Hp) (a : Addr) : Prop := ∃ p q : Int, H a = some (.lst [.int p, .int q]) ∧ 0 ≤ q ∧ q < 2147483648
theorem PotAt.new {H : Hp} {a p : Addr} {o : HO} (h : PotAt H a) (n : H p = none) : PotAt (upd H p o) a := by
  obtain ⟨x, y, e, r⟩ := h
  exact ⟨x, y, by rw [upd_ne (ne_of_none e n)]; exact e, r⟩
theorem PotAt.same {H H' : Hp} {a : Addr} (h : PotAt H a) (s : Same H H') : PotAt H' a := by
  obtain ⟨x, y, e, r⟩ := h
  exact ⟨x, y, s _ _ e, r⟩
theorem PotAt.ne {H : Hp} {a p : Addr} (h : PotAt H a) (n : H p = none) : p ≠ a := by
  obtain ⟨x, y, e, r⟩ := h
  exact (ne_of_none e n).symm

/-! ## data: kinds -/
def tyD : PyData → String
  | .none => "NoneType"
  | .bool _ => "bool"
  | .int _ => "int"
  | .str _ => "str"
  | .list _ => "list"
  | .tuple _ => "tuple"
  | .dict _ => "dict"
theorem Dq.ty {K : PySem.W.Frag} {H : Hp} {v : V} {d : PyData} (h : Dq K H v d) : TyX K H v (.type (tyD d)) := by
  cases h with
  | non => exact .base .non
  | bl b => exact .base (.bl b)
  | int i => exact .base (.int i)
  | str x => exact .base (.str x)
  | lst h _ =>
    rcases h with (h | ⟨o, h⟩) | ⟨o, xs, n, h1, h2, _⟩
    · exact .base (.lst h)
    · exact .base (.frz h)
    · exact .kList h1 h2
  | tup h _ =>
    rcases h with (h | ⟨o, h⟩) | ⟨o, xs, n, h1, h2, _⟩
    · exact .base (.tup h)
    · exact .fTuple h
    · exact .kTuple h1 h2
  | dic h => exact .base (.dK h)
  | dct h _ _ => exact .base (.dK h)
/-- isinstance of data and a built-in class -/
theorem isi_ty {K : PySem.W.Frag} {H : Hp} {v : V} {d : PyData} {T : String} {b : Bool} {Q : VK} (h : Dq K H v d) (e : kitB (tyD d) T = some b) (q : Q (.bl b) H) : rIsi K [v, .ty T] H Q :=
  ⟨v, .ty T, .type (tyD d), .type T, b, rfl, .ty T, h.ty, kit_ty e, q⟩

/-! ## data: sizes -/
theorem len_list2 (a b : Str) : (listText [a, b]).length = a.length + b.length + 4 := by
  show (((("[" : Str) ++ ("" : String) ++ a) ++ (", " : String) ++ b) ++ ("]" : Str)).length = _
  simp only [strLen_append]
  show 1 + 0 + a.length + 2 + b.length + 1 = _
  omega
theorem len_list3 (a b c : Str) : (listText [a, b, c]).length = a.length + b.length + c.length + 6 := by
  show ((((("[" : Str) ++ ("" : String) ++ a) ++ (", " : String) ++ b) ++ (", " : String) ++ c) ++ ("]" : Str)).length = _
  simp only [strLen_append]
  show 1 + 0 + a.length + 2 + b.length + 2 + c.length + 1 = _
  omega
theorem len_bool (b : Bool) : (PyData.bool b).shown.length ≤ 5 := by cases b <;> decide
/-- data that can be shown in a row -/
structure Small (n : Nat) (d : PyData) : Prop where
  sh : d.showable = true
  ln : d.shown.length ≤ n
  dp : d.depth ≤ 10
theorem Small.mono {n m : Nat} {d : PyData} (h : Small n d) (e : n ≤ m) : Small m d := ⟨h.sh, Nat.le_trans h.ln e, h.dp⟩

/-! ## texts of single signs -/
def Bytes (z : Str) : Prop := ∀ c ∈ z.cps.toList, c < 256
theorem small_text {z : Str} {n : Nat} (h : Bytes z) (l : z.length ≤ n) : Small (10 * n + 2) (.str z) := by
  refine ⟨rfl, ?_, ?_⟩
  · have e := StrLaws.reprText_len z fun c hc => Nat.lt_trans (h c hc) (by decide)
    show (reprText z).length ≤ _
    omega
  · simp [PyData.depth]
theorem bytes_join : ∀ (ys : List Str), (∀ y ∈ ys, y.length = 1 ∧ Bytes y) → (Str.join "" ys).length = ys.length ∧ Bytes (Str.join "" ys)
  | [], _ => ⟨rfl, fun c hc => by cases hc⟩
  | [x], h => ⟨(h x (by simp)).1, (h x (by simp)).2⟩
  | x :: y :: r, h => by
    obtain ⟨h1, h2⟩ := bytes_join (y :: r) fun z hz => h z (List.mem_cons_of_mem _ hz)
    obtain ⟨h3, h4⟩ := h x (by simp)
    have e : Str.join "" (x :: y :: r) = x ++ ("" : Str) ++ Str.join "" (y :: r) := rfl
    constructor
    · rw [e, strLen_append, strLen_append, h1, h3]
      show 1 + 0 + (y :: r).length = (y :: r).length + 1
      omega
    · intro c hc
      rw [e] at hc
      have hc' : c ∈ x.cps.toList ++ ([] : List Nat) ++ (Str.join "" (y :: r)).cps.toList := by
        have : (x ++ ("" : Str) ++ Str.join "" (y :: r)).cps.toList = x.cps.toList ++ ([] : List Nat) ++ (Str.join "" (y :: r)).cps.toList := by
          show ((x.cps ++ #[]) ++ (Str.join "" (y :: r)).cps).toList = _
          simp
        rw [← this]
        exact hc
      simp only [List.append_nil, List.mem_append] at hc'
      rcases hc' with q | q
      · exact h4 c q
      · exact h2 c q
theorem sum_ones {ys : List Str} (h : ∀ y ∈ ys, y.length = 1 ∧ Bytes y) : (ys.map fun y => y.length).sum = ys.length := by
  induction ys with
  | nil => rfl
  | cons y r ih =>
    rw [List.map_cons, List.sum_cons, ih fun z hz => h z (List.mem_cons_of_mem _ hz), (h y (by simp)).1, List.length_cons]
    omega
/-- an item of a list, at a place that is told -/
theorem at_in {α : Type} {xs : List α} {i : Int} (h0 : 0 ≤ i) (h1 : i < xs.length) : ∃ v, v ∈ xs ∧ xs[i.toNat]? = some v ∧ atI xs i = some v := by
  have h2 : i.toNat < xs.length := by omega
  refine ⟨xs[i.toNat], List.getElem_mem h2, List.getElem?_eq_getElem h2, ?_⟩
  have q := atI_nat (xs := xs) (j := i.toNat) (List.getElem?_eq_getElem h2)
  rw [Int.toNat_of_nonneg h0] at q
  exact q

/-! ## an own def, with all that a call wants -/
structure Own (P : Program) (w : World) (K : PySem.W.Frag) (mg : Str → Option Value) (base : Heap) (CX : CXT) (k : Nat) (x : Str) (ps : List Str) (sp : Sp) (f : Addr) (fd : FuncData) : Prop where
  ok : FnOk P w K mg base CX k f fd ps sp
  m : mg x = some (.ref f)
  kp : PySem.W.keepIn K (.ref f) = true
  b : Binds K fd ps []
structure OwnG (P : Program) (w : World) (K : PySem.W.Frag) (mg : Str → Option Value) (base : Heap) (CX : CXT) (k : Nat) (x : Str) (ps : List Str) (sp : Sp) (f : Addr) (fd : FuncData) : Prop where
  ok : FnG P w K mg base CX k f fd ps sp
  m : mg x = some (.ref f)
  kp : PySem.W.keepIn K (.ref f) = true
  b : Binds K fd ps []
section
variable {X : Cx} {CX : CXT} {k : Nat} {f : Addr} {fd : FuncData} {ps ks : List Str} {sp : Sp} {x : Str} {p pos : Pos} {e : Expr} {es : List Expr} {t tk : TA} {kws : List Keyword} {g : List Value → List Value → List Value} {gV : List V → List V → List V}
theorem pe_own (O : Own X.prog X.w X.K X.mg X.base CX0 k x ps sp f fd) (hr : Room k X.A) (ha : PA X (e :: es) t) (hg : Gl X x := by rfl) (hdb : (x == ("__debug__" : Str)) = false := by decide)
    (he : starEach (e :: es) X.env = (false, eval e X.env) :: starEach es X.env := by rfl) (hpl : (backTo pos (starEach es X.env)).any (fun q => q.1) = false := by rfl) :
    PE X (.Call (.Name x p) (e :: es) [] pos) (tCall sp [] E0 t) := pe_call O.ok hr hg O.m O.kp O.b .nil pass0 ha hdb he hpl
theorem pe_own0 (O : Own X.prog X.w X.K X.mg X.base CX0 k x ps sp f fd) (hr : Room k X.A) (hg : Gl X x := by rfl) (hdb : (x == ("__debug__" : Str)) = false := by decide) :
    PE X (.Call (.Name x p) [] [] pos) (tCall sp [] E0 tNil) := pe_call0 O.ok hr hg O.m O.kp O.b .nil pass0 hdb
theorem pe_owng (O : OwnG X.prog X.w X.K X.mg X.base CX0 k x ps sp f fd) (hgd : X.A.guards = some []) (hr : Room k X.A) (ha : PA X (e :: es) t) (hg : Gl X x := by rfl) (hdb : (x == ("__debug__" : Str)) = false := by decide)
    (he : starEach (e :: es) X.env = (false, eval e X.env) :: starEach es X.env := by rfl) (hpl : (backTo pos (starEach es X.env)).any (fun q => q.1) = false := by rfl) :
    PE X (.Call (.Name x p) (e :: es) [] pos) (tCall sp [] E0 t) := pe_callg O.ok hgd hr hg O.m O.kp O.b .nil pass0 ha hdb he hpl
theorem pe_owng0 (O : OwnG X.prog X.w X.K X.mg X.base CX0 k x ps sp f fd) (hgd : X.A.guards = some []) (hr : Room k X.A) (hg : Gl X x := by rfl) (hdb : (x == ("__debug__" : Str)) = false := by decide) :
    PE X (.Call (.Name x p) [] [] pos) (tCall sp [] E0 tNil) := pe_callg0 O.ok hgd hr hg O.m O.kp O.b .nil pass0 hdb
theorem pe_ownW (O : Own X.prog X.w X.K X.mg X.base CX0 k x ps sp f fd) (hb : KBn X.K fd ps 0 ks g gV) (hr : Room k X.A) (hkw : PK X kws tk) (hg : Gl X x := by rfl)
    (hall : (backToKw pos (keywordEach kws X.env)).all (fun q => q.1.isSome) = true := by rfl)
    (hks : (backToKw pos (keywordEach kws X.env)).filterMap (fun q => q.1) = ks := by rfl)
    (hdb : (x == ("__debug__" : Str)) = false := by decide)
    (hpl : ((backTo pos (starEach [] X.env)).any (fun q => q.1) || (backToKw pos (keywordEach kws X.env)).any (fun q => q.1.isNone)) = false := by rfl) :
    PE X (.Call (.Name x p) [] kws pos) (tCallN 0 ks.length sp gV E0 tNil tk) := pe_callW O.ok hr hg O.m O.kp hb pass0 hkw hall hks hdb hpl
/-- a constant of the module -/
theorem pe_gi {i : Int} (h : ∃ t, X.mg x = some (.int i t)) (hg : Gl X x := by rfl) (hd : (x == ("__debug__" : Str)) = false := by decide) : PE X (.Name x pos) (tC (.int i)) :=
  h.elim fun t e => pe_glob hg e ⟨t, rfl⟩ hd
theorem pe_gs {z : Str} (h : ∃ t, X.mg x = some (.str z t)) (hg : Gl X x := by rfl) (hd : (x == ("__debug__" : Str)) = false := by decide) : PE X (.Name x pos) (tC (.str z)) :=
  h.elim fun t e => pe_glob hg e ⟨t, rfl⟩ hd
end
end Lw
namespace Lw
open PySem PySem.Spec PyProof.Rows L2
theorem Off.put {a D : Addr} {H H' : Hp} {o : HO} (x : Off a H H') (h : H D = none) : Off a H (upd H' D o) := by
  intro b u g
  obtain ⟨n, e⟩ := off_get g
  rw [off_ne n, upd_ne (ne_of_none e h)]
  exact x.get e n
theorem PotAt.put {H : Hp} {a D : Addr} {o : HO} (h : PotAt H a) (n : D ≠ a) : PotAt (upd H D o) a := by
  obtain ⟨x, y, e, r⟩ := h
  exact ⟨x, y, by rw [upd_ne n.symm]; exact e, r⟩
theorem small_int {i : Int} (h : i.natAbs < 2 ^ 1000) : Small 2000 (.int i) := by
  have h1 : i.natAbs.log2 < 1920 := Nat.lt_of_lt_of_le (PySem.Flt.log2_lt_of (by decide) h) (by decide)
  refine ⟨?_, ?_, ?_⟩
  · show decide (i.natAbs.log2 < 1920) = true
    exact decide_eq_true h1
  · have e := int_text_len_1921 h1
    show (Str.ofString (toString i)).length ≤ 2000
    omega
  · simp [PyData.depth]

/-! ## displays of data -/
def Mk (K : PySem.W.Frag) (te : TE) (d : PyData) : Prop := ∀ σ H (Q : VK), (∀ v H', Same H H' → (∀ a, H a ≠ none → Dq K (off H' a) v d) → Q v H') → te σ H Q
def MkA (K : PySem.W.Frag) (ta : TA) (ds : List PyData) : Prop := ∀ σ H (Q : List V → Hp → Prop), (∀ vs H', Same H H' → vs.length = ds.length → (∀ a, H a ≠ none → DqAll K (off H' a) vs ds) → Q vs H') → ta σ H Q
theorem off_mono {H H' : Hp} {a : Addr} (s : Same H H') : Same (off H a) (off H' a) := Off.same s
theorem same_some {H H' : Hp} {a : Addr} (s : Same H H') (h : H a ≠ none) : H' a ≠ none := by
  cases e : H a with
  | none => exact absurd e h
  | some o =>
    rw [s _ _ e]
    exact fun z => nomatch z
section
variable {K : PySem.W.Frag}
theorem Mk.non : Mk K (tC .non) .none := fun _ H Q h => h _ H (Same.refl H) fun _ _ => .non
theorem Mk.bl {b : Bool} : Mk K (tC (.bl b)) (.bool b) := fun _ H Q h => h _ H (Same.refl H) fun _ _ => .bl b
theorem Mk.int {i : Int} : Mk K (tC (.int i)) (.int i) := fun _ H Q h => h _ H (Same.refl H) fun _ _ => .int i
theorem Mk.str {x : Str} : Mk K (tC (.str x)) (.str x) := fun _ H Q h => h _ H (Same.refl H) fun _ _ => .str x
theorem Mk.neg {i : Int} : Mk K (tUn (rU fun i => .int (-i)) (tC (.int i))) (.int (-i)) := fun _ H Q h => ⟨i, rfl, h _ H (Same.refl H) fun _ _ => .int _⟩
theorem MkA.nil : MkA K tNil [] := fun _ H Q h => h _ H (Same.refl H) rfl fun _ _ => .nil
theorem MkA.cons {te : TE} {ta : TA} {d : PyData} {ds : List PyData} (h1 : Mk K te d) (h2 : MkA K ta ds) : MkA K (tCons te ta) (d :: ds) := by
  intro σ H Q h
  refine h1 σ H _ fun v H1 s1 q1 => h2 σ H1 _ fun vs H2 s2 l2 q2 => h _ H2 (s1.trans s2) (congrArg Nat.succ l2) fun a ha => ?_
  exact .cons (Dq.same (off_mono s2) (q1 a ha)) (q2 a (same_some s1 ha))
theorem mk_new {H : Hp} {p a : Addr} {o : HO} (hp : H p = none) (ha : H a ≠ none) : off (upd H p o) a p = some o := by
  have n : p ≠ a := fun e => ha (e ▸ hp)
  rw [off_ne n, upd_same]
theorem Mk.tup {ta : TA} {ds : List PyData} (h1 : MkA K ta ds) (hl : ds.length ≤ 1000 := by decide) : Mk K (tTup ta) (.tuple ds) := by
  intro σ H Q h
  refine h1 σ H _ fun vs H1 s1 l1 q1 => ⟨?_, fun p hp => h _ _ (s1.trans (same_upd hp)) fun a ha => ?_⟩
  · rw [l1]
    exact Nat.le_of_lt (small1000 hl)
  · exact .tup (.inl (.inl (mk_new hp (same_some s1 ha)))) (DqAll.same (off_mono (same_upd hp)) (q1 a ha))
theorem Mk.lst {ta : TA} {ds : List PyData} (h1 : MkA K ta ds) (hl : ds.length ≤ 1000 := by decide) : Mk K (tLst ta) (.list ds) := by
  intro σ H Q h
  refine h1 σ H _ fun vs H1 s1 l1 q1 => ⟨?_, fun p hp => h _ _ (s1.trans (same_upd hp)) fun a ha => ?_⟩
  · rw [l1]
    exact Nat.le_of_lt (small1000 hl)
  · exact .lst (.inl (.inl (mk_new hp (same_some s1 ha)))) (DqAll.same (off_mono (same_upd hp)) (q1 a ha))
theorem Mk.dict : Mk K tDNewK (.dict []) := by
  intro σ H Q h
  intro p hp
  exact h _ _ (same_upd hp) fun a ha => .dic (mk_new hp ha)
theorem dq_at {H : Hp} : ∀ {vs : List V} {ds : List PyData}, DqAll K H vs ds → ∀ v ∈ vs, ∃ d ∈ ds, Dq K H v d
  | _, _, .nil, v, h => nomatch h
  | _, _, .cons h g, v, hv => by
    rcases List.mem_cons.mp hv with rfl | hv
    · exact ⟨_, List.mem_cons_self .., h⟩
    · obtain ⟨d, hd, e⟩ := dq_at g v hv
      exact ⟨d, List.mem_cons_of_mem _ hd, e⟩
theorem dq_app {H : Hp} : ∀ {vs ws : List V} {ds es : List PyData}, DqAll K H vs ds → DqAll K H ws es → DqAll K H (vs ++ ws) (ds ++ es)
  | _, _, _, _, .nil, q => q
  | _, _, _, _, .cons h g, q => .cons h (dq_app g q)
end
end Lw
namespace Lw
open PySem PySem.Spec PyProof.Rows L2
section
variable {K : PySem.W.Frag}
theorem s_lst {ta : TA} {ds : List PyData} {i : Nat} {u : TS} {D : Ends} {σ : L2.St} {H : Hp} (h : MkA K ta ds) (hl : ds.length ≤ 1000)
    (k : ∀ vs H1 p, Same H H1 → vs.length = ds.length → (∀ a, H a ≠ none → DqAll K (off H1 a) vs ds) → H1 p = none → u D (σ.set i (some (.ref p))) (upd H1 p (.lst vs))) :
    tSeq (tAsg (tLst ta) (gName i)) u D σ H := by
  refine h σ H _ fun vs H1 s l d => ⟨?_, fun p np => k vs H1 p s l d np⟩
  rw [l]
  exact Nat.le_of_lt (small1000 hl)
/-- x + [..] -/
theorem e_cat {ta : TA} {ds : List PyData} {i : Nat} {σ : L2.St} {H : Hp} {Q : VK} {t : Addr} {xs : List V} (h : MkA K ta ds) (hl : xs.length + ds.length ≤ 1000) (hi : σ[i]? = some (some (.ref t))) (ht : H t = some (.lst xs))
    (k : ∀ vs H1 p, Same H H1 → vs.length = ds.length → (∀ a, H a ≠ none → DqAll K (off H1 a) vs ds) → H1 p = none → Q (.ref p) (upd H1 p (.lst (xs ++ vs)))) :
    tOp rCat (tVar i) (tLst ta) σ H Q := by
  refine ⟨.ref t, hi, h σ H _ fun vs H1 s l d => ⟨?_, fun p np => ⟨t, p, xs, vs, rfl, rfl, ?_, upd_same, ?_, fun p2 np2 => ?_⟩⟩⟩
  · rw [l]
    exact Nat.le_of_lt (small1000 (by omega))
  · rw [upd_ne (ne_of_none (s _ _ ht) np)]
    exact s _ _ ht
  · rw [l]
    exact Nat.le_of_lt (small1000 hl)
  · refine k vs (upd H1 p (.lst vs)) p2 (s.trans (same_upd np)) l (fun a ha => DqAll.same (off_mono (same_upd np)) (d a ha)) np2
def rLenQ (K : PySem.W.Frag) : List V → Hp → VK → Prop := fun xs H Q => ∃ (p : Addr) (ys : List V), xs = [.ref p] ∧ (SqL K H p ys ∨ SqT K H p ys) ∧ Q (.int ys.length) H
theorem call_lenQ {X : Cx} : CallR X (.builtin "len") (rLenQ X.K) := call_len_seq
end
end Lw

set_option Elab.async false
set_option linter.all false
set_option maxRecDepth 100000
set_option maxHeartbeats 4000000
namespace Lw
open PySem PySem.Spec PyProof.Rows L2

/-! ## own exceptions over one of the built-in ones -/
/-- own classes, then the mro of a built-in one -/
def refsT (tl : List Value) : List Value → Bool
  | .ref _ :: r => refsT tl r
  | l => l == tl
theorem refsT_or (tl : List Value) (l : List Value) (h : refsT tl l = true) : (∃ c r, l = .ref c :: r ∧ refsT tl r = true) ∨ l = tl := by
  cases l with
  | nil => exact .inr (beq_iff_eq.mp h)
  | cons a r =>
    cases a with
    | ref c => exact .inl ⟨c, r, rfl, h⟩
    | _ => exact .inr (beq_iff_eq.mp h)
/-- what the built-in class says -/
structure ExB (B newId initId : String) (tl : List Value) : Prop where
  fb : ExcBaseFacts B newId initId tl
  kf : PySem.W.KxsFacts B initId
  pass : ∀ self, PySem.refuseLoop self "__setattr__" tl = pure ()
  obj : tl.contains (.type "object") = true
  nn : tl ≠ []
abbrev tlOf (B : String) : List Value := [.type B, .type "Exception", .type "BaseException", .type "object"]
theorem exb_V : ExB "ValueError" "ValueError.__new__" "ValueError.__init__" (tlOf "ValueError") := ⟨F.excBase_ValueError, PySem.W.kxs_ValueError, F.store_ValueError.passes, by decide +kernel, by simp⟩
theorem exb_L : ExB "LookupError" "LookupError.__new__" "LookupError.__init__" (tlOf "LookupError") := ⟨F.excBase_LookupError, PySem.W.kxs_LookupError, F.store_LookupError.passes, by decide +kernel, by simp⟩
theorem exb_R : ExB "RuntimeError" "RuntimeError.__new__" "RuntimeError.__init__" (tlOf "RuntimeError") := ⟨F.excBase_RuntimeError, PySem.W.kxs_RuntimeError, F.store_RuntimeError.passes, by decide +kernel, by simp⟩
theorem exb_A : ExB "ArithmeticError" "ArithmeticError.__new__" "ArithmeticError.__init__" (tlOf "ArithmeticError") := ⟨F.excBase_ArithmeticError, PySem.W.kxs_ArithmeticError, F.store_ArithmeticError.passes, by decide +kernel, by simp⟩
theorem refsT_pass {B newId initId : String} {tl : List Value} (E : ExB B newId initId tl) (self : Value) : ∀ l : List Value, refsT tl l = true → PySem.refuseLoop self "__setattr__" l = pure () := by
  intro l
  induction l with
  | nil =>
    intro h
    exact absurd (beq_iff_eq.mp h).symm E.nn
  | cons a r ih =>
    intro h
    rcases refsT_or tl _ h with ⟨c, r', q, g⟩ | q
    · cases q
      rw [PySem.refuseLoop_ref]
      exact ih g
    · rw [q]
      exact E.pass self
theorem refsT_obj {B newId initId : String} {tl : List Value} (E : ExB B newId initId tl) : ∀ l : List Value, refsT tl l = true → l.contains (.type "object") = true ∧ l.isEmpty = false := by
  intro l
  induction l with
  | nil =>
    intro h
    exact absurd (beq_iff_eq.mp h).symm E.nn
  | cons a r ih =>
    intro h
    refine ⟨?_, rfl⟩
    rcases refsT_or tl _ h with ⟨c, r', q, g⟩ | q
    · cases q
      rw [List.contains_cons, (ih g).1, Bool.or_true]
    · rw [q]
      exact E.obj
/-- what the written part says of a class of exceptions -/
def clsB (K : PySem.W.Frag) (C : Addr) (tl : List Value) (newId : String) : Bool :=
  PySem.W.excInitIn K C tl newId && (((PySem.W.clsIn K C).any fun cd => cd.hasDict && refsT tl cd.mro) && (decide (PySem.W.findIn K (.ref C) "__setattr__" = some (some (.builtin "object.__setattr__"))) &&
    (decide (PySem.W.subIn K (.ref C) (.type "BaseException") = some true) && (decide (PySem.W.typeIn K (.ref C) = some (.type "type")) && PySem.W.keepIn K (.ref C)))))
structure ExcK (K : PySem.W.Frag) (C : Addr) (tl : List Value) (newId : String) : Prop where
  ini : PySem.W.excInitIn K C tl newId = true
  cls : ∃ cd, PySem.W.clsIn K C = some cd ∧ cd.hasDict = true ∧ refsT tl cd.mro = true
  sa : PySem.W.findIn K (.ref C) "__setattr__" = some (some (.builtin "object.__setattr__"))
  exC : PySem.W.subIn K (.ref C) (.type "BaseException") = some true
  tyC : PySem.W.typeIn K (.ref C) = some (.type "type")
  kC : PySem.W.keepIn K (.ref C) = true
theorem clsB_ok {K : PySem.W.Frag} {C : Addr} {tl : List Value} {newId : String} (h : clsB K C tl newId = true) : ExcK K C tl newId := by
  unfold clsB at h
  simp only [Bool.and_eq_true, decide_eq_true_eq] at h
  obtain ⟨h1, h2, h3, h4, h5, h6⟩ := h
  obtain ⟨cd, e, h7⟩ := (Option.any_eq_true _ _).mp h2
  rw [Bool.and_eq_true] at h7
  exact ⟨h1, ⟨cd, e, h7.1, h7.2⟩, h3, h4, h5, h6⟩

section
open PySem.Builtin PySem.Builtin.ObjectAttr
variable {prog : Program} {w : World} {A : Around} {R : Result → Shared → Prop} {hp : Heap} {g : Array GenState} {d : Drawn} {t : Nat} {os : OsState}
/-- the first field of an exception -/
theorem osa_b {B newId initId : String} {tl : List Value} (EB : ExB B newId initId tl) {K : PySem.W.Frag} {name : Str} {tk : Tok} {v : Value} {x C : Addr} {fv : Array Value} {cd : ClassData}
    (X : K.In hp) (hx : hp.get? x = some { cls := .ref C, data := .fields fv }) (hcd : PySem.W.clsIn K C = some cd) (hm : refsT tl cd.mro = true) (hh : cd.hasDict = true) (ha : PySem.W.findIn K (.ref C) name = some none)
    (hq : ∀ h' tk' dx, (∀ b o, b ≠ x → hp.get? b = some o → h'.get? b = some o) → hp.objs.size ≤ dx → dx ≠ x → h'.get? x = some { cls := .ref C, dict := some dx, data := .fields fv } →
      h'.Ns1 dx (fun y => if y = name then some v else none) → R (.ok (.ret .none)) ⟨h', g, d, tk', os⟩) :
    codeAny (model prog w) A (.call (.builtin "object.__setattr__") ⟨[.ref x, .str name tk, v], []⟩) R ⟨hp, g, d, t, os⟩ := by
  obtain ⟨hob, hne⟩ := refsT_obj EB _ hm
  have I : PySem.W.InstAt hp x { cls := .ref C, data := .fields fv } C none := ⟨hx, rfl, rfl, trivial⟩
  have SF := F.store_object
  have hxs : x ≠ hp.objs.size := Nat.ne_of_lt (Heap.lt_size hx)
  have hmro : PySem.W.mroIn K C (.type "object") = some true := by
    unfold PySem.W.mroIn
    rw [hcd, Option.bind_some, if_neg (by rw [hne]; decide), hob]
  have sub : PySem.W.Looks (model prog w) hp (isInstance (.ref x) (.type "object")) true := I.type.andThen (PySem.W.looks_mroIn X hmro)
  refine codeAny_call_builtin SF.slot.plain SF.entry (@PySem.W.check_slot (model prog w) _ _ ⟨hp, g, d, t, os⟩ "object.__setattr__" "object" "__setattr__" (.ref x) [.str name tk, v] [] _ SF.kind SF.split sub (SF.args (.ref x) (.str name tk) v) ?_)
  have hcls : PySem.W.Looks (model prog w) hp (classData C) cd := PySem.W.looks_clsIn X hcd
  have hmr : PySem.W.Looks (model prog w) hp (mroOf (.ref C)) cd.mro := hcls.andThen .now
  have L3 : PySem.W.Looks (model prog w) hp (storeTaker? none) none := .now
  rw [PySem.W.osa_eq, refuse_eq]
  refine wpAny_bind (wpAny_bind (I.type.at (wpAny_bind (hmr.at ?_))))
  rw [refsT_pass EB _ _ hm]
  refine wpAny_pure (wpAny_bind (I.type.at (wpAny_bind ((PySem.W.looks_findIn X ha).at (wpAny_bind (L3.at ?_))))))
  show wpAny _ _ (storeInOwnDict (.ref x) (.ref C) (.str name tk) name v false) _ _ _
  obtain ⟨nm, bs, mro, ns, qn, hd, sn, sb, ab, col, del⟩ := cd
  dsimp only at hh
  subst hh
  unfold storeInOwnDict ownDictForStores
  repeat (first | with_reducible refine HandSPX.store_in_new ?_ ?_ | with_reducible refine wpAny_loadPart_at hx ?_ | with_reducible refine hcls.at ?_ | wp_step)
  · exact ⟨_, #[], _, (Heap.get?_update_ne _ _ _ _ hxs.symm).trans (Heap.get?_push_at rfl rfl), rfl, fun e he => absurd he (by simp), fun _ => rfl⟩
  · intro h' tk' hn' hs
    have hx₁ : (hp.push { cls := .type "dict", data := .dict #[] }).get? x = some { cls := .ref C, data := .fields fv } := Heap.get?_push_of_some _ hx
    refine hq h' tk' hp.objs.size (fun b o hb ho => ?_) (Nat.le_refl _) hxs.symm ?_ hn'
    · exact (hs.2 b (Nat.ne_of_lt (Heap.lt_size ho))).trans ((Heap.get?_update_ne _ _ _ _ hb).trans (Heap.get?_push_of_some _ ho))
    · exact (hs.2 x hxs).trans (Heap.get?_update_self _ hx₁ rfl)
end
end Lw

set_option Elab.async false
set_option linter.all false
set_option maxRecDepth 100000
set_option maxHeartbeats 4000000
namespace Lw
open PySem PySem.Spec PyProof.Rows L2

/-- the words of a def `__init__` that closes over its class -/
structure IniW where
  name : Str
  qual : Str
  params : Arguments
  body : List Stmt
  scope : Scope
/-- such a def as it stands behind the top: its cell cc, its code object cda, its class C -/
structure IniK (P : Program) (K : PySem.W.Frag) (mg : Str → Option Value) (W : IniW) (f cc cda C : Addr) (B initId : String) : Prop where
  lk : ∃ (oc doc pm ct : Value) (od : Option Addr) (osl : Array (Option Value)), K.lookup f = some ⟨oc, od, .func (PySem.W.fnX W.name W.qual W.params W.body W.scope [("__class__", cc)] .none .none doc pm none (.ref cda) ct), osl⟩
  hcd : PySem.W.codeIn K (.ref cda) W.qual = true
  code : ∃ (ccl : Value) (cdd : Option Addr) (vs : Array Value) (ccs : Array (Option Value)) (file : Str) (tf : Tok), K.lookup cda = some ⟨ccl, cdd, .fields vs, ccs⟩ ∧ vs[2]? = some (.str file tf) ∧ ((P.main.file : Str) == file) = true
  cell : ∃ (cl : Value) (cld : Option Addr) (csl : Array (Option Value)), K.lookup cc = some ⟨cl, cld, .cell (some (.ref C)), csl⟩
  top : (P.main.scope.names.lookup ("super" : Str)).isSome = false
  sup : mg "super" = none
  self : (W.params.posonlyargs ++ W.params.args).head?.map (fun a => a.arg) = some "self"
  kind : W.scope.kind = .function
  ksup : W.scope.names.lookup ("super" : Str) = some .globalImplicit
  kcls : W.scope.names.lookup ("__class__" : Str) = some .free
  kself : W.scope.names.lookup ("self" : Str) = some .local
  opq : PySem.W.nsIn K cStatics "thirdparty.any" = some none
  meth : PySem.W.ks_superIn K C C "__init__" = some (some (.builtin initId))
  subB : PySem.W.subIn K (.ref C) (.type B) = some true
  subC : PySem.W.mroIn K C (.ref C) = some true

section
variable {X : Cx} {pins : List (Addr × Obj)} {σ : L2.St} {H : Hp} {s : Shared} {a f cc cda C : Addr} {W : IniW} {B newId initId : String} {tl : List Value} {body : List Stmt} {E : Value → Shared → Prop}
/-- the built-in __init__, bound to the exception, is called -/
theorem mw_call (EB : ExB B newId initId tl) (T : ExcK X.K C tl newId) (I : Inv X pins σ H s) (ha : H a = some (exo a C none)) {u : Addr} (hu : s.heap.get? u = some (PySem.W.kxs_mw initId a)) {rest : List Value} (hz : rest.length ≤ sizeLine)
    {Q : Value → Shared → Prop} (h : ∀ s', Inv X pins σ H s' → Q .none s') : wpAny (model X.prog X.w) X.A (call (.ref u) rest) Q E s := by
  obtain ⟨nm, N', qn, bs, bm, hdct, sn, sub, ab, col, dd, k0, k1, k2, k3, k5, hC, hT⟩ := PySem.W.excInit_of I.kIn T.ini
  obtain ⟨t1, he⟩ := exo_at I.hok ha
  obtain ⟨hh, g, d, tk, os⟩ := s
  refine wpAny_call (codeAny_of_tree ?_)
  show wpAny _ X.A.in1 (callAny (.ref u) ⟨rest, []⟩) _ _ _
  simp only [callAny]
  refine wpAny_bind (wpAny_load hu ?_)
  have e1 : (Value.type "method-wrapper" == Value.type "method" || Value.type "method-wrapper" == Value.type "builtin_function_or_method" || Value.type "method-wrapper" == Value.type "method-wrapper") = true := by decide
  simp only [PySem.W.kxs_mw, e1, if_true]
  refine PySem.W.KFB.if_so (by decide) ?_
  refine wpAny_bind (PySem.W.check_bound_init EB.fb.toExcCallFacts hC he rfl ?_)
  refine wpAny_bind (wpAny_pure (wpAny_pure ?_))
  refine ⟨plainId_quiet EB.fb.init.plain _, codeAny_builtin EB.fb.initEntry ?_⟩
  refine PySem.W.exc_init_tree (cls := .ref C) (t0 := t1) (dv := none) (c2 := .none) (c3 := .none) (b4 := .bool false) he hz fun h' k e' t' => ?_
  have J := I.write (t' := tk) (x := a) (e := a) (o := exo a C none) (by rw [ha]; exact True.intro) (.inl rfl) k ⟨_, e'⟩ (exo_ok e')
  have eu : upd H a (exo a C none) = H := by
    funext b
    by_cases hb : b = a
    · rw [hb, upd_same, ha]
    · rw [upd_ne hb]
  rw [eu] at J
  exact h _ J

/-- super().__init__('..') -/
theorem sup_stmt {p0 p1 p2 p3 p4 p5 : Pos} {j : Nat} {msg : Str} (EB : ExB B newId initId tl) (T : ExcK X.K C tl newId) (S : IniK X.prog X.K X.mg W f cc cda C B initId) (I : Inv X pins σ H s)
    (hsc : X.env.scope = W.scope) (hfn : X.env.func = some f) (hco : X.env.code = .ref cda) (hce : X.env.cells = [(("__class__" : Str), cc)])
    (hN : X.N[0]? = some ("self" : Str)) (h0 : σ[0]? = some (some (.ref a))) (ha : H a = some (exo a C none)) {pl : Sem Bool}
    (hev : eval (.Call (.Attribute (.Call (.Name "super" p0) [] [] p1) "__init__" p2) [.Constant (.str msg) j p3] [] p4) X.env = (do
      let ov ← attributeBase (.Call (.Name "super" p0) [] [] p1) "__init__" X.env (eval (.Call (.Name "super" p0) [] [] p1) X.env)
      standAt p2.atName
      let fx ← holding [ov] (getMethod ov "__init__" pl)
      callWith p4 fx.1 fx.2 (backTo p4 (starEach [.Constant (.str msg) j p3] X.env)) []))
    {Q : Flow → Shared → Prop} (h : ∀ s', Inv X pins σ H s' → Q .next s') :
    PySem.wpAt (model X.prog X.w) X.A (.func body X.env) (exec (.Expr (.Call (.Attribute (.Call (.Name "super" p0) [] [] p1) "__init__" p2) [.Constant (.str msg) j p3] [] p4) p5) X.env) Q E s := by
  have gk : ∀ x : Str, X.env.kindOf x = W.scope.names.lookup x := fun x => by
    show X.env.scope.names.lookup x = _
    rw [hsc]
  refine ks_wpAt_Expr_any ?_ I.quiet rfl
  refine ks_wpAt_MethodCall ?_ hev
  obtain ⟨oc, doc, pm, ct, od, osl, lk⟩ := S.lk
  obtain ⟨ccl, cdd, vs, ccs, file, tf, lc, hvs, hfile⟩ := S.code
  obtain ⟨cl, cld, csl, lcell⟩ := S.cell
  obtain ⟨ar, hp, har⟩ := Option.map_eq_some_iff.mp S.self
  obtain ⟨cd, hcd, _, _⟩ := T.cls
  have KX := I.kIn
  refine ks_wpAt_super_base (env := X.env) ((gk _).trans S.ksup) ((gk _).trans S.kcls) (by decide) hfn (KX _ _ lk) rfl hp hco (KX _ _ lc) rfl hvs hfile S.top ?_
  -- super
  obtain ⟨mb, b1, b2⟩ := I.mod.blt
  refine PySem.W.ks_loadName_global I.ok.kind ((gk _).trans S.ksup) (Calls.loadGlobal_builtin (by rw [I.ok.glob]; exact I.mod.glob.keeps I.bk) S.sup (by rw [I.ok.blt]; exact b1.keeps I.bk) ((b2 _ (by decide)).trans (by first | boot_by_name | rfl | kernel_rfl)) ⟨rfl, ?_⟩)
  -- __class__
  refine wpAny_loadName_free I.ok.kind ((gk _).trans S.kcls) (c := cc) (by rw [hce]; rfl) ⟨_, KX _ _ lcell, rfl⟩ ?_
  -- self
  rw [har]
  obtain ⟨m, hn, hl⟩ := I.loc
  obtain ⟨us, rs, ls⟩ := hl 0 "self" _ hN h0 (.inl (by rw [hsc]; exact S.kself))
  cases (show us = Value.ref a from rs)
  have hm : m "self" = some (.ref a) := by
    rcases ls with ⟨_, q⟩ | ⟨q, _⟩
    · exact q
    · rw [gk, S.kself] at q
      rcases q with q | q <;> cases q
  refine wpAny_loadName_local I.ok.kind ((gk _).trans S.kself) hn hm ?_
  -- the super object
  obtain ⟨t1, he⟩ := exo_at I.hok ha
  obtain ⟨oD, hD1, hD2⟩ : ∃ oD, s.heap.get? C = some oD ∧ oD.data = .cls cd := by
    unfold PySem.W.clsIn at hcd
    split at hcd
    · rename_i c d cd' sl ho
      cases hcd
      exact ⟨_, KX _ _ ho, rfl⟩
    · cases hcd
  have In : PySem.W.InstAt s.heap a { cls := .ref C, dict := none, data := .fields #[.ref t1, .none, .none, .none, .bool false, .none] } C none := ⟨he, rfl, rfl, trivial⟩
  have nac : a ≠ C := PySem.W.ks_ne KX In hcd
  have subB := S.subB
  have meth := S.meth
  have opq := S.opq
  obtain ⟨hh, g, d, t, os⟩ := s
  refine ks_wpAny_isType_cls hD1 hD2 ⟨rfl, ?_⟩
  refine ks_wpAny_call_super hD1 hD2 he rfl (fun c e => nomatch e) (PySem.W.looks_mroIn KX S.subC) (fun h' e k => ?_)
  have I2 : Inv X pins σ H ⟨h', g, d, t, os⟩ := I.kept (t' := t) k
  obtain ⟨t2, he2⟩ := exo_at I2.hok ha
  have In2 : PySem.W.InstAt h' a { cls := .ref C, dict := none, data := .fields #[.ref t2, .none, .none, .none, .bool false, .none] } C none := ⟨he2, rfl, rfl, trivial⟩
  unfold PySem.W.ks_superIn at meth
  rw [hcd] at meth
  refine PySem.W.kxs_getMethod EB.kf e (PySem.W.looks_opaque I2.kIn opq) (l₀ := cd.mro) (fun A Q E s k q => wpAny_bind ((PySem.W.looks_clsIn I2.kIn hcd) A _ E s k (wpAny_pure q))) rfl I2.kIn meth (In2.type.andThen (PySem.W.looks_subIn I2.kIn subB)) nac (by decide) ?_
  have k3 : ∀ b o, h'.get? b = some o → (h'.push (PySem.W.kxs_mw initId a)).get? b = some o := fun b o e => Heap.get?_push_of_some _ e
  have I3 : Inv X pins σ H ⟨h'.push (PySem.W.kxs_mw initId a), g, d, t + 1, os⟩ := I2.kept (t' := t + 1) k3
  have hu : (h'.push (PySem.W.kxs_mw initId a)).get? h'.objs.size = some (PySem.W.kxs_mw initId a) := Heap.get?_push_at rfl rfl
  -- the call
  show wpAny _ _ (callWith p4 (.ref h'.objs.size) [] (backTo p4 (starEach [.Constant (.str msg) j p3] X.env)) []) _ _ _
  have hse : starEach [.Constant (.str msg) j p3] X.env = (false, eval (.Constant (.str msg) j p3) X.env) :: starEach [] X.env := rfl
  rw [hse]
  refine PySem.W.kxs_callWith (i := initId) (x := a) rfl ?_
  refine Calls.evalArgs_plain ?_
  refine Calls.spliced_cons (@Calls.Constant_str _ _ _ _ _ msg j p3 _ (Calls.spliced_nil ⟨hu, ?_⟩))
  exact mw_call EB T (I3.tok _) ha hu (by show 1 ≤ sizeLine; decide) h
end

/-! ## the promise of such an `__init__` -/
section
open NdefX
variable {P : Program} {w : World} {K : PySem.W.Frag} {mg : Str → Option Value} {base : Heap} {f cc cda C : Addr} {W : IniW} {B newId initId : String} {tl : List Value}
abbrev IniW.nf (W : IniW) (cc cda : Addr) : NF := ⟨W.name, W.qual, W.params, W.body, W.scope, [("__class__", cc)], cda⟩
/-- the first statement is super().__init__('..'), the rest is walked -/
theorem ini_ok {CX : CXT} {N ps : List Str} {k : Nat} {sp : Sp} {p0 p1 p2 p3 p4 p5 : Pos} {j : Nat} {msg : Str} {rest : List Stmt} {fd : FuncData} (EB : ExB B newId initId tl) (T : ExcK K C tl newId) (S : IniK P K mg W f cc cda C B initId)
    (hb : W.body = .Expr (.Call (.Attribute (.Call (.Name "super" p0) [] [] p1) "__init__" p2) [.Constant (.str msg) j p3] [] p4) p5 :: rest)
    (SC : NScope N ps ["__class__"] W.scope) (hp0 : ps[0]? = some ("self" : Str)) (len : ∀ vs H Q E, sp vs H Q E → vs.length = ps.length)
    (hself : ∀ vs H Q E, sp vs H Q E → ∃ a, vs[0]? = some (.ref a) ∧ H a = some (exo a C none))
    (hev : ∀ L, ∃ pl, eval (.Call (.Attribute (.Call (.Name "super" p0) [] [] p1) "__init__" p2) [.Constant (.str msg) j p3] [] p4) (envF (W.nf cc cda) f L) = (do
      let ov ← attributeBase (.Call (.Name "super" p0) [] [] p1) "__init__" (envF (W.nf cc cda) f L) (eval (.Call (.Name "super" p0) [] [] p1) (envF (W.nf cc cda) f L))
      standAt p2.atName
      let fx ← holding [ov] (getMethod ov "__init__" pl)
      callWith p4 fx.1 fx.2 (backTo p4 (starEach [.Constant (.str msg) j p3] (envF (W.nf cc cda) f L))) []))
    (hbody : ∀ (A : Around) (outer : List Env) (s : Shared) (H : Hp) (vs : List V) (Q : VK) (E : XK), Room k (A.deeper (envF (W.nf cc cda) f s.heap.objs.size)) → sp vs H Q E →
      ∃ t, PSs (ncx CX P w K mg base N (W.nf cc cda) f A outer s H E) rest t ∧ t { nx := fun _ H' => Q .non H', rt := Q } (startF N vs [some (.ref C)]) H)
    (hfd : ∃ (oc : Value) (od : Option Addr) (osl : Array (Option Value)), K.lookup f = some ⟨oc, od, .func fd, osl⟩) :
    FnOk P w K mg base CX (k + 1) f fd ps sp := by
  refine ⟨len, fun A outer s H args us vs Q E hr e0 hbnd r hsp => ?_⟩
  have keep := fun b o e => (e0.bs b o e).1
  have KX : K.In s.heap := e0.mod.kin.keeps keep
  obtain ⟨oc, doc, pm, ct, od, osl, lk⟩ := S.lk
  obtain ⟨oc', od', osl', lk'⟩ := hfd
  rw [lk] at lk'
  cases lk'
  obtain ⟨cl, cld, csl, lcell⟩ := S.cell
  have hl := len _ _ _ _ hsp
  refine ks_codeAny_call_defAt (body := W.body) hr.depth (KX _ _ lk) rfl (e0.mod.nolimit.keeps keep) (PySem.W.codeRec_of KX S.hcd) rfl hbnd SC.nocell (fun y hy => SC.par y.1 (List.of_mem_zip hy).1) (fun h₁ hns kp => ?_) SC.co SC.gen SC.kind
  have CA : CellsAt [(("__class__" : Str), cc)] ["__class__"] [some (.ref C)] s.heap H := by
    refine ⟨rfl, fun y c hc => ?_, fun x y c hx hy => ?_, fun i y hy => ?_⟩
    · have e : c = cc := by
        by_cases q : y = "__class__"
        · subst q
          exact (Option.some.inj hc).symm
        · have z : ([(("__class__" : Str), cc)]).lookup y = none := by
            simp [List.lookup, show (y == ("__class__" : Str)) = false by simpa using q]
          rw [z] at hc
          cases hc
      subst e
      exact ⟨(e0.bs _ _ (e0.mod.kin _ _ lcell)).2, _, _, KX _ _ lcell, rfl⟩
    · have key : ∀ z : Str, ([(("__class__" : Str), cc)]).lookup z = some c → z = "__class__" := fun z hz => by
        refine Classical.byContradiction fun q => ?_
        simp [List.lookup, show (z == ("__class__" : Str)) = false by simpa using q] at hz
      rw [key x hx, key y hy]
    · match i, hy with
      | 0, hy =>
        cases hy
        refine ⟨cc, rfl, fun v hv => ?_⟩
        cases hv
        exact ⟨.ref C, rfl, _, KX _ _ lcell, rfl⟩
  have I : Inv (ncx CX P w K mg base N (W.nf cc cda) f A outer s H E) [] (startF N vs [some (.ref C)]) H { s with heap := h₁, toks := s.toks + (ps.zip us).length } := inv_startN SC hr.hd e0 hl r CA hns kp
  obtain ⟨a, hv0, ha⟩ := hself _ _ _ _ hsp
  have hN : N[0]? = some ("self" : Str) := by
    have q := congrArg (fun l : List Str => l[0]?) SC.pre
    have pl : 0 < ps.length := (List.getElem?_eq_some_iff.mp hp0).1
    rw [List.getElem?_take_of_lt (by omega), List.getElem?_append_left pl] at q
    exact q.trans hp0
  have h0 : (startF N vs [some (.ref C)])[0]? = some (some (.ref a)) := by
    unfold startF
    have vl : 0 < vs.length := (List.getElem?_eq_some_iff.mp hv0).1
    rw [List.getElem?_append_left (by simpa using vl), List.getElem?_map, hv0]
    rfl
  obtain ⟨pl, hev⟩ := hev s.heap.objs.size
  obtain ⟨t, ht, hq⟩ := hbody A outer s H vs Q E (hr.deeper _) hsp
  show PySem.wpAt _ _ _ (execs W.body (envF (W.nf cc cda) f s.heap.objs.size)) _ _ _
  rw [hb]
  refine ks_wpAt_execs_cons ?_
  refine sup_stmt (X := ncx CX P w K mg base N (W.nf cc cda) f A outer s H E) (W := W) EB T S I rfl rfl rfl rfl hN h0 ha hev fun s' J => ?_
  refine wpAt_of_wpAny ?_
  refine wpAny_mono (ht.run [] s' (startF N vs [some (.ref C)]) H _ J hq) (fun fl s'' hs => ?_) fun e s'' hs => hs
  cases fl with
  | ret u =>
    obtain ⟨v, σ', H', J', rv, q⟩ := hs
    exact ⟨v, H', J'.os, J'.bare, J'.base, J'.hok, rv, q⟩
  | next =>
    obtain ⟨σ', H', J', q⟩ := hs
    exact ⟨V.non, H', J'.os, J'.bare, J'.base, J'.hok, rfl, q⟩
  | brk => exact hs.elim fun _ z => z.elim fun _ z => z.2.elim
  | cont => exact hs.elim fun _ z => z.elim fun _ z => z.2.elim
end
end Lw

set_option Elab.async false
set_option linter.all false
set_option maxRecDepth 100000
set_option maxHeartbeats 4000000
namespace Lw
open PySem PySem.Spec PyProof.Rows L2
section
variable {X : Cx} {pins : List (Addr × Obj)} {σ : L2.St} {H : Hp} {s : Shared} {a C dx : Addr} {f : Str} {y : V} {u : Value} {E : Value → Shared → Prop} {A : Around} {B newId initId : String} {tl : List Value}
/-- self.f = y, the first field of an exception -/
theorem ost_b (EB : ExB B newId initId tl) (T : ExcK X.K C tl newId) (I : Inv X pins σ H s) (e : H a = some (exo a C none)) (hno : PySem.W.findIn X.K (.ref C) f = some none) (ry : L2.RelV y u) {Q : Unit → Shared → Prop}
    (h : ∀ dx s', H dx = none → dx ≠ a → Inv X pins σ (upd (upd H dx (exd dx [(f, y)])) a (exo a C (some dx))) s' → Q () s') : wpAny (model X.prog X.w) A (setAttr (.ref a) f u) Q E s := by
  obtain ⟨cd, hcd, hdict, hmro⟩ := T.cls
  obtain ⟨t1, ho⟩ := exo_at I.hok e
  obtain ⟨hp, g, d, t, os⟩ := s
  refine PySem.W.set_plain I.kIn (ox := { cls := .ref C, dict := none, data := .fields #[.ref t1, .none, .none, .none, .bool false, .none] }) (od := none) ⟨ho, rfl, rfl, trivial⟩ T.sa ?_
  refine osa_b EB I.kIn ho hcd hmro hdict hno fun h' tk' dx k dn dne hx hn => ?_
  have hnd : H dx = none := I.hok.fresh dn
  have na : ∀ {b : Addr}, H b = none → b ≠ a := fun {b} n z => by
    rw [z, e] at n
    cases n
  have nd : ∀ {b : Addr} {o : Obj}, hp.get? b = some o → b ≠ dx := fun {b o} q => Nat.ne_of_lt (Nat.lt_of_lt_of_le (Heap.lt_size q) dn)
  have keepT : ∀ {b : Addr} {o : HO}, H b = some o → exo a C none ≠ o → upd (upd H dx (exd dx [(f, y)])) a (exo a C (some dx)) b = some o := fun {b o} q ne => by
    rw [upd_ne (at_ne e q ne), upd_ne (ne_of_none q hnd)]
    exact q
  have U : Un X.fs [] H (upd (upd H dx (exd dx [(f, y)])) a (exo a C (some dx))) hp h' := by
    refine ⟨fun b o q n _ _ => k b o (na n) q, fun b o q n _ _ => ⟨o.slots, k b o (na n) q⟩, fun b o q n _ => ?_, fun b o q _ => ?_, fun b xs q => keepT q exo_tup, fun b o v q => keepT q exo_frz, fun b ps q => ⟨#[], ?_⟩⟩
    · rw [upd_ne (na n), upd_ne (nd q)]
      exact n
    · by_cases hb : b = a
      · rw [hb]
        exact ⟨_, hx⟩
      · exact ⟨o, k b o hb q⟩
    · rw [keepT q exo_tbl]
      simp
  refine h dx _ hnd dne (I.un (t' := tk') U fun b o q => ?_)
  by_cases hb : b = a
  · subst hb
    rw [upd_same] at q
    cases q
    exact exo_ok hx
  · rw [upd_ne hb] at q
    by_cases hd : b = dx
    · subst hd
      rw [upd_same] at q
      cases q
      exact exd_ok hn (relO_put (fs := []) ry fun g => True.intro)
    · rw [upd_ne hd] at q
      refine (I.hok b o q).stay (fun c v hc z => k c v ?_ z) (fun c hc => keepT hc exo_own) fun c xs hc => keepT hc exo_tup
      rcases hc with hc | hc
      · rw [hc]
        exact hb
      · exact at_ne e hc exo_own
end
/-- self.f = e as the reading of a statement -/
def tOstB (K : PySem.W.Frag) (tl : List Value) (newId : String) (f : Str) (to te : TE) : TS := fun D σ H => te σ H fun y H1 => to σ H1 fun x H2 => ∃ a C : Addr, x = .ref a ∧ ExcK K C tl newId ∧ PySem.W.findIn K (.ref C) f = some none ∧
  H2 a = some (exo a C none) ∧ ∀ dx, H2 dx = none → dx ≠ a → D.nx σ (upd (upd H2 dx (exd dx [(f, y)])) a (exo a C (some dx)))
section
variable {X : Cx} {o e : Expr} {es : List Expr} {to te : TE} {ta : TA} {f : Str} {p p' pos : Pos} {B newId initId : String} {tl : List Value}
theorem ps_ostB (EB : ExB B newId initId tl) (ho : PE X o to) (he : PE X e te) (hs : swapsWith e (some (.Attribute o f p')) pos.line X.env = pure false := by rfl) : PS X (.Assign [.Attribute o f p'] e pos) (tOstB X.K tl newId f to te) := by
  constructor
  intro pins s σ H D I h
  refine plainObj_wpAny_Assign_Attribute (thn (he.run pins s σ H _ I h) fun v s1 hv => ?_) hs
  obtain ⟨y, H1, I1, r1, q1⟩ := hv
  refine thn (ho.run pins s1 σ H1 _ I1 q1) fun u s2 hu => ?_
  obtain ⟨x, H2, I2, r2, a, C, ex, T, hno, ea, q⟩ := hu
  subst ex
  cases (show u = Value.ref a from r2)
  exact ost_b EB T I2 ea hno r1 fun dx s' n ne J => ⟨σ, _, J, q dx n ne⟩
/-- C(e, ..) as what a raise makes -/
theorem pmk_b {CX : CXT} {x : Str} {C fI : Addr} {k : Nat} {fd : FuncData} {ps : List Str} {sp : Sp} (EB : ExB B newId initId tl) (T : ExcK X.K C tl newId) (iC : PySem.W.findIn X.K (.ref C) "__init__" = some (some (.ref fI))) (tI : PySem.W.typeIn X.K (.ref fI) = some (.type "function"))
    (F1 : FnOk X.prog X.w X.K X.mg X.base CX k fI fd ps sp) (hr : Room (k + 1) X.A) (hb : Binds X.K fd ps []) (hx : Passes CX X (fun _ _ _ => False)) (hm : X.mg x = some (.ref C)) (ha : PA X (e :: es) ta) (hg : Gl X x := by rfl)
    (hdb : (x == ("__debug__" : Str)) = false := by decide) (he : starEach (e :: es) X.env = (false, eval e X.env) :: starEach es X.env := by rfl) (hpl : (backTo pos (starEach es X.env)).any (fun q => q.1) = false := by rfl) :
    PMk X (.Call (.Name x p) (e :: es) [] pos) (tMkO C sp [] ta) := by
  intro pins s σ H Q I h
  refine wpAny_Call_Name_kw (ld_glob I hg hm (PySem.W.callWith_K (h₀ := X.base) I.ok.mod.kin T.kC (thn (ha.run pos pins s σ H _ I h) fun us s1 hu => ?_) he hpl) hdb)
  obtain ⟨vs, H1, I1, r1, hz, q1⟩ := hu
  refine ⟨I1.kIn, ?_⟩
  show wpAny _ _ (call (.ref C) us) _ _ _
  obtain ⟨nm, N', qn, bs, bm, hdct, sn, sub, ab, col, dd, k0, k1, k2, k3, k5, hC, hT⟩ := PySem.W.excInit_of I1.kIn T.ini
  obtain ⟨hp, g, dr, tk, os⟩ := s1
  generalize hA : hp.objs.size + 1 = A1
  have hsz : hp.objs.size ≤ A1 := by omega
  have hq := q1 A1 (I1.hok.fresh hsz)
  have kk : ∀ b o, hp.get? b = some o → ((hp.push (PySem.W.kdv_tup us)).push (HandSPX.excO C hp.objs.size)).get? b = some o := fun b o e => Heap.get?_push_of_some _ (Heap.get?_push_of_some _ e)
  have hget : ((hp.push (PySem.W.kdv_tup us)).push (HandSPX.excO C hp.objs.size)).get? A1 = some (HandSPX.excO C hp.objs.size) := by
    rw [← hA]
    heap_get
  have I2 : Inv X pins σ (upd H1 A1 (exo A1 C none)) ⟨(hp.push (PySem.W.kdv_tup us)).push (HandSPX.excO C hp.objs.size), g, dr, tk, os⟩ :=
    I1.laid (t' := tk) (a := A1) (o := exo A1 C none) (h' := (hp.push (PySem.W.kdv_tup us)).push (HandSPX.excO C hp.objs.size)) kk hsz (exo_ok hget)
  have r2 : Vals (V.ref A1 :: (vs ++ [])) (Value.ref A1 :: (us ++ [])) := .cons rfl (r1.append .nil)
  have hl : (Value.ref A1 :: us ++ []).length = ps.length := (r2.length.symm.trans (F1.len _ _ _ _ hq))
  have hus : us.length ≤ sizeLine := by
    rw [← Paired.length r1]
    exact Nat.le_of_lt (small1000 hz)
  refine wpAny_call (HandSPX.call_own EB.fb hT hC (PySem.W.looks_findIn I1.kIn iC) (fun self => PySem.W.bind_fn I1.kIn self tI) hus ?_)
  rw [hA]
  have hbd := hb ⟨(hp.push (PySem.W.kdv_tup us)).push (HandSPX.excO C hp.objs.size), g, dr, tk, os⟩ (Value.ref A1 :: us) I2.kIn hl
  rw [List.cons_append] at hbd
  refine codeAny_mono (F1.run _ X.stack _ _ ⟨Value.ref A1 :: us, []⟩ (Value.ref A1 :: (us ++ [])) _ _ (fun _ _ _ => False) (hr.make C us []) (I2.env0.make C us []) hbd r2 hq) fun r s' hq' => ?_
  match r, hq' with
  | .error er, hq' => exact hx pins σ _ _ er s' I2 hq'
  | .ok .next, hq' => exact False.elim hq'
  | .ok .brk, hq' => exact False.elim hq'
  | .ok .cont, hq' => exact False.elim hq'
  | .ok (.ret u), hq' =>
    obtain ⟨v, H2, os2, bare2, un2, hok2, rv, ev, d, fs, ea, ed, hd1, q2⟩ := hq'
    subst ev
    obtain ⟨h2, g2, d2, t2, os'⟩ := s'
    exact ⟨rv, mk_end (raises_own T.exC T.tyC) I1 hsz kk un2 hok2 os2 bare2 ea ed hd1 q2⟩
end
end Lw

set_option Elab.async false
set_option linter.all false
set_option maxRecDepth 100000
set_option maxHeartbeats 2000000
namespace Lw
open PySem PySem.Spec PyProof.Rows L2
/-! ## common divisors -/
theorem gcd_step (a b : Int) : Int.gcd b (a.fmod b) = Int.gcd a b := by
  rw [Int.fmod_def, Int.gcd_sub_mul_left_right, Int.gcd_comm]
theorem fmod_fall (a b : Int) (h : b ≠ 0) : (a.fmod b).natAbs < b.natAbs := by
  by_cases hb : 0 < b
  · have h1 := Int.fmod_lt_of_pos a hb
    have h2 := Int.fmod_nonneg_of_pos a hb
    omega
  · have hb' : 0 < -b := by omega
    have h1 := Int.fmod_lt_of_pos (-a) hb'
    have h2 := Int.fmod_nonneg_of_pos (-a) hb'
    rw [Int.neg_fmod_neg] at h1 h2
    omega
theorem fmod_le (a b : Int) (h : b ≠ 0) {n : Nat} (hb : b.natAbs < n) : (a.fmod b).natAbs < n := Nat.lt_trans (fmod_fall a b h) hb
theorem abs_if (a : Int) : (if a < 0 then -a else a) = (a.natAbs : Int) := by
  split <;> omega
theorem gcd_pos {n d : Int} (h : d ≠ 0) : 0 < Int.gcd n d := by
  refine Nat.pos_of_ne_zero fun e => ?_
  exact h (Int.gcd_eq_zero_iff.mp e).2
theorem gcd_le {n d : Int} (h : d ≠ 0) : Int.gcd n d ≤ d.natAbs := by
  have e : (Int.gcd n d) ∣ d.natAbs := Int.ofNat_dvd_left.mp (Int.gcd_dvd_right n d)
  exact Nat.le_of_dvd (by omega) e
/-- // by a divisor of some thousand digits, of either sign -/
def CDivG (_ j : Int) : Prop := j ≠ 0 ∧ j.natAbs < 2 ^ 1000
theorem op_fdivG {X : Cx} : OpR X (binaryOp .FloorDiv) (rI CDivG fun i j => .int (i.fdiv j)) := opI fun i j _ _ _ _ _ hc q =>
  floordiv_int hc.1 q (.inl (PyProof.noPylong_of_log2 (Nat.lt_of_lt_of_le (PySem.Flt.log2_lt_of (by decide) hc.2) (by decide))))
/-- the number of a numerator and a denominator other than 0, as data -/
def lowC (n d : Int) : Int := if d < 0 then -(Int.gcd n d : Int) else (Int.gcd n d : Int)
def lowD (n d : Int) : PyData := if d.fdiv (lowC n d) = 1 then .int (n.fdiv (lowC n d)) else .tuple [.int (n.fdiv (lowC n d)), .int (d.fdiv (lowC n d))]
theorem lowC_ne {n d : Int} (h : d ≠ 0) : lowC n d ≠ 0 := by
  have := gcd_pos (n := n) h
  unfold lowC
  split <;> omega
theorem lowC_le {n d : Int} (h : d ≠ 0) : (lowC n d).natAbs ≤ d.natAbs := by
  have := gcd_le (n := n) h
  unfold lowC
  split <;> omega
theorem lowC_dvd (n d : Int) : lowC n d ∣ n ∧ lowC n d ∣ d := by
  have h1 := Int.gcd_dvd_left n d
  have h2 := Int.gcd_dvd_right n d
  unfold lowC
  split
  · exact ⟨Int.neg_dvd.mpr h1, Int.neg_dvd.mpr h2⟩
  · exact ⟨h1, h2⟩
theorem fdiv_le {n c : Int} (hc : c ≠ 0) (h : c ∣ n) : (n.fdiv c).natAbs ≤ n.natAbs := by
  obtain ⟨k, rfl⟩ := h
  rw [Int.mul_fdiv_cancel_left _ hc, Int.natAbs_mul]
  exact Nat.le_mul_of_pos_left _ (by omega)
/-- the same by a law's own words: the denominator is made positive first -/
def ratN (n d : Int) : Int := if d < 0 then -n else n
def ratL (d : Int) : Int := if d < 0 then -d else d
def ratD (n d : Int) : PyData := if ratL d = (Int.gcd (ratN n d) (ratL d) : Int) then .int ((ratN n d).fdiv (Int.gcd (ratN n d) (ratL d) : Int)) else .tuple [.int ((ratN n d).fdiv (Int.gcd (ratN n d) (ratL d) : Int)), .int ((ratL d).fdiv (Int.gcd (ratN n d) (ratL d) : Int))]
theorem rat_gcd (n d : Int) : Int.gcd (ratN n d) (ratL d) = Int.gcd n d := by
  unfold ratN ratL
  split
  · rw [Int.gcd_neg, Int.neg_gcd]
  · rfl
theorem rat_div {n d : Int} (h : d ≠ 0) : (ratN n d).fdiv (Int.gcd n d : Int) = n.fdiv (lowC n d) ∧ (ratL d).fdiv (Int.gcd n d : Int) = d.fdiv (lowC n d) := by
  have hp := gcd_pos (n := n) h
  have hg : (Int.gcd n d : Int) ≠ 0 := by omega
  obtain ⟨x, hx⟩ := Int.gcd_dvd_left n d
  obtain ⟨y, hy⟩ := Int.gcd_dvd_right n d
  generalize hG : (Int.gcd n d : Int) = G at *
  have hC : lowC n d = if d < 0 then -G else G := by
    unfold lowC
    rw [hG]
  unfold ratN ratL
  rw [hC]
  by_cases hd : d < 0
  · rw [if_pos hd, if_pos hd, if_pos hd]
    have n1 : -n = G * -x := by rw [hx, Int.mul_neg]
    have d1 : -d = G * -y := by rw [hy, Int.mul_neg]
    have n2 : n = -G * -x := by rw [hx, Int.neg_mul_neg]
    have d2 : d = -G * -y := by rw [hy, Int.neg_mul_neg]
    have e1 : (-n).fdiv G = -x := by rw [n1, Int.mul_fdiv_cancel_left _ hg]
    have e2 : (-d).fdiv G = -y := by rw [d1, Int.mul_fdiv_cancel_left _ hg]
    have e3 : n.fdiv (-G) = -x := by
      rw [n2]
      exact Int.mul_fdiv_cancel_left _ (by omega)
    have e4 : d.fdiv (-G) = -y := by
      rw [d2]
      exact Int.mul_fdiv_cancel_left _ (by omega)
    rw [e1, e2, e3, e4]
    exact ⟨rfl, rfl⟩
  · rw [if_neg hd, if_neg hd, if_neg hd]
    exact ⟨rfl, rfl⟩
theorem ratD_eq {n d : Int} (h : d ≠ 0) : ratD n d = lowD n d := by
  have hp := gcd_pos (n := n) h
  obtain ⟨e1, e2⟩ := rat_div (n := n) h
  unfold ratD lowD
  rw [rat_gcd, e1, e2]
  have key : (ratL d = (Int.gcd n d : Int)) ↔ (d.fdiv (lowC n d) = 1) := by
    rw [← e2]
    have hv : (Int.gcd n d : Int) ∣ ratL d := by
      unfold ratL
      split
      · exact Int.dvd_neg.mpr (Int.gcd_dvd_right n d)
      · exact Int.gcd_dvd_right n d
    obtain ⟨k, hk⟩ := hv
    rw [hk, Int.mul_fdiv_cancel_left _ (by omega)]
    constructor
    · intro q
      have q2 : (Int.gcd n d : Int) * k = (Int.gcd n d : Int) * 1 := by rw [q, Int.mul_one]
      exact Int.eq_of_mul_eq_mul_left (by omega) q2
    · rintro rfl
      rw [Int.mul_one]
  by_cases c : d.fdiv (lowC n d) = 1
  · rw [if_pos (key.mpr c), if_pos c]
  · rw [if_neg (fun q => c (key.mp q)), if_neg c]
/-! ## new data -/
/-- what H' has and H has not -/
def nw (H H' : Hp) : Hp := fun b => match H b with
  | some _ => none
  | none => H' b
theorem nw_at {H H' : Hp} {b : Addr} (h : H b = none) : nw H H' b = H' b := by
  unfold nw
  rw [h]
theorem nw_get {H H' : Hp} {b : Addr} {o : HO} (h : nw H H' b = some o) : H b = none ∧ H' b = some o := by
  cases e : H b with
  | none =>
    rw [nw_at e] at h
    exact ⟨rfl, h⟩
  | some u =>
    unfold nw at h
    rw [e] at h
    cases h
/-- data that lie in what is new -/
def Fresh (K : PySem.W.Frag) (H H' : Hp) (v : V) (d : PyData) : Prop := Dq K (nw H H') v d
theorem nw_same {H H' : Hp} : Same (nw H H') H' := fun _ _ h => (nw_get h).2
theorem nw_off {H H' : Hp} {a : Addr} (h : H a ≠ none) : Same (nw H H') (off H' a) := fun b o g => by
  obtain ⟨h1, h2⟩ := nw_get g
  have n : b ≠ a := fun e => by
    rw [e] at h1
    exact h h1
  rw [off_ne n]
  exact h2
theorem nw_mono {H H1 H' H2 : Hp} (s : ∀ b, H1 b = none → H b = none) (t : ∀ b o, H1 b = none → H' b = some o → H2 b = some o) : Same (nw H1 H') (nw H H2) := fun b o g => by
  obtain ⟨h1, h2⟩ := nw_get g
  rw [nw_at (s b h1)]
  exact t b o h1 h2
theorem same_none {H H' : Hp} (s : Same H H') : ∀ b, H' b = none → H b = none := fun b h => s.free h
theorem Fresh.dq {K : PySem.W.Frag} {H H' : Hp} {v : V} {d : PyData} (h : Fresh K H H' v d) : Dq K H' v d := Dq.same nw_same h
theorem Fresh.away {K : PySem.W.Frag} {H H' : Hp} {v : V} {d : PyData} {a : Addr} (h : Fresh K H H' v d) (ha : H a ≠ none) : Dq K (off H' a) v d := Dq.same (nw_off ha) h
theorem Fresh.later {K : PySem.W.Frag} {H H' H2 : Hp} {v : V} {d : PyData} (h : Fresh K H H' v d) (s : Same H' H2) : Fresh K H H2 v d := Dq.same (nw_mono (fun _ e => e) fun b o _ e => s b o e) h
theorem Fresh.sooner {K : PySem.W.Frag} {H H0 H' : Hp} {v : V} {d : PyData} (h : Fresh K H H' v d) (s : Same H0 H) : Fresh K H0 H' v d := Dq.same (nw_mono (same_none s) fun b o _ e => e) h
mutual
def slim : PyData → Bool
  | .list xs => decide (xs.length ≤ 900) && slimAll xs
  | .tuple xs => decide (xs.length ≤ 900) && slimAll xs
  | .dict (_ :: _) => false
  | _ => true
def slimAll : List PyData → Bool
  | [] => true
  | x :: xs => slim x && slimAll xs
end
theorem slim_at : ∀ {ds : List PyData} {d : PyData}, slimAll ds = true → d ∈ ds → slim d = true
  | [], _, _, h => nomatch h
  | x :: xs, d, h, hd => by
    have h' : (slim x && slimAll xs) = true := by simpa only [slimAll] using h
    rw [Bool.and_eq_true] at h'
    rcases List.mem_cons.mp hd with rfl | hd
    · exact h'.1
    · exact slim_at h'.2 hd
theorem depth_at : ∀ {ds : List PyData} {d : PyData}, d ∈ ds → d.depth ≤ PyData.depthAll ds
  | [], _, h => nomatch h
  | x :: xs, d, hd => by
    simp only [PyData.depthAll]
    rcases List.mem_cons.mp hd with rfl | hd
    · omega
    · have := depth_at (ds := xs) hd
      omega
theorem dqall_snoc {K : PySem.W.Frag} {H : Hp} : ∀ {vs : List V} {ds : List PyData} {v : V} {d : PyData}, DqAll K H vs ds → Dq K H v d → DqAll K H (vs ++ [v]) (ds ++ [d])
  | _, _, _, _, .nil, h => .cons h .nil
  | _, _, _, _, .cons h g, q => .cons h (dqall_snoc g q)
theorem dq_get {K : PySem.W.Frag} {H : Hp} : ∀ {vs : List V} {ds : List PyData} {i : Nat} {v : V}, DqAll K H vs ds → vs[i]? = some v → ∃ d, ds[i]? = some d ∧ Dq K H v d
  | _, _, _, _, .nil, e => by simp at e
  | _, _, 0, _, .cons h _, e => by
    simp at e
    subst e
    exact ⟨_, rfl, h⟩
  | _, _, i + 1, v, .cons _ g, e => by
    obtain ⟨d, h1, h2⟩ := dq_get g (i := i) (v := v) (by simpa using e)
    exact ⟨d, by simpa using h1, h2⟩
theorem dq_len {K : PySem.W.Frag} {H : Hp} : ∀ {vs : List V} {ds : List PyData}, DqAll K H vs ds → vs.length = ds.length
  | _, _, .nil => rfl
  | _, _, .cons _ g => congrArg Nat.succ (dq_len g)
end Lw

set_option Elab.async false
set_option linter.all false
set_option maxRecDepth 100000
set_option maxHeartbeats 2000000
namespace Lw
open PySem PySem.Spec PyProof.Rows L2
/-! ## the text of an integer -/
def iTx (i : Int) : Str := Str.ofString (toString i)
def sgnL (i : Int) : List Nat := if i < 0 then 45 :: TL.numL i.natAbs else TL.numL i.natAbs
theorem tl_iTx (i : Int) : TL.tl (iTx i) = sgnL i := by
  unfold iTx sgnL
  by_cases h : i < 0
  · have e : (0 : Int) - i = ((i.natAbs : Nat) : Int) := by omega
    have n := TL.tl_num i.natAbs
    rw [if_pos h, toString_neg h, e]
    rw [TL.tl_ofString] at n ⊢
    rw [String.toList_append, List.map_append, n]
    rfl
  · rw [if_neg h]
    have e : i = ((i.natAbs : Nat) : Int) := by omega
    conv => lhs; rw [e]
    exact TL.tl_num i.natAbs
def digN (c : Nat) : Bool := decide (48 ≤ c) && decide (c ≤ 57)
theorem digits_tl : ("0123456789" : Str).cps.toList = [48, 49, 50, 51, 52, 53, 54, 55, 56, 57] := by decide +kernel
theorem dig_mem (c : Nat) : decide (c ∈ ("0123456789" : Str).cps.toList) = digN c := by
  rw [digits_tl]
  unfold digN
  rw [Bool.eq_iff_iff, Bool.and_eq_true, decide_eq_true_eq, decide_eq_true_eq, decide_eq_true_eq]
  simp only [List.mem_cons, List.not_mem_nil, or_false]
  omega
theorem digN_iff {c : Nat} : digN c = true ↔ 48 ≤ c ∧ c ≤ 57 := by
  unfold digN
  rw [Bool.and_eq_true, decide_eq_true_eq, decide_eq_true_eq]
theorem all_dig {l : List Nat} : l.all digN = true ↔ NumText.AllDigits l := by
  rw [List.all_eq_true]
  exact ⟨fun h c hc => digN_iff.mp (h c hc), fun h c hc => digN_iff.mpr (h c hc)⟩
/-- behind a minus sign -/
def cut1 : List Nat → List Nat
  | 45 :: r => r
  | l => l
def minus1 : List Nat → Bool
  | 45 :: _ => true
  | _ => false
theorem cut_yes {l : List Nat} (h : minus1 l = true) : l = 45 :: cut1 l := by
  unfold minus1 at h
  split at h
  · rfl
  · cases h
theorem cut_no {l : List Nat} (h : minus1 l = false) : cut1 l = l := by
  unfold minus1 at h
  split at h
  · cases h
  · rename_i n
    unfold cut1
    split
    · exact absurd rfl (n _)
    · rfl
theorem minus_dig {l : List Nat} (h : NumText.AllDigits l) : minus1 l = false := by
  unfold minus1
  split
  · have := h 45 (List.mem_cons_self ..)
    omega
  · rfl
/-- the texts of integers, and what they say -/
def itx (l : List Nat) : Bool := decide (l = [48]) || (decide (cut1 l ≠ []) && (decide ((cut1 l).head? ≠ some 48) && (cut1 l).all digN))
def ivl (l : List Nat) : Int := if minus1 l = true then -((NumText.digitsVal (cut1 l) : Nat) : Int) else ((NumText.digitsVal (cut1 l) : Nat) : Int)
theorem ofNat_dig {c : Nat} (h1 : 48 ≤ c) (h2 : c ≤ 57) : (Char.ofNat c).toNat = c := by
  have e : c = 48 ∨ c = 49 ∨ c = 50 ∨ c = 51 ∨ c = 52 ∨ c = 53 ∨ c = 54 ∨ c = 55 ∨ c = 56 ∨ c = 57 := by omega
  rcases e with rfl | rfl | rfl | rfl | rfl | rfl | rfl | rfl | rfl | rfl <;> rfl
theorem back_dig : ∀ {l : List Nat}, NumText.AllDigits l → (l.map Char.ofNat).map Char.toNat = l
  | [], _ => rfl
  | c :: r, h => by
    have hc := h c (List.mem_cons_self ..)
    rw [List.map_cons, List.map_cons, ofNat_dig hc.1 hc.2, back_dig fun x hx => h x (List.mem_cons_of_mem _ hx)]
theorem num_back {c : Nat} {r : List Nat} (h : NumText.AllDigits (c :: r)) (h0 : c ≠ 48) : TL.numL (NumText.digitsVal (c :: r)) = c :: r ∧ 0 < NumText.digitsVal (c :: r) := by
  have hc := h c (List.mem_cons_self ..)
  have e := NumText.toDigits_digitsVal r.length (c :: r) rfl h (.inr ⟨c, r, rfl, by omega⟩)
  refine ⟨?_, NumText.digitsVal_pos (by omega)⟩
  unfold TL.numL
  rw [e, back_dig h]
theorem itx_cases {l : List Nat} (h : itx l = true) : l = [48] ∨ ∃ c r, cut1 l = c :: r ∧ c ≠ 48 ∧ NumText.AllDigits (c :: r) := by
  unfold itx at h
  simp only [Bool.or_eq_true, Bool.and_eq_true, decide_eq_true_eq] at h
  rcases h with h | ⟨h1, h2, h3⟩
  · exact .inl h
  · cases e : cut1 l with
    | nil => exact absurd e h1
    | cons c r =>
      rw [e] at h2 h3
      exact .inr ⟨c, r, rfl, fun z => h2 (by rw [z]; rfl), all_dig.mp h3⟩
theorem sgn_zero : sgnL 0 = [48] := by
  show TL.numL 0 = [48]
  rw [TL.numL_lt (by decide)]
/-- a text of an integer is the text of what it says -/
theorem itx_num {l : List Nat} (h : itx l = true) : sgnL (ivl l) = l := by
  rcases itx_cases h with rfl | ⟨c, r, e, c0, hd⟩
  · show sgnL (((NumText.digitsVal [48] : Nat) : Int)) = [48]
    exact sgn_zero
  · obtain ⟨e1, p1⟩ := num_back hd c0
    unfold ivl
    rw [e]
    by_cases m : minus1 l = true
    · rw [if_pos m]
      unfold sgnL
      rw [if_pos (by omega), Int.natAbs_neg, Int.natAbs_natCast, e1]
      have := cut_yes m
      rw [e] at this
      exact this.symm
    · rw [if_neg m]
      unfold sgnL
      rw [if_neg (by omega), Int.natAbs_natCast, e1, ← e]
      exact cut_no (Bool.eq_false_iff.mpr m)
theorem itx_tx {z : Str} (h : itx (TL.tl z) = true) : iTx (ivl (TL.tl z)) = z := by
  refine TL.ext_tl ?_
  rw [tl_iTx]
  exact itx_num h
theorem cut_num (n : Nat) : minus1 (TL.numL n) = false ∧ cut1 (TL.numL n) = TL.numL n := ⟨minus_dig (TL.numL_digits n), cut_no (minus_dig (TL.numL_digits n))⟩
theorem ivl_sgn (i : Int) : ivl (sgnL i) = i := by
  unfold ivl sgnL
  by_cases h : i < 0
  · rw [if_pos h]
    show (if true = true then -((NumText.digitsVal (TL.numL i.natAbs) : Nat) : Int) else _) = i
    rw [if_pos rfl, TL.numL_val]
    omega
  · rw [if_neg h, (cut_num _).1, (cut_num _).2, if_neg (by decide), TL.numL_val]
    omega
theorem num_head : ∀ n : Nat, 0 < n → (TL.numL n).head? ≠ some 48 := by
  intro n
  induction n using Nat.strongRecOn with
  | _ n ih =>
    intro h
    by_cases l : n < 10
    · rw [TL.numL_lt l]
      show some (48 + n) ≠ some 48
      intro z
      have := Option.some.inj z
      omega
    · have q := ih (n / 10) (by omega) (by omega)
      rw [TL.numL_step (by omega)]
      have ne := TL.numL_ne (n / 10)
      revert q ne
      generalize TL.numL (n / 10) = l
      intro q ne
      cases l with
      | nil => exact absurd rfl ne
      | cons a r => exact q
theorem itx_sgn (i : Int) : itx (sgnL i) = true := by
  by_cases z : i = 0
  · subst z
    rw [sgn_zero]
    rfl
  · have c : cut1 (sgnL i) = TL.numL i.natAbs := by
      unfold sgnL
      by_cases h : i < 0
      · rw [if_pos h]
        rfl
      · rw [if_neg h]
        exact (cut_num _).2
    unfold itx
    rw [c, Bool.or_eq_true, Bool.and_eq_true, Bool.and_eq_true, decide_eq_true_eq, decide_eq_true_eq, decide_eq_true_eq]
    exact .inr ⟨TL.numL_ne _, num_head _ (by omega), all_dig.mpr (TL.numL_digits _)⟩
theorem sgn_free {i : Int} {c : Nat} (h : c = 47 ∨ c = 32 ∨ c = 10) : c ∉ sgnL i := by
  have n : c ∉ TL.numL i.natAbs := TL.numL_free (by omega)
  unfold sgnL
  split
  · intro z
    rcases List.mem_cons.mp z with z | z
    · omega
    · exact n z
  · exact n
theorem sgn_len {i : Int} {k : Nat} (hk : 0 < k) (h : i.natAbs < 10 ^ k) : (sgnL i).length ≤ k + 1 := by
  have := TL.numL_len hk h
  unfold sgnL
  split
  · rw [List.length_cons]
    omega
  · omega
theorem iTx_len {i : Int} {k : Nat} (hk : 0 < k) (h : i.natAbs < 10 ^ k) : (iTx i).length ≤ k + 1 := by
  rw [TL.len_tl, tl_iTx]
  exact sgn_len hk h
theorem sgn_ascii (i : Int) : ∀ c ∈ sgnL i, c < 128 := by
  have n : ∀ c ∈ TL.numL i.natAbs, c < 128 := fun c hc => by
    have := TL.numL_digits _ c hc
    omega
  unfold sgnL
  split
  · intro c hc
    rcases List.mem_cons.mp hc with rfl | hc
    · decide
    · exact n c hc
  · exact n
theorem fold_lt : ∀ (l : List Nat) (a : Nat), NumText.AllDigits l → l.foldl (fun acc c => acc * 10 + (c - 48)) a < (a + 1) * 10 ^ l.length
  | [], a, _ => by
    show a < (a + 1) * 1
    omega
  | c :: r, a, h => by
    have hc := h c (List.mem_cons_self ..)
    have ih := fold_lt r (a * 10 + (c - 48)) fun x hx => h x (List.mem_cons_of_mem _ hx)
    rw [List.foldl_cons, List.length_cons]
    refine Nat.lt_of_lt_of_le ih ?_
    rw [Nat.pow_succ, Nat.mul_comm (10 ^ r.length) 10, ← Nat.mul_assoc]
    exact Nat.mul_le_mul_right _ (by omega)
theorem ivl_lt {l : List Nat} {k : Nat} (h : itx l = true) (hl : l.length ≤ k) : (ivl l).natAbs < 10 ^ k := by
  have hd : NumText.AllDigits (cut1 l) := by
    rcases itx_cases h with rfl | ⟨c, r, e, c0, hd⟩
    · intro c hc
      cases List.mem_singleton.mp hc
      decide
    · rw [e]
      exact hd
  have cl : (cut1 l).length ≤ l.length := by
    unfold cut1
    split
    · rw [List.length_cons]
      omega
    · exact Nat.le_refl _
  have f := fold_lt (cut1 l) 0 hd
  have e : (ivl l).natAbs = NumText.digitsVal (cut1 l) := by
    unfold ivl
    split
    · rw [Int.natAbs_neg, Int.natAbs_natCast]
    · rw [Int.natAbs_natCast]
  rw [e]
  unfold NumText.digitsVal
  have p : (10 : Nat) ^ (cut1 l).length ≤ 10 ^ k := Nat.pow_le_pow_right (by decide) (by omega)
  omega
/-! ### removeprefix, startswith, slices, int -/
theorem dash_tl : TL.tl ("-" : Str) = [45] := by decide +kernel
theorem sub_dash (z : Str) : Builtin.Str.subAt z ("-" : Str) 0 = minus1 (TL.tl z) := by
  rw [StrLaws.subAt_eq]
  show ((TL.tl z).take (Str.length ("-" : Str)) == TL.tl ("-" : Str)) = _
  rw [dash_tl, TL.len_tl, dash_tl]
  cases TL.tl z with
  | nil => rfl
  | cons c r =>
    show ([c] == [45]) = _
    by_cases h : c = 45
    · subst h
      rfl
    · have e : minus1 (c :: r) = false := by
        unfold minus1
        split
        · rename_i q
          cases q
          exact absurd rfl h
        · rfl
      rw [e]
      simpa using h
theorem tl_cut (z : Str) : TL.tl (Txt.removeprefix z ("-" : Str)) = cut1 (TL.tl z) := by
  unfold Txt.removeprefix
  rw [sub_dash]
  by_cases m : minus1 (TL.tl z) = true
  · have e := cut_yes m
    have l : z.length = (cut1 (TL.tl z)).length + 1 := by
      rw [TL.len_tl]
      conv => lhs; rw [e]
      rfl
    rw [if_pos m]
    show TL.tl (if (z.length - Str.length ("-" : Str) == z.length) = true then z else Builtin.Str.strSub z (Str.length ("-" : Str)) z.length) = _
    have d1 : Str.length ("-" : Str) = 1 := by decide +kernel
    rw [d1, if_neg (by simp; omega), TL.tl_strSub_end]
    conv => lhs; rw [e]
    rfl
  · rw [if_neg m, cut_no (Bool.eq_false_iff.mpr m)]
    rfl
theorem starts_dash (z : Str) : Txt.startswith z ("-" : Str) = minus1 (TL.tl z) := by
  unfold Txt.startswith
  rw [sub_dash]
  by_cases m : minus1 (TL.tl z) = true
  · have e := cut_yes m
    have l : z.length = (cut1 (TL.tl z)).length + 1 := by
      rw [TL.len_tl]
      conv => lhs; rw [e]
      rfl
    have d1 : Str.length ("-" : Str) = 1 := by decide +kernel
    rw [m, Bool.and_true, d1]
    exact decide_eq_true (by omega)
  · rw [Bool.eq_false_iff.mpr m, Bool.and_false]
theorem tl_head1 (z : Str) : TL.tl (cutS z none (some 1)) = (TL.tl z).take 1 := by
  show ((TL.tl z).drop (HT.sIx z.length 0 none)).take (HT.sIx z.length z.length (some ((1 : Nat) : Int)) - HT.sIx z.length 0 none) = _
  rw [HT.sIx_none, HT.sIx_nat, List.drop_zero, Nat.sub_zero, TL.len_tl]
  cases TL.tl z with
  | nil => rfl
  | cons c r => rw [Nat.min_eq_left (by rw [List.length_cons]; omega)]
theorem tl_tail1 (z : Str) : TL.tl (cutS z (some 1) none) = (TL.tl z).drop 1 := by
  show ((TL.tl z).drop (HT.sIx z.length 0 (some ((1 : Nat) : Int)))).take (HT.sIx z.length z.length none - HT.sIx z.length 0 (some ((1 : Nat) : Int))) = _
  rw [HT.sIx_none, HT.sIx_nat, TL.len_tl]
  cases TL.tl z with
  | nil => rfl
  | cons c r =>
    rw [Nat.min_eq_left (by rw [List.length_cons]; omega)]
    show r.take (r.length + 1 - 1) = r
    exact List.take_length
theorem head_dash (z : Str) : decide (V.str (cutS z none (some 1)) = V.str ("-" : Str)) = minus1 (TL.tl z) := by
  have key : (V.str (cutS z none (some 1)) = V.str ("-" : Str)) ↔ (TL.tl z).take 1 = [45] := by
    rw [← tl_head1, ← dash_tl]
    exact ⟨fun h => by rw [V.str.inj h], fun h => congrArg V.str (TL.ext_tl h)⟩
  rw [Bool.eq_iff_iff, decide_eq_true_eq, key]
  cases TL.tl z with
  | nil =>
    constructor
    · intro h
      cases h
    · intro h
      cases h
  | cons c r =>
    show [c] = [45] ↔ _
    by_cases h : c = 45
    · subst h
      exact ⟨fun _ => rfl, fun _ => rfl⟩
    · have e : minus1 (c :: r) = false := by
        unfold minus1
        split
        · rename_i q
          cases q
          exact absurd rfl h
        · rfl
      rw [e]
      constructor
      · intro q
        cases q
        exact absurd rfl h
      · intro q
        cases q
theorem int_itx {z : Str} (h : itx (TL.tl z) = true) (hl : z.length ≤ 4300) : intText? z = some (ivl (TL.tl z)) := by
  rcases itx_cases h with e | ⟨c, r, e, c0, hd⟩
  · have d : NumText.AllDigits (TL.tl z) := by
      rw [e]
      intro c hc
      cases List.mem_singleton.mp hc
      decide
    rw [intText_digits (x := z) d (by show TL.tl z ≠ []; rw [e]; simp) hl]
    unfold ivl
    rw [minus_dig d, if_neg (by decide), cut_no (minus_dig d)]
  · unfold ivl
    by_cases m : minus1 (TL.tl z) = true
    · rw [if_pos m]
      have y := cut_yes m
      rw [e] at y ⊢
      exact intText_neg (x := z) (cs := c :: r) y hd (by simp) hl
    · have n := cut_no (Bool.eq_false_iff.mpr m)
      rw [if_neg m]
      rw [n] at e ⊢
      exact intText_digits (x := z) (by show NumText.AllDigits (TL.tl z); rw [e]; exact hd) (by show TL.tl z ≠ []; rw [e]; simp) hl
/-- one digit -/
theorem int_dig {c : Nat} (h : digN c = true) : intText? (⟨#[c]⟩ : Str) = some ((c : Int) - 48) := by
  have hc := digN_iff.mp h
  rw [intText_digits (x := ⟨#[c]⟩) (by
    intro d hd
    cases List.mem_singleton.mp (show d ∈ [c] from hd)
    exact hc) (by simp) (by show 1 ≤ 4300; decide)]
  show some ((0 * 10 + (c - 48) : Nat) : Int) = _
  congr 1
  omega
/-! ### cut at slashes -/
theorem slash_tl : TL.tl ("/" : Str) = [47] := by decide +kernel
theorem slash_ok : (("/" : Str).cps.all (· < 256)) = true := by decide +kernel
theorem split_len (z : Str) : (Txt.split z ("/" : Str)).length ≤ z.length + 1 := by
  have e := TL.split_spl z ("/" : Str) (by rw [slash_tl]; simp) (TL.kind_ok slash_ok)
  have l : (Txt.split z ("/" : Str)).length = ((Txt.split z ("/" : Str)).map TL.tl).length := by rw [List.length_map]
  rw [l, e, TL.len_tl, slash_tl]
  have key : ∀ (l acc : List Nat), (TL.spl [47] 0 acc l).length ≤ l.length + 1 := by
    intro l
    induction l with
    | nil => intro acc; rw [TL.spl_nil]; exact Nat.le_refl _
    | cons c r ih =>
      intro acc
      cases p : TL.pre [47] (c :: r) with
      | true =>
        rw [TL.spl_hit p, List.length_cons, List.length_cons]
        exact Nat.succ_le_succ (ih [])
      | false =>
        rw [TL.spl_miss p, List.length_cons]
        have := ih (acc ++ [c])
        omega
  exact key _ _
theorem split_ne (z : Str) : Txt.split z ("/" : Str) ≠ [] := by
  intro h
  have e := TL.split_spl z ("/" : Str) (by rw [slash_tl]; simp) (TL.kind_ok slash_ok)
  rw [h, slash_tl] at e
  have key : ∀ (l acc : List Nat), TL.spl [47] 0 acc l ≠ [] := by
    intro l
    induction l with
    | nil => intro acc; rw [TL.spl_nil]; simp
    | cons c r ih =>
      intro acc
      cases p : TL.pre [47] (c :: r) with
      | true => rw [TL.spl_hit p]; simp
      | false => rw [TL.spl_miss p]; exact ih _
  exact key _ _ e.symm
theorem join_len {y : Str} : ∀ {ws : List Str} {x : Str}, x ∈ ws → x.length ≤ (Str.join y ws).length
  | [], _, h => nomatch h
  | [a], x, h => by
    cases List.mem_singleton.mp h
    exact Nat.le_refl _
  | a :: b :: r, x, h => by
    show x.length ≤ (a ++ y ++ Str.join y (b :: r)).length
    rw [strLen_append, strLen_append]
    rcases List.mem_cons.mp h with rfl | h
    · omega
    · have := join_len (y := y) h
      omega
theorem split_part {z x : Str} (h : x ∈ Txt.split z ("/" : Str)) : x.length ≤ z.length := by
  have e := StrLaws.join_split z ("/" : Str)
  have := join_len (y := ("/" : Str)) h
  rw [e] at this
  exact this
/-! ### texts of small signs -/
theorem bytes_iTx (i : Int) : Bytes (iTx i) := fun c hc => by
  have := sgn_ascii i c (by rw [← tl_iTx]; exact hc)
  omega
theorem bytes_app {x y : Str} (h1 : Bytes x) (h2 : Bytes y) : Bytes (x ++ y) := fun c hc => by
  have e := TL.tl_append x y
  rw [show (x ++ y).cps.toList = TL.tl (x ++ y) from rfl, e] at hc
  rcases List.mem_append.mp hc with hc | hc
  · exact h1 c hc
  · exact h2 c hc
theorem bytes_cut {x : Str} {lo hi : Option Int} (h : Bytes x) : Bytes (cutS x lo hi) := fun c hc => h c (List.mem_of_mem_drop (List.mem_of_mem_take hc))
/-! ### a while that is not gone into -/
def tWhile0 (tc : TT) : TS := fun D σ H => tc σ H fun b H1 => b = false ∧ D.nx σ H1
theorem ps_while0 {X : Cx} {pos : Pos} {c : Expr} {body : List Stmt} {tc : TT} (hp : PassesOwn (model X.prog X.w) X.A X.env X.xe) (hc : PT X c tc) : PS X (.While c body [] pos) (tWhile0 tc) := by
  refine ⟨fun pins s σ H D I h => ?_⟩
  refine wpAny_While (codeAny_whileLoop (fun n s' => Inv X pins σ H s') ?_ 0 I)
  intro n s1 I1
  refine wpAny_passesOwn hp (thn (hc.run pins s1 σ H _ I1 h) fun b s2 hq => ?_)
  obtain ⟨H2, I2, rfl, q2⟩ := hq
  rw [if_neg Bool.false_ne_true]
  exact wpAny_execs_nil ⟨σ, H2, I2, q2⟩
end Lw

set_option Elab.async false
set_option linter.all false
set_option maxRecDepth 100000
set_option maxHeartbeats 2000000
namespace Lw
open PySem PySem.Spec PyProof.Rows L2
/-! ### what is shown -/
def shl (ts : List Str) : Nat := (ts.map fun t => t.length + 2).sum
theorem textFrom_le : ∀ (ts : List Str) (k : Nat) (acc : Str), (textFrom k acc ts).length ≤ acc.length + shl ts
  | [], k, acc => by
    show acc.length ≤ acc.length + _
    omega
  | t :: r, k, acc => by
    have ih := textFrom_le r (k + 1) (acc ++ (if k > 0 then ", " else "" : String) ++ t)
    have e : (acc ++ (if k > 0 then ", " else "" : String) ++ t).length ≤ acc.length + 2 + t.length := by
      rw [strLen_append, strLen_append]
      have : ((if k > 0 then ", " else "" : String) : Str).length ≤ 2 := by
        split <;> decide
      omega
    have e2 : shl (t :: r) = t.length + 2 + shl r := by
      unfold shl
      rw [List.map_cons, List.sum_cons]
    show (textFrom (k + 1) (acc ++ (if k > 0 then ", " else "" : String) ++ t) r).length ≤ _
    omega
theorem len_list (ts : List Str) : (listText ts).length ≤ 2 + shl ts := by
  have h := textFrom_le ts 0 "["
  unfold listText
  rw [strLen_append]
  have e1 : ("[" : Str).length = 1 := rfl
  have e2 : ("]" : Str).length = 1 := rfl
  omega
theorem len_tup2 (a b : Str) : (tupleText [a, b]).length = a.length + b.length + 4 := by
  show (("(" : Str) ++ (a ++ (", " : String) ++ b) ++ (")" : String)).length = _
  simp only [strLen_append]
  show 1 + (a.length + 2 + b.length) + 1 = _
  omega
theorem shown_all : ∀ (ds : List PyData), PyData.shownAll ds = ds.map PyData.shown
  | [] => rfl
  | d :: ds => by
    show d.shown :: PyData.shownAll ds = _
    rw [shown_all ds]
    rfl
theorem small_list {n : Nat} : ∀ {ds : List PyData}, (∀ d ∈ ds, Small n d ∧ d.depth ≤ 8) → Small (2 + ds.length * (n + 2)) (.list ds) := by
  intro ds h
  have h1 : ∀ ds : List PyData, (∀ d ∈ ds, Small n d ∧ d.depth ≤ 8) → PyData.showableAll ds = true ∧ shl (ds.map PyData.shown) ≤ ds.length * (n + 2) ∧ PyData.depthAll ds ≤ 8 := by
    intro ds
    induction ds with
    | nil => exact fun _ => ⟨rfl, Nat.zero_le _, Nat.zero_le _⟩
    | cons d ds ih =>
      intro h
      obtain ⟨i1, i2, i3⟩ := ih fun x hx => h x (List.mem_cons_of_mem _ hx)
      obtain ⟨j1, j2⟩ := h d List.mem_cons_self
      refine ⟨?_, ?_, ?_⟩
      · show (d.showable && PyData.showableAll ds) = true
        rw [j1.sh, i1]
        rfl
      · have e : shl ((d :: ds).map PyData.shown) = d.shown.length + 2 + shl (ds.map PyData.shown) := by
          unfold shl
          rw [List.map_cons, List.map_cons, List.sum_cons]
        have := j1.ln
        rw [e, List.length_cons, Nat.succ_mul]
        omega
      · simp only [PyData.depthAll]
        omega
  obtain ⟨a, b, c⟩ := h1 ds h
  refine ⟨a, ?_, ?_⟩
  · show (listText (PyData.shownAll ds)).length ≤ _
    rw [shown_all]
    have := len_list (ds.map PyData.shown)
    omega
  · simp only [PyData.depth]
    omega
theorem small_tup2 {a b : PyData} {n : Nat} (h1 : Small n a) (h2 : Small n b) (d1 : a.depth ≤ 8) (d2 : b.depth ≤ 8) : Small (2 * n + 4) (.tuple [a, b]) := by
  refine ⟨?_, ?_, ?_⟩
  · have e1 := h1.sh
    have e2 := h2.sh
    simp [PyData.showable, PyData.showableAll, e1, e2]
  · show (tupleText [a.shown, b.shown]).length ≤ _
    rw [len_tup2]
    have e1 := h1.ln
    have e2 := h2.ln
    omega
  · simp only [PyData.depth, PyData.depthAll]
    omega
theorem Small.line {n : Nat} {d : PyData} (h : Small n d) (e : n ≤ 100000) : d.showable = true ∧ d.shown.length ≤ sizeLine ∧ d.depth ≤ 60 :=
  ⟨h.sh, Nat.le_trans h.ln (Nat.le_trans e (by decide)), Nat.le_trans h.dp (by decide)⟩
end Lw

set_option Elab.async false
set_option linter.all false
set_option maxRecDepth 100000
set_option maxHeartbeats 4000000
namespace Lw
open PySem PySem.Spec PyProof.Rows L2
section
open PySem.W
variable {K : Frag} {x D : Addr} {ox : Obj} {od : Option Obj}
theorem find_data {C : Addr} {name : Str} {a g : Value} (hc : (clsIn K C).isSome = true) (ha : findIn K (.ref C) name = some (some a)) (hg : specialIn K a "__get__" = some (some g)) (ht : takesIn K a = some true) : findObj K C od name = some (.bind g a) := by
  cases od with
  | none => exact findObj_dataN hc ha hg ht
  | some o => exact findObj_data hc ha hg ht
/-- the class of an exception, whatever its dict -/
theorem class_exc (T : ExcC K D) {prog : Program} {w : World} {A : Around} {E : Value → Shared → Prop} {Q : Option Value → Shared → Prop} {s : Shared} (X : K.In s.heap) (I : InstAt s.heap x ox D od)
    (h : Q (some (.ref D)) { s with toks := s.toks + 1 }) : wpAny (model prog w) A (getAttr? (.ref x) "__class__") Q E s := by
  have hsome : (clsIn K D).isSome = true := by
    obtain ⟨cd, hc, _⟩ := any_some T.hd
    rw [hc]
    rfl
  have hf : findObj K D od "__class__" = some (.bind (.builtin "getset_descriptor.__get__") (.builtin "object.__class__")) := find_data hsome T.ha T.hn T.ht
  obtain ⟨hp, g, d, t, os⟩ := s
  have L0 := I.type (M := model prog w)
  have LG := looks_findIn (M := model prog w) X T.hg
  have LK := looks_findIn (M := model prog w) X T.hk
  have LF := looks_find (M := model prog w) X I hf
  have sub : Looks (model prog w) hp (isInstance (.ref x) (.type "BaseException")) true := L0.andThen (looks_subIn X T.hs)
  have n1 : (Value.builtin "BaseException.__getattribute__" == Value.builtin "object.__getattribute__") = false := by decide +kernel
  have n2 : (onTheHeap (Value.ref D) && Value.builtin "BaseException.__getattribute__" == Value.builtin "object.__getattribute__") = false := by
    rw [n1]
    rfl
  have n3 : (false && onTheHeap (Value.builtin "BaseException.__getattribute__")) = false := rfl
  unfold getAttr? getAttrBy? getAttrBy
  refine wpAny_bind (wpAny_mkText (wpAny_bind (wpAny_attempt (wpAny_holding (wpAny_bind (L0.at (wpAny_bind (LG.at ?_))))))))
  show wpAny _ _ (if (onTheHeap (Value.ref D) && Value.builtin "BaseException.__getattribute__" == Value.builtin "object.__getattribute__") = true then _ else _) _ _ _
  rw [n2, if_neg Bool.false_ne_true]
  unfold getAttrByItsOwn hookBefore
  refine wpAny_bind ?_
  rw [if_pos (show onTheHeap (Value.ref D) = true from rfl)]
  refine LK.at (wpAny_bind (wpAny_attempt (wpAny_holding ?_)))
  unfold callGetattribute
  rw [n3, if_neg Bool.false_ne_true]
  unfold boundAndCalled
  rw [PySem.F.excAttr_ValueError.ga.bind (.ref x)]
  refine wpAny_bind (wpAny_pure ?_)
  show wpAny _ _ (call (.builtin "BaseException.__getattribute__") [.ref x, .str "__class__" t]) _ _ _
  refine wpAny_call (codeAny_call_builtin PySem.F.excAttr_ValueError.ga.plain PySem.F.entry_bexc_ga ?_)
  refine @check_slot (model prog w) _ _ ⟨hp, g, d, t + 1, os⟩ "BaseException.__getattribute__" "BaseException" "__getattribute__" (.ref x) [.str "__class__" t] [] _ (by decide +kernel) (by decide +kernel) sub (PySem.F.args_bexc_ga (.ref x) (.str "__class__" t)) ?_
  unfold Builtin.«object.__getattribute__»
  refine wpAny_bind (wpAny_of_eq (a := ((Value.ref x : Value), [Value.str "__class__" t])) (by first | rfl | (simp only [slotArgs]; rfl)) ?_)
  refine wpAny_bind (wpAny_pure (wpAny_bind (L0.at (wpAny_bind (LF.at ?_)))))
  show wpAny _ _ (holding [Value.builtin "object.__class__"] (call (.builtin "getset_descriptor.__get__") [.builtin "object.__class__", .ref x, .ref D]) >>= ret) _ _ _
  refine wpAny_bind (wpAny_holding (wpAny_call (class_get (s := ⟨hp, g, d, t + 1, os⟩) (ox := ox) (od := od) X I T.hm ?_)))
  refine wpAny_pure ?_
  show wpAny _ _ (handedOut (.ref D)) _ _ _
  rw [handedOut_of (v := .ref D) rfl]
  first
    | exact wpAny_pure (wpAny_pure h)
    | exact wpAny_pure h
    | exact wpAny_pure (wpAny_bind (wpAny_pure (wpAny_pure h)))
theorem kit_exc (T : ExcC K D) : KitX K (.ref x) (.ref D) (fun h => InstAt h x ox D od) where
  ty := fun _ _ _ I => I.type
  it := fun _ _ X _ => by
    obtain ⟨cd, hc, _⟩ := any_some T.hd
    unfold clsIn at hc
    split at hc
    · rename_i c' d' cd' sl' ho
      intro A' Q' E' s' k q
      unfold isType loadHead
      exact wpAny_bind (wpAny_loadPart (k _ _ (X _ _ ho)) (wpAny_pure q))
    · cases hc
  ne := fun h tp dd its n sl X htp => by
    obtain ⟨cd, hc, _⟩ := any_some T.hd
    refine Bool.eq_false_iff.mpr fun q => ?_
    cases Value.ref.inj (beq_iff_eq.mp q)
    unfold clsIn at hc
    split at hc
    · rename_i c' d' cd' sl' ho
      have z := (X _ _ ho).symm.trans htp
      cases z
    · cases hc
  ca := fun X I k => class_exc T X I k
end
def excB (K : PySem.W.Frag) (D : Addr) : Bool :=
  decide (PySem.W.findIn K (.ref D) "__getattribute__" = some (some (.builtin "BaseException.__getattribute__"))) && (decide (PySem.W.findIn K (.ref D) "__getattr__" = some none) && (decide (PySem.W.subIn K (.ref D) (.type "BaseException") = some true) &&
    (PySem.W.hasDictIn K D && (decide (PySem.W.findIn K (.ref D) "__class__" = some (some (.builtin "object.__class__"))) && (decide (PySem.W.specialIn K (.builtin "object.__class__") "__get__" = some (some (.builtin "getset_descriptor.__get__"))) &&
      (decide (PySem.W.takesIn K (.builtin "object.__class__") = some true) && decide (PySem.W.mroIn K D (.type "object") = some true)))))))
theorem excB_ok {K : PySem.W.Frag} {D : Addr} (h : excB K D = true) : ExcC K D := by
  unfold excB at h
  simp only [Bool.and_eq_true, decide_eq_true_eq] at h
  obtain ⟨h1, h2, h3, h4, h5, h6, h7, h8⟩ := h
  exact ⟨h1, h2, h3, h4, h5, h6, h7, h8⟩
/-- isinstance(e, c), e the exception with a dict that the suite holds -/
def rIsX (K : PySem.W.Frag) (a : Addr) (cls : Value) (d : Option Addr) : List V → Hp → VK → Prop := fun xs H Q =>
  ∃ (D dx : Addr) (c : V) (cv : Value) (b : Bool) (fs : List (Str × V)), cls = .ref D ∧ d = some dx ∧ ExcC K D ∧ xs = [.ref a, c] ∧ ClsV c cv ∧ PySem.W.kitOne K (.ref D) cv = some b ∧ H dx = some (.xd fs) ∧ Q (.bl b) H
/-- isinstance(e, (c, ..)) -/
def rIsXT (K : PySem.W.Frag) (a : Addr) (cls : Value) (d : Option Addr) : List V → Hp → VK → Prop := fun xs H Q =>
  ∃ (D dx tp : Addr) (cs : List V) (us : List Value) (b : Bool) (fs : List (Str × V)), cls = .ref D ∧ d = some dx ∧ ExcC K D ∧ xs = [.ref a, .ref tp] ∧ H tp = some (.tup cs) ∧ Paired ClsV cs us ∧ PySem.W.kitAny K (.ref D) us = some b ∧ H dx = some (.xd fs) ∧ Q (.bl b) H
section
variable {X : Cx} {a : Addr} {oe : Obj} {cls : Value} {d : Option Addr} {pn : List (Addr × Obj)}
theorem inst_of {pins : List (Addr × Obj)} {σ : L2.St} {H : Hp} {s : Shared} {D dx : Addr} {fs : List (Str × V)} (I : Inv (X.suite a ((a, oe) :: pn)) pins σ H s) (hz : Zc (.ref D) (some dx) oe) (hf : ∃ vs, oe.data = .fields vs) (hx : H dx = some (.xd fs)) :
    ∃ od, PySem.W.InstAt s.heap a oe D (some od) := by
  obtain ⟨hget, _⟩ := I.pin (a, oe) (List.mem_append_left _ List.mem_cons_self)
  obtain ⟨mA, ⟨o, es, ep, ho, _⟩, _⟩ := (show ObjOk X.prog X.w H s.heap dx (.xd fs) from I.hok dx _ hx)
  obtain ⟨vs, hv⟩ := hf
  refine ⟨o, hget, hz.1, ?_, ?_⟩
  · unfold PySem.W.notCls
    rw [hv] <;> rfl
  · rw [hz.2]
    exact ho
theorem call_isX (hz : Zc cls d oe) (hf : ∃ vs, oe.data = .fields vs) : CallR (X.suite a ((a, oe) :: pn)) (.builtin "isinstance") (rIsX X.K a cls d) := by
  intro pins s σ H xs us Q I r h
  obtain ⟨D, dx, c, cv, b, fs, rfl, rfl, T, rfl, hc, e, hx, q⟩ := h
  obtain ⟨u1, u2, rfl, r1, r2⟩ := vals2 r
  cases (show u1 = Value.ref a from r1)
  cases hc.eq r2
  obtain ⟨od, J⟩ := inst_of I hz hf hx
  exact PySem.W.kia_one (kit_exc T) I.kIn J e (fun z => nomatch z) fun tk => ⟨.bl b, H, I.tok tk, rfl, q⟩
theorem call_isXT (hz : Zc cls d oe) (hf : ∃ vs, oe.data = .fields vs) : CallR (X.suite a ((a, oe) :: pn)) (.builtin "isinstance") (rIsXT X.K a cls d) := by
  intro pins s σ H xs us Q I r h
  obtain ⟨D, dx, tp, cs, ws, b, fs, rfl, rfl, T, rfl, hT, k, e, hx, q⟩ := h
  obtain ⟨u1, u2, rfl, r1, r2⟩ := vals2 r
  cases (show u1 = Value.ref a from r1)
  cases (show u2 = Value.ref tp from r2)
  obtain ⟨od, J⟩ := inst_of I hz hf hx
  obtain ⟨_, its, rv, o, h1, h2, n, h3⟩ := (show ObjOk X.prog X.w H s.heap tp (.tup cs) from I.hok tp _ hT)
  cases ClsV.all k rv
  obtain ⟨oc, odd, dt, sl⟩ := o
  simp only at h2 h3
  subst h2 h3
  exact PySem.W.kia_tup (kit_exc T) I.kIn J h1 e (fun z => nomatch z) fun tk => ⟨.bl b, H, I.tok tk, rfl, q⟩
end
/-- an own def that may raise, called in a try -/
structure OwnX (P : Program) (w : World) (K : PySem.W.Frag) (mg : Str → Option Value) (base : Heap) (k : Nat) (x : Str) (ps : List Str) (sp : Sp) (f : Addr) (fd : FuncData) : Prop where
  ok : FnOk P w K mg base (L2.CX P w) k f fd ps sp
  m : mg x = some (.ref f)
  kp : PySem.W.keepIn K (.ref f) = true
/-- a class of exceptions with its own __init__ -/
structure OwnE (P : Program) (w : World) (K : PySem.W.Frag) (mg : Str → Option Value) (base : Heap) (k : Nat) (x : Str) (ps : List Str) (sp : Sp) (C fI : Addr) (fd : FuncData) (tl : List Value) (newId : String) : Prop where
  t : ExcK K C tl newId
  i : PySem.W.findIn K (.ref C) "__init__" = some (some (.ref fI))
  ti : PySem.W.typeIn K (.ref fI) = some (.type "function")
  ok : FnOk P w K mg base CX0 k fI fd ps sp
  b : Binds K fd ps []
  m : mg x = some (.ref C)
theorem pmk_e {X : Cx} {k : Nat} {x : Str} {ps : List Str} {sp : Sp} {C fI : Addr} {fd : FuncData} {B newId initId : String} {tl : List Value} {e : Expr} {es : List Expr} {ta : TA} {p pos : Pos} (EB : ExB B newId initId tl) (O : OwnE X.prog X.w X.K X.mg X.base k x ps sp C fI fd tl newId) (hr : Room (k + 1) X.A) (ha : PA X (e :: es) ta)
    (hg : Gl X x := by rfl) (hdb : (x == ("__debug__" : Str)) = false := by decide) (he : starEach (e :: es) X.env = (false, eval e X.env) :: starEach es X.env := by rfl) (hpl : (backTo pos (starEach es X.env)).any (fun q => q.1) = false := by rfl) :
    PMk X (.Call (.Name x p) (e :: es) [] pos) (tMkO C sp [] ta) := pmk_b EB O.t O.i O.ti O.ok hr O.b pass0 O.m ha hg hdb he hpl
end Lw

set_option Elab.async false
set_option linter.all false
set_option maxRecDepth 100000
set_option maxHeartbeats 4000000
namespace Lw
open PySem PySem.Spec PyProof.Rows L2
/-! ## the head's facts: defs, classes of exceptions with an own __init__, one more Bool -/
/-- the `__init__` of the class that a name of the module stands for -/
structure IniD where
  cls : Str
  w : IniW
  B : String
  newId : String
  initId : String
abbrev IniV : Type := Option (Str × Str × Arguments × FuncBody × Scope × Addr × List Str × Value × Value × Option Addr × Addr)
def iniAt (K : PySem.W.Frag) (d : IniD) : Addr := He.ma K (He.ga K d.cls) "__init__"
def iniObs (K : PySem.W.Frag) (d : IniD) : IniV := match K.lookup (iniAt K d) with
  | some ⟨_, _, .func fd, _⟩ => some (fd.name, fd.qualname, fd.params, fd.body, fd.scope, fd.globals, fd.closure.map (fun q => q.1), fd.defaults, fd.kwdefaults, fd.annotations, fd.builtins)
  | _ => none
def IniD.val (d : IniD) : IniV := some (d.w.name, d.w.qual, d.w.params, .stmts d.w.body, d.w.scope, mainGlobals, [("__class__" : Str)], .none, .none, none, builtinsNs)
def fileB (K : PySem.W.Frag) (file : Str) (v : Value) : Bool := match v with
  | .ref c => (match K.lookup c with
    | some ⟨_, _, .fields vs, _⟩ => (match (vs[2]? : Option Value) with
      | some (.str x _) => file == x
      | _ => false)
    | _ => false)
  | _ => false
def cellB (K : PySem.W.Frag) (C : Addr) (cl : List (Str × Addr)) : Bool := match cl with
  | [(_, cc)] => (match K.lookup cc with
    | some ⟨_, _, .cell (some (.ref D)), _⟩ => decide (D = C)
    | _ => false)
  | _ => false
/-- what is asked of the class and its __init__, as one Bool -/
def iniB (K : PySem.W.Frag) (file : Str) (d : IniD) : Bool :=
  (match K.lookup (iniAt K d) with
  | some ⟨_, _, .func fd, _⟩ => PySem.W.codeIn K fd.code d.w.qual && (fileB K file fd.code && cellB K (He.ga K d.cls) fd.closure)
  | _ => false) && (clsB K (He.ga K d.cls) (tlOf d.B) d.newId && (He.eqO (PySem.W.nsIn K cStatics "thirdparty.any") (some none) && (He.eqO (PySem.W.ks_superIn K (He.ga K d.cls) (He.ga K d.cls) "__init__") (some (some (.builtin d.initId))) &&
    (decide (PySem.W.subIn K (.ref (He.ga K d.cls)) (.type d.B) = some true) && (decide (PySem.W.mroIn K (He.ga K d.cls) (.ref (He.ga K d.cls)) = some true) &&
      (He.eqO (PySem.W.findIn K (.ref (He.ga K d.cls)) "__init__") (some (some (.ref (iniAt K d)))) && (decide (PySem.W.typeIn K (.ref (iniAt K d)) = some (.type "function")) && He.eqO (PySem.W.nsIn K mainGlobals d.cls) (some (some (.ref (He.ga K d.cls)))))))))))
/-- what of it the words alone say -/
structure IniF (P : Program) (d : IniD) : Prop where
  top : (P.main.scope.names.lookup ("super" : Str)).isSome = false
  self : (d.w.params.posonlyargs ++ d.w.params.args).head?.map (fun a => a.arg) = some "self"
  kind : d.w.scope.kind = .function
  ksup : d.w.scope.names.lookup ("super" : Str) = some .globalImplicit
  kcls : d.w.scope.names.lookup ("__class__" : Str) = some .free
  kself : d.w.scope.names.lookup ("self" : Str) = some .local
theorem fileB_ok {K : PySem.W.Frag} {file : Str} {v : Value} (h : fileB K file v = true) : ∃ c, v = .ref c ∧ ∃ (ccl : Value) (cdd : Option Addr) (vs : Array Value) (ccs : Array (Option Value)) (x : Str) (tf : Tok), K.lookup c = some ⟨ccl, cdd, .fields vs, ccs⟩ ∧ vs[2]? = some (.str x tf) ∧ (file == x) = true := by
  unfold fileB at h
  split at h
  · rename_i c
    split at h
    · rename_i ccl cdd vs ccs e
      split at h
      · rename_i x tf e2
        exact ⟨c, rfl, ccl, cdd, vs, ccs, x, tf, e, e2, h⟩
      · cases h
    · cases h
  · cases h
theorem cellB_ok {K : PySem.W.Frag} {C : Addr} {cl : List (Str × Addr)} (h : cellB K C cl = true) : ∃ x cc, cl = [(x, cc)] ∧ ∃ (a : Value) (b : Option Addr) (c : Array (Option Value)), K.lookup cc = some ⟨a, b, .cell (some (.ref C)), c⟩ := by
  unfold cellB at h
  split at h
  · rename_i x cc
    split at h
    · rename_i a b D c e
      cases of_decide_eq_true h
      exact ⟨x, cc, rfl, a, b, c, e⟩
    · cases h
  · cases h
/-- the class and its __init__, as they stand -/
structure IniR (P : Program) (K : PySem.W.Frag) (mg : Str → Option Value) (d : IniD) (C f : Addr) (fd : FuncData) : Prop where
  t : ExcK K C (tlOf d.B) d.newId
  s : ∃ cc cda, IniK P K mg d.w f cc cda C d.B d.initId
  i : PySem.W.findIn K (.ref C) "__init__" = some (some (.ref f))
  ti : PySem.W.typeIn K (.ref f) = some (.type "function")
  lk : ∃ (oc : Value) (od : Option Addr) (osl : Array (Option Value)), K.lookup f = some ⟨oc, od, .func fd, osl⟩
  m : mg d.cls = some (.ref C)
  b : ∃ (cl : List (Str × Addr)) (doc pm cdv ct : Value), fd = PySem.W.fnX d.w.name d.w.qual d.w.params d.w.body d.w.scope cl .none .none doc pm none cdv ct
theorem ini_of {P : Program} {K : PySem.W.Frag} {mg : Str → Option Value} {h : Heap} {d : IniD} (X : K.In h) (G : h.Ns mainGlobals mg) (sup : mg "super" = none) (F : IniF P d) (e : iniObs K d = d.val) (c : iniB K (P.main.file : Str) d = true) : ∃ fd, IniR P K mg d (He.ga K d.cls) (iniAt K d) fd := by
  unfold iniB at c
  simp only [Bool.and_eq_true] at c
  obtain ⟨c1, c2, c3, c4, c5, c6, c7, c8, c9⟩ := c
  unfold iniObs at e
  cases q : K.lookup (iniAt K d) with
  | none =>
    rw [q] at c1
    cases c1
  | some o =>
    obtain ⟨oc, od, dt, osl⟩ := o
    rw [q] at c1 e
    cases dt with
    | func fd =>
      obtain ⟨n1, n2, n3, n4, n5, n6, n7, n8, n9, n10, n11, n12, n13, n14, n15⟩ := fd
      have e2 : (some (n1, n2, n3, n4, n5, n6, n7.map (fun q => q.1), n8, n9, n12, n15) : IniV) = some (d.w.name, d.w.qual, d.w.params, .stmts d.w.body, d.w.scope, mainGlobals, [("__class__" : Str)], .none, .none, none, builtinsNs) := e
      simp only [Option.some.injEq, Prod.mk.injEq] at e2
      obtain ⟨h1, h2, h3, h4, h5, h6, h7, h8, h9, h10, h11⟩ := e2
      subst h1 h2 h3 h4 h5 h6 h8 h9 h10 h11
      have c1' : (PySem.W.codeIn K n13 d.w.qual && (fileB K (P.main.file : Str) n13 && cellB K (He.ga K d.cls) n7)) = true := c1
      simp only [Bool.and_eq_true] at c1'
      obtain ⟨k1, k2, k3⟩ := c1'
      obtain ⟨cda, rfl, code⟩ := fileB_ok k2
      obtain ⟨x, cc, rfl, cell⟩ := cellB_ok k3
      have hx : x = ("__class__" : Str) := by
        have := h7
        simp only [List.map_cons, List.map_nil, List.cons.injEq, and_true] at this
        exact this
      subst hx
      refine ⟨_, clsB_ok c2, ⟨cc, cda, ⟨oc, n10, n11, n14, od, osl, q⟩, k1, code, cell, F.top, sup, F.self, F.kind, F.ksup, F.kcls, F.kself, He.eqO_ok c3, He.eqO_ok c4, of_decide_eq_true c5, of_decide_eq_true c6⟩, He.eqO_ok c7, of_decide_eq_true c8, ⟨oc, od, osl, q⟩, PySem.W.mg_of X G (He.eqO_ok c9), ⟨_, _, _, _, _, rfl⟩⟩
    | _ => cases c1
/-! ## the Hook -/
abbrev AlW : Type := He.AlD × Bool × List IniV
def asW (g : Addr → Option Obj) (n : Nat) : List Addr := cStatics :: He.asD g n
def obsW (file : Str) (fa : List He.Fa) (fn : List He.DefD) (is : List IniD) (ex : PySem.W.Frag → Bool) (K : PySem.W.Frag) : AlW := (He.obsD fa fn K, (is.all (fun d => iniB K file d)) && ex K, is.map fun d => iniObs K d)
def valW (fn : List He.DefD) (is : List IniD) : AlW := (He.valD fn, true, is.map IniD.val)
structure SaysW (file : Str) (fa : List He.Fa) (fn : List He.DefD) (is : List IniD) (ex : PySem.W.Frag → Bool) (K : PySem.W.Frag) : Prop where
  d : He.SaysD fa fn K
  i : ∀ x ∈ is, iniB K file x = true ∧ iniObs K x = x.val
  ex : ex K = true
theorem map_at {α β : Type} {f g : α → β} : ∀ {l : List α}, l.map f = l.map g → ∀ x ∈ l, f x = g x
  | [], _, _, h => nomatch h
  | a :: l, e, x, h => by
    simp only [List.map_cons, List.cons.injEq] at e
    rcases List.mem_cons.mp h with rfl | h
    · exact e.1
    · exact map_at e.2 x h
theorem saysW_of {file : Str} {fa : List He.Fa} {fn : List He.DefD} {is : List IniD} {ex : PySem.W.Frag → Bool} {K : PySem.W.Frag} (e : obsW file fa fn is ex K = valW fn is) : SaysW file fa fn is ex K := by
  have e1 : He.obsD fa fn K = He.valD fn := congrArg (fun z : AlW => z.1) e
  have e2 : ((is.all (fun d => iniB K file d)) && ex K) = true := congrArg (fun z : AlW => z.2.1) e
  have e3 : is.map (fun d => iniObs K d) = is.map IniD.val := congrArg (fun z : AlW => z.2.2) e
  obtain ⟨h1, h2⟩ := He.ba e2
  exact ⟨e1, fun x hx => ⟨List.all_eq_true.mp h1 x hx, map_at e3 x hx⟩, h2⟩
def obsWG (n : Nat) (file : Str) (fa : List He.Fa) (fn : List He.DefD) (is : List IniD) (ex : PySem.W.Frag → Bool) (g : Addr → Option Obj) : AlW := obsW file fa fn is ex (He.frG g (asW g n))
def hookW (n : Nat) (file : Str) (fa : List He.Fa) (fn : List He.DefD) (is : List IniD) (ex : PySem.W.Frag → Bool) : PySem.W.Hook where
  α := AlW
  obs := fun s => obsWG n file fa fn is ex s.heap.get?
  val := fun _ => valW fn is
  says := fun _ h => ∃ K : PySem.W.Frag, K.In h ∧ SaysW file fa fn is ex K
  of := fun _ _ e => ⟨_, He.frG_in, saysW_of e⟩
  keeps := fun _ _ _ ⟨K, hK, c⟩ k => ⟨K, PySem.W.Frag.In.keeps hK k, c⟩
theorem obsWG_eq {n : Nat} {file : Str} {fa : List He.Fa} {fn : List He.DefD} {is : List IniD} {ex : PySem.W.Frag → Bool} {g : Addr → Option Obj} {s : Shared} (h : ∀ a, g a = s.heap.get? a) : obsWG n file fa fn is ex g = (hookW n file fa fn is ex).obs s := by
  have e : g = s.heap.get? := funext h
  rw [e] <;> rfl
/-- what its words bind -/
theorem IniR.binds {P : Program} {K : PySem.W.Frag} {mg : Str → Option Value} {d : IniD} {C f : Addr} {fd : FuncData} {ps : List Str} (R : IniR P K mg d C f fd)
    (h : ∀ (cl : List (Str × Addr)) (doc pm cdv ct : Value) (us : List Value), us.length = ps.length → bindArgs (PySem.W.fnX d.w.name d.w.qual d.w.params d.w.body d.w.scope cl .none .none doc pm none cdv ct) ⟨us, []⟩ = pure (ps.zip us)) : Binds K fd ps [] := by
  obtain ⟨cl, doc, pm, cdv, ct, rfl⟩ := R.b
  exact .all fun us hl => h cl doc pm cdv ct us hl
end Lw

set_option Elab.async false
set_option linter.all false
set_option maxRecDepth 100000
set_option maxHeartbeats 4000000
namespace Lw
open PySem PySem.Spec PyProof.Rows L2
/-! ## own defs that may raise, called with values by place -/
structure OwnR (P : Program) (w : World) (K : PySem.W.Frag) (mg : Str → Option Value) (base : Heap) (k : Nat) (x : Str) (sp : Sp) (f : Addr) : Prop where
  ok : FnR P w K mg base (L2.CX P w) k f sp
  m : mg x = some (.ref f)
  kp : PySem.W.keepIn K (.ref f) = true
def tR (sp : Sp) (E : L2.St → XK) (t : TA) : TE := fun σ H Q => t σ H fun vs H1 => sp vs H1 Q (E σ)
theorem passF {X : Cx} : Passes (L2.CX X.prog X.w) X E0 := fun _ _ _ _ _ _ _ h => by
  obtain ⟨_, _, _, _, _, _, _, _, _, _, _, _, h⟩ := h
  exact h.elim
section
variable {X : Cx} {k : Nat} {f : Addr} {sp : Sp} {W : WX} {E : L2.St → XK} {x : Str} {p pos : Pos} {e : Expr} {es : List Expr} {t : TA}
theorem run_at {pins : List (Addr × Obj)} {σ : L2.St} {H : Hp} {s : Shared} {Q : VK} {us : List Value} {vs : List V} (F : FnR X.prog X.w X.K X.mg X.base (L2.CX X.prog X.w) k f sp) (hr : Room k X.A) (hx : PassesAt (L2.CX X.prog X.w) X σ (E σ))
    (I : Inv X pins σ H s) (r : Vals vs us) (h : sp vs H Q (E σ)) : wpAny (model X.prog X.w) X.A (call (.ref f) us) (EP X pins σ Q) X.xe s := by
  refine wpAny_call (codeAny_mono (F X.A X.stack s H us vs Q (E σ) hr I.env0 r h) fun res st hq => ?_)
  match res, hq with
  | .error ev, hq => exact hx pins H s ev st I hq
  | .ok (.ret _), hq => exact I.after hq
  | .ok .next, hq => exact False.elim hq
  | .ok .brk, hq => exact False.elim hq
  | .ok .cont, hq => exact False.elim hq
theorem pe_at (O : OwnR X.prog X.w X.K X.mg X.base k x sp f) (hx : ∀ σ, PassesAt (L2.CX X.prog X.w) X σ (E σ)) (hr : Room k X.A) (ha : PA X (e :: es) t) (hg : Gl X x := by rfl) (hdb : (x == ("__debug__" : Str)) = false := by decide)
    (he : starEach (e :: es) X.env = (false, eval e X.env) :: starEach es X.env := by rfl) (hpl : (backTo pos (starEach es X.env)).any (fun q => q.1) = false := by rfl) :
    PE X (.Call (.Name x p) (e :: es) [] pos) (tR sp E t) := by
  constructor
  intro pins s σ H Q I h
  refine wpAny_Call_Name_kw (ld_glob I hg O.m ?_ hdb)
  exact PySem.W.callWith_K (h₀ := X.base) I.ok.mod.kin O.kp (thn (ha.run pos pins s σ H _ I h) fun us s1 ⟨vs, H1, I1, r, q⟩ => ⟨I1.kIn, run_at O.ok hr (hx σ) I1 r q⟩) he hpl
theorem pe_at0 (O : OwnR X.prog X.w X.K X.mg X.base k x sp f) (hx : ∀ σ, PassesAt (L2.CX X.prog X.w) X σ (E σ)) (hr : Room k X.A) (hg : Gl X x := by rfl) (hdb : (x == ("__debug__" : Str)) = false := by decide) :
    PE X (.Call (.Name x p) [] [] pos) (tR sp E tNil) := by
  constructor
  intro pins s σ H Q I h
  refine wpAny_Call_Name_kw (ld_glob I hg O.m ?_ hdb)
  exact PySem.W.callWith_K0 I.kIn O.kp (run_at (us := []) O.ok hr (hx σ) I .nil h)
/-- what it raises is taken at the caller -/
theorem pe_ownR (O : OwnR X.prog X.w X.K X.mg X.base k x sp f) (tk : Takes X W) (hr : Room k X.A) (ha : PA X (e :: es) t) (hg : Gl X x := by rfl) (hdb : (x == ("__debug__" : Str)) = false := by decide)
    (he : starEach (e :: es) X.env = (false, eval e X.env) :: starEach es X.env := by rfl) (hpl : (backTo pos (starEach es X.env)).any (fun q => q.1) = false := by rfl) :
    PE X (.Call (.Name x p) (e :: es) [] pos) (tR sp (WE W) t) := pe_at O (fun σ => passAt tk σ) hr ha hg hdb he hpl
theorem pe_ownR0 (O : OwnR X.prog X.w X.K X.mg X.base k x sp f) (tk : Takes X W) (hr : Room k X.A) (hg : Gl X x := by rfl) (hdb : (x == ("__debug__" : Str)) = false := by decide) :
    PE X (.Call (.Name x p) [] [] pos) (tR sp (WE W) tNil) := pe_at0 O (fun σ => passAt tk σ) hr hg hdb
/-- it raises nothing here -/
theorem pe_ownF (O : OwnR X.prog X.w X.K X.mg X.base k x sp f) (hr : Room k X.A) (ha : PA X (e :: es) t) (hg : Gl X x := by rfl) (hdb : (x == ("__debug__" : Str)) = false := by decide)
    (he : starEach (e :: es) X.env = (false, eval e X.env) :: starEach es X.env := by rfl) (hpl : (backTo pos (starEach es X.env)).any (fun q => q.1) = false := by rfl) :
    PE X (.Call (.Name x p) (e :: es) [] pos) (tR sp (fun _ => E0) t) := pe_at O (fun σ pins H s ev st I c => passF pins σ H s ev st I c) hr ha hg hdb he hpl
theorem pe_ownF0 (O : OwnR X.prog X.w X.K X.mg X.base k x sp f) (hr : Room k X.A) (hg : Gl X x := by rfl) (hdb : (x == ("__debug__" : Str)) = false := by decide) :
    PE X (.Call (.Name x p) [] [] pos) (tR sp (fun _ => E0) tNil) := pe_at0 O (fun σ pins H s ev st I c => passF pins σ H s ev st I c) hr hg hdb
theorem pe_ownXW {fd : FuncData} {ps ks : List Str} {tk : TA} {kws : List Keyword} {g : List Value → List Value → List Value} {gV : List V → List V → List V} (O : OwnX X.prog X.w X.K X.mg X.base k x ps sp f fd) (hb : KBn X.K fd ps 0 ks g gV) (hr : Room k X.A) (hkw : PK X kws tk) (hg : Gl X x := by rfl)
    (hall : (backToKw pos (keywordEach kws X.env)).all (fun q => q.1.isSome) = true := by rfl)
    (hks : (backToKw pos (keywordEach kws X.env)).filterMap (fun q => q.1) = ks := by rfl)
    (hdb : (x == ("__debug__" : Str)) = false := by decide)
    (hpl : ((backTo pos (starEach [] X.env)).any (fun q => q.1) || (backToKw pos (keywordEach kws X.env)).any (fun q => q.1.isNone)) = false := by rfl) :
    PE X (.Call (.Name x p) [] kws pos) (tCallN 0 ks.length sp gV E0 tNil tk) := pe_callW O.ok hr hg O.m O.kp hb passF hkw hall hks hdb hpl
end
theorem ownR_of {P : Program} {w : World} {K : PySem.W.Frag} {mg : Str → Option Value} {base : Heap} {k : Nat} {x : Str} {ps : List Str} {sp : Sp} {f : Addr} {fd : FuncData} (F : FnOk P w K mg base (L2.CX P w) k f fd ps sp) (hb : Binds K fd ps []) (m : mg x = some (.ref f)) (kp : PySem.W.keepIn K (.ref f) = true) :
    OwnR P w K mg base k x sp f := ⟨fun A outer s H us vs Q E hr e0 r hs => (FnOk.raw F hb .nil) A outer s H us vs Q E hr e0 r (by show sp (vs ++ []) H Q E; rw [List.append_nil]; exact hs), m, kp⟩
def flip2 {α : Type} : List α → List α
  | [a, b] => [b, a]
  | _ => []
theorem flip_rel {vs : List V} {us : List Value} (h : Vals vs us) : Vals (flip2 vs) (flip2 us) := by
  match vs, us, h with
  | [], _, .nil => exact .nil
  | [_], _, .cons _ .nil => exact .nil
  | [_, _], _, .cons a (.cons b .nil) => exact .cons b (.cons a .nil)
  | _ :: _ :: _ :: _, _, .cons a (.cons b (.cons c d)) => exact .nil
/-- two keywords, in the other order -/
theorem kb2 {K : PySem.W.Frag} {y qual : Str} {params : Arguments} {body : List Stmt} {scope : Scope} {kw : List (Str × V)} {f : Addr} {fd : FuncData} {a b : Str} (F : FunD K y qual params body scope [] kw f fd)
    (h : ∀ (kV doc pm : Value) (an : Option Addr) (cdv ct u v : Value), bindArgs (PySem.W.fnOf y qual params body scope .none kV doc pm an cdv ct) ⟨[], [(b, u), (a, v)]⟩ = pure [(a, v), (b, u)]) :
    KBn K fd [a, b] 0 [b, a] (fun _ ws => flip2 ws) (fun _ zs => flip2 zs) := by
  obtain ⟨oc, od, dV, kV, doc, pm, an, cdv, ct, osl, rfl, lk, hcd, hD, hK⟩ := F.ex
  rcases hD with ⟨_, rfl⟩ | ⟨e, _⟩
  · refine ⟨fun s us ws X l1 l2 => ?_, fun _ r => flip_rel r⟩
    match us, ws, l1, l2 with
    | [], [u, v], _, _ => exact .of_eq (h kV doc pm an cdv ct u v)
  · exact absurd rfl e
end Lw

set_option Elab.async false
set_option linter.all false
set_option maxRecDepth 100000
set_option maxHeartbeats 4000000
namespace Lw
open PySem PySem.Spec PyProof.Rows L2
section
variable {X : Cx}
/-- a list and the empty one -/
def rNeE (K : PySem.W.Frag) : R2 := fun x y H Q => ∃ (a b : Addr) (xs : List V), x = .ref a ∧ y = .ref b ∧ SqL K H a xs ∧ SqL K H b [] ∧ Q (.bl (!xs.isEmpty)) H
theorem op_neE (hu : X.A.units + 64 < cLine) : OpR X (compareOp .NotEq) (rNeE X.K) := by
  intro pins s σ H x y v u Q I rx ry h
  obtain ⟨a, b, xs, rfl, rfl, ha, hb, q⟩ := h
  cases (show v = Value.ref a from rx)
  cases (show u = Value.ref b from ry)
  obtain ⟨its, rv, ⟨o, n, ho, hc, _, hd⟩, _⟩ := I.list ha
  obtain ⟨its2, rv2, ⟨o2, n2, ho2, hc2, _, hd2⟩, _⟩ := I.list hb
  cases rv2
  have l1 : s.heap.IsList a its.toArray := ⟨o, ho, hc, n, hd⟩
  have l2 : s.heap.IsList b (([] : List Value).toArray) := ⟨o2, ho2, hc2, n2, hd2⟩
  cases rv with
  | nil => exact PySem.SeqAt.RcNeAt.lists (e := fun _ => true) l1 l2 rfl (by omega) (fun j h1 _ => absurd h1 (Nat.not_lt_zero _)) X.prog X.w X.xe _ ⟨.bl _, H, I, rfl, q⟩
  | cons r1 r2 => exact PySem.SeqAt.RcNeAt.lists_lengths l1 l2 rfl (by omega) X.prog X.w X.xe _ ⟨.bl _, H, I, rfl, q⟩
/-- x is True -/
def rIsB : R2 := fun x y H Q => ∃ b c : Bool, x = .bl b ∧ y = .bl c ∧ Q (.bl (b == c)) H
theorem op_isB : OpR X (compareOp .Is) rIsB := by
  intro pins s σ H x y v u Q I rx ry h
  obtain ⟨b, c, rfl, rfl, q⟩ := h
  cases rx
  cases ry
  exact is_bool ⟨.bl _, H, I, rfl, q⟩
/-- a list of bools counted -/
def rCountB (K : PySem.W.Frag) : V → List V → Hp → VK → Prop := fun x vs H Q => ∃ (a : Addr) (bs : List Bool) (c : Bool), x = .ref a ∧ vs = [.bl c] ∧ SqL K H a (bs.map V.bl) ∧ Q (.int ((bs.countP fun b => b == c : Nat) : Int)) H
theorem reads_bools {h : Heap} : ∀ {bs : List Bool} {us : List Value}, Vals (bs.map V.bl) us → ∃ as, ReadsAll h us (bs.map PyData.bool) as
  | [], _, .nil => ⟨_, .nil⟩
  | b :: bs, _, .cons r rs => by
    cases r
    obtain ⟨as, q⟩ := reads_bools (h := h) rs
    exact ⟨_, .cons (.bool b) q⟩
theorem count_bools {bs : List Bool} {c : Bool} : (bs.map PyData.bool).countP (fun y => PyData.eqv y (.bool c)) = bs.countP fun b => b == c := by
  rw [List.countP_map]
  rfl
theorem plain_bools : ∀ bs : List Bool, PyData.plainAll (bs.map PyData.bool) = true
  | [] => rfl
  | b :: bs => by
    show (PyData.plain (.bool b) && PyData.plainAll (bs.map PyData.bool)) = true
    rw [plain_bools bs]
    rfl
theorem mt_countB (hu : X.A.units + 64 < cLine) : MtR X "list.count" (rCountB X.K) := by
  intro pins s σ H x vs v us Q I rx rv h
  obtain ⟨a, bs, c, rfl, rfl, ha, q⟩ := h
  cases (show v = Value.ref a from rx)
  obtain ⟨u, rfl, ru⟩ := vals1 rv
  cases (show u = Value.bool c from ru)
  obtain ⟨its, rs, ⟨o, n, ho, hc, _, hd⟩, _⟩ := I.list ha
  obtain ⟨as, r1⟩ := reads_bools (h := s.heap) rs
  refine PySem.SeqAt.count_list_data (l := a) (vs := its.toArray) (bs := []) ⟨o, ho, hc, n, hd⟩ (by simpa using r1) (.bool c) (plain_bools bs) rfl ?_ ?_
  · have : min (PyData.depthAll (bs.map PyData.bool)) (PyData.bool c).depth ≤ 0 := by
      simp [PyData.depth]
    omega
  · rw [count_bools]
    exact ⟨.int _, H, I.tok _, ⟨_, rfl⟩, q⟩
end
end Lw

set_option Elab.async false
set_option linter.all false
set_option maxRecDepth 100000
set_option maxHeartbeats 4000000
namespace Lw
open PySem PySem.Spec PyProof.Rows L2
/-! ## try with several named clauses, one of which takes what is raised -/
/-- an exception that has come down in the frame of the try -/
structure Land (X : Cx) (pins : List (Addr × Obj)) (x : Addr) (G : Heap) (cls : Value) (dc : Option Addr) (σ : L2.St) (H : Hp) (s0 s : Shared) : Prop where
  inv : Inv X pins σ H s0
  keep : ∀ b o, s0.heap.get? b = some o → b ∉ frs X.stack → G.get? b = some o
  up : s0.heap.UpToSlots s.heap
  fly : HandSPX.FlyingZ G (X.env :: X.outer) x (Zc cls dc) s.heap
  new : H x = none
  os : s.os = s0.os
  bare : AllBare s.gens
section
variable {X : Cx} {pins : List (Addr × Obj)} {x : Addr} {G : Heap} {cls : Value} {dc : Option Addr} {σ : L2.St} {H : Hp} {s0 s : Shared} {D : Ends} {cn n : Str} {c : Value} {i : Nat} {st0 : Stmt} {sts : List Stmt} {pn ph : Pos} {more : List ExceptHandler} {ts : Addr → Value → Option Addr → TS}
theorem Land.now (L : Land X pins x G cls dc σ H s0 s) : Inv X pins σ H s := L.inv.landed L.keep L.fly.1 L.up L.os L.bare
theorem Land.frame (L : Land X pins x G cls dc σ H s0 s) : x ∉ frs (X.env :: X.outer) := fun m => by
  obtain ⟨oe, vs, he, _, hd⟩ := L.fly.there
  obtain ⟨_, o2, e2, nf⟩ := L.fly.2.2.1.mem m
  cases he.symm.trans e2
  exact nf _ hd
theorem Land.calm (L : Land X pins x G cls dc σ H s0 s) (hf : X.env.frame = some X.env.locals) : x ≠ X.env.locals ∧ x ∉ X.fs := by
  have nf := L.frame
  constructor
  · rintro rfl
    exact nf (List.mem_filterMap.mpr ⟨X.env, List.mem_cons_self, hf⟩)
  · intro m
    obtain ⟨e, he, q⟩ := List.mem_filterMap.mp m
    exact nf (List.mem_filterMap.mpr ⟨e, List.mem_cons_of_mem _ he, q⟩)
theorem Land.test (L : Land X pins x G cls dc σ H s0 s) (hf : X.env.frame = some X.env.locals) (hc : Names X cn c) {Q E : Value → Shared → Prop} (h : Q c s) :
    wpAny (model X.prog X.w) (X.A.mark (some (.ref x))) (eval (.Name cn pn) X.env) Q E s := by
  obtain ⟨oe, vs, he, _, hd⟩ := L.fly.there
  obtain ⟨n1, n2⟩ := L.calm hf
  have S := L.now.suite he hd L.new n1 n2
  obtain ⟨g, db, m | ⟨m, bv, nn⟩⟩ := hc
  · exact ld_glob S g m h db
  · exact ld_blt S g m bv h nn db
theorem Land.looks (L : Land X pins x G cls dc σ H s0 s) {b : Bool} (he : PySem.W.exmOne X.K cls c = some b) {A : Around} {Q : Bool → Shared → Prop} {E : Value → Shared → Prop} (h : Q b s) :
    wpAny (model X.prog X.w) A (excMatches (.ref x) c) Q E s := by
  obtain ⟨oe, vs, ho, hz, _⟩ := L.fly.there
  have LT : PySem.W.Looks (model X.prog X.w) s.heap (typeOf (.ref x)) cls := fun A Q E s' k q => wpAny_typeOf_ref (k _ _ ho) (by rw [hz.1]; exact q)
  exact (PySem.W.exm_one (M := model X.prog X.w) L.now.kIn LT he).here h
/-- this clause is not for it -/
theorem Land.passes_by (L : Land X pins x G cls dc σ H s0 s) (hf : X.env.frame = some X.env.locals) {m : Option Str} (hc : Names X cn c) (he : PySem.W.exmOne X.K cls c = some false)
    (h : wpAny (model X.prog X.w) X.A (handleBy (.ref x) X.env more) (SP X pins D) X.xe s) :
    wpAny (model X.prog X.w) X.A (handleBy (.ref x) X.env (.ExceptHandler (some (.Name cn pn)) m sts ph :: more)) (SP X pins D) X.xe s := by
  refine wpAny_handleBy_cons (codeAny_handlers_test (L.test hf hc (L.looks he ?_))) (fun z => nomatch z)
  exact h
/-- this clause takes it -/
theorem Land.taken (L : Land X pins x G cls dc σ H s0 s) (hf : X.env.frame = some X.env.locals) (hN : X.N.Nodup) (hi : X.N[i]? = some n) (hl : X.env.kindOf n = some .local) (hc : Names X cn c) (he : PySem.W.exmOne X.K cls c = some true)
    (hsu : ∀ (a : Addr) (oe : Obj) (cls : Value) (d : Option Addr) (pn : List (Addr × Obj)), Zc cls d oe → (∃ vs, oe.data = .fields vs) → PSs (X.suite a ((a, oe) :: pn)) (st0 :: sts) (ts a cls d))
    (h : ts x cls dc { nx := fun σ' H' => D.nx (σ'.set i none) H', rt := D.rt, bk := fun σ' H' => D.bk (σ'.set i none) H', ct := fun σ' H' => D.ct (σ'.set i none) H' } (σ.set i (some (.ref x))) H) :
    wpAny (model X.prog X.w) X.A (handleBy (.ref x) X.env (.ExceptHandler (some (.Name cn pn)) (some n) (st0 :: sts) ph :: more)) (SP X pins D) X.xe s := by
  refine wpAny_handleBy_cons (codeAny_handlers_test (L.test hf hc (L.looks he ?_))) (fun z => nomatch z)
  refine codeAny_handlers_suite_as (HandSPX.lands_againZ L.fly fun h' fl up => ?_)
  have LL : Land X pins x G cls dc σ H s0 { s with heap := h' } := ⟨L.inv, L.keep, L.up.trans up, fl, L.new, L.os, L.bare⟩
  obtain ⟨n1, n2⟩ := LL.calm hf
  obtain ⟨oe, vs, ho, hz, hd⟩ := fl.there
  have S := LL.now.suite ho hd L.new n1 n2
  refine store_ok (X := X.suite x ((x, oe) :: (X.pn ++ pins))) (v := .ref x) S hN hi (.inl hl) rfl (fun s5 S5 => ?_) (.inr hl)
  refine wpAny_mono ((hsu x oe cls dc _ hz ⟨_, hd⟩).run [] s5 _ H _ S5 h) (fun fl6 s6 z => ?_) (fun _ _ z => False.elim z)
  have ends : ∀ {σ6 : L2.St} {H6 : Hp} {Q : Shared → Prop}, Inv (X.suite x ((x, oe) :: (X.pn ++ pins))) [] σ6 H6 s6 → (∀ s7, Inv X pins (σ6.set i none) H6 s7 → Q s7) →
      wpAny (model X.prog X.w) X.A (do bindName X.env n .none; unbindBehindTheSuite X.env n ph) (fun _ s7 => Q s7) X.xe s6 := fun I6 k => gone_ok (I6.unsuite L.inv.ok) hN hi hl k
  match fl6, z with
  | .next, ⟨σ6, H6, I6, q⟩ => exact ends I6 fun s7 I7 => ⟨_, _, I7, q⟩
  | .brk, ⟨σ6, H6, I6, q⟩ => exact ends I6 fun s7 I7 => ⟨_, _, I7, q⟩
  | .cont, ⟨σ6, H6, I6, q⟩ => exact ends I6 fun s7 I7 => ⟨_, _, I7, q⟩
  | .ret u, ⟨v, σ6, H6, I6, r, q⟩ => exact ends I6 fun s7 I7 => ⟨_, _, _, I7, r, q⟩
end
/-- what two clauses wish of what the body raises: one of them takes it -/
def wTwo (K : PySem.W.Frag) (c1 c2 : Value) (i : Nat) (t1 t2 : Addr → Value → Option Addr → TS) (D : Ends) : WX := fun cls d σ H =>
  (PySem.W.exmOne K cls c1 = some true ∧ ∀ a, H a = none → t1 a cls d { nx := fun σ' H' => D.nx (σ'.set i none) H', rt := D.rt, bk := fun σ' H' => D.bk (σ'.set i none) H', ct := fun σ' H' => D.ct (σ'.set i none) H' } (σ.set i (some (.ref a))) H) ∨
  (PySem.W.exmOne K cls c1 = some false ∧ PySem.W.exmOne K cls c2 = some true ∧ ∀ a, H a = none → t2 a cls d { nx := fun σ' H' => D.nx (σ'.set i none) H', rt := D.rt, bk := fun σ' H' => D.bk (σ'.set i none) H', ct := fun σ' H' => D.ct (σ'.set i none) H' } (σ.set i (some (.ref a))) H)
theorem ps_try_two {X : Cx} {n x1 x2 : Str} {c1 c2 : Value} {i : Nat} {body u1 u2 : List Stmt} {v1 v2 : Stmt} {q1 q2 p1 p2 pos : Pos} {tb : WX → TS} {t1 t2 : Addr → Value → Option Addr → TS}
    (hs : X.stack = X.env :: X.outer) (hf : X.env.frame = some X.env.locals) (hN : X.N.Nodup) (hi : X.N[i]? = some n) (hl : X.env.kindOf n = some .local) (m1 : Names X x1 c1) (m2 : Names X x2 c2)
    (hb : ∀ (W : WX) (pn : List (Addr × Obj)) (xe : Value → Shared → Prop), Takes (X.tr pn xe) W → PSs (X.tr pn xe) body (tb W))
    (h1 : ∀ (a : Addr) (oe : Obj) (cls : Value) (d : Option Addr) (pn : List (Addr × Obj)), Zc cls d oe → (∃ vs, oe.data = .fields vs) → PSs (X.suite a ((a, oe) :: pn)) (v1 :: u1) (t1 a cls d))
    (h2 : ∀ (a : Addr) (oe : Obj) (cls : Value) (d : Option Addr) (pn : List (Addr × Obj)), Zc cls d oe → (∃ vs, oe.data = .fields vs) → PSs (X.suite a ((a, oe) :: pn)) (v2 :: u2) (t2 a cls d)) :
    PS X (.Try body [.ExceptHandler (some (.Name x1 q1)) (some n) (v1 :: u1) p1, .ExceptHandler (some (.Name x2 q2)) (some n) (v2 :: u2) p2] [] [] pos) (fun D σ H => tb (wTwo X.K c1 c2 i t1 t2 D) D σ H) := by
  constructor
  intro pins s σ H D I h
  have ok := I.ok
  refine wpAny_Try_except ?_
  have run := (hb (wTwo X.K c1 c2 i t1 t2 D) (X.pn ++ pins) (fun e s1 => wpAny (model X.prog X.w) X.A (noteFrame e X.env) (fun _ s2 => wpAny (model X.prog X.w) X.A (setFlight e none) (fun _ s3 =>
    wpAny (model X.prog X.w) X.A (handleBy e X.env [.ExceptHandler (some (.Name x1 q1)) (some n) (v1 :: u1) p1, .ExceptHandler (some (.Name x2 q2)) (some n) (v2 :: u2) p2]) (SP X pins D) X.xe s3) X.xe s2) X.xe s1) ?_).run [] s σ H D (I.toTry _) h
  · refine wpAny_mono run (fun fl s1 z => ?_) (fun _ _ z => z)
    match fl, z with
    | .next, ⟨σ1, H1, I1, q⟩ => exact wpAny_execs_nil ⟨σ1, H1, I1.ofTry ok, q⟩
    | .brk, ⟨σ1, H1, I1, q⟩ => exact ⟨σ1, H1, I1.ofTry ok, q⟩
    | .cont, ⟨σ1, H1, I1, q⟩ => exact ⟨σ1, H1, I1.ofTry ok, q⟩
    | .ret u, ⟨v, σ1, H1, I1, r, q⟩ => exact ⟨v, σ1, H1, I1.ofTry ok, r, q⟩
  · intro u s' t
    obtain ⟨a, G, s0, pins', σ', H', cls, d, rfl, I', nb, up, sky, na, os, ag, wish⟩ := t
    have J : Inv X pins σ' H' s0 := I'.ofTry ok
    have sky2 : Sky G (X.env :: X.outer) a (Zc cls d) X.env.locals s'.heap := hs ▸ sky
    refine Sky.land (M := model X.prog X.w) Zc.steady (by rw [ok.frames, hs]) hf sky2 fun h3 fl3 up3 => ?_
    have L : Land X pins a G cls d σ' H' s0 { s' with heap := h3 } := ⟨J, nb, up.trans up3, fl3, na, os, ag⟩
    rcases wish with ⟨e1, k⟩ | ⟨e1, e2, k⟩
    · exact L.taken hf hN hi hl m1 e1 h1 (k a na)
    · exact L.passes_by hf m1 e1 (L.taken hf hN hi hl m2 e2 h2 (k a na))
end Lw

set_option Elab.async false
set_option linter.all false
set_option maxRecDepth 100000
set_option maxHeartbeats 4000000
namespace Lw
open PySem PySem.Spec PyProof.Rows L2
/-! ## displays of data that are new -/
def MkF (K : PySem.W.Frag) (te : TE) (d : PyData) : Prop := ∀ σ H (Q : VK), (∀ v H', Same H H' → Dq K (nw H H') v d → Q v H') → te σ H Q
def MkG (K : PySem.W.Frag) (ta : TA) (ds : List PyData) : Prop := ∀ σ H (Q : List V → Hp → Prop), (∀ vs H', Same H H' → vs.length = ds.length → DqAll K (nw H H') vs ds → Q vs H') → ta σ H Q
theorem nw_up {H H' H2 : Hp} (s : Same H' H2) : Same (nw H H') (nw H H2) := nw_mono (fun _ e => e) fun b o _ e => s b o e
theorem nw_down {H H0 H' : Hp} (s : Same H0 H) : Same (nw H H') (nw H0 H') := nw_mono (same_none s) fun b o _ e => e
section
variable {K : PySem.W.Frag}
theorem MkF.non : MkF K (tC .non) .none := fun _ H Q h => h _ H (Same.refl H) .non
theorem MkF.bl {b : Bool} : MkF K (tC (.bl b)) (.bool b) := fun _ H Q h => h _ H (Same.refl H) (.bl b)
theorem MkF.int {i : Int} : MkF K (tC (.int i)) (.int i) := fun _ H Q h => h _ H (Same.refl H) (.int i)
theorem MkF.str {x : Str} : MkF K (tC (.str x)) (.str x) := fun _ H Q h => h _ H (Same.refl H) (.str x)
theorem MkF.neg {i : Int} : MkF K (tUn (rU fun i => .int (-i)) (tC (.int i))) (.int (-i)) := fun _ H Q h => ⟨i, rfl, h _ H (Same.refl H) (.int _)⟩
theorem MkG.nil : MkG K tNil [] := fun _ H Q h => h _ H (Same.refl H) rfl .nil
theorem MkG.cons {te : TE} {ta : TA} {d : PyData} {ds : List PyData} (h1 : MkF K te d) (h2 : MkG K ta ds) : MkG K (tCons te ta) (d :: ds) := by
  intro σ H Q h
  exact h1 σ H _ fun v H1 s1 q1 => h2 σ H1 _ fun vs H2 s2 l2 q2 => h _ H2 (s1.trans s2) (congrArg Nat.succ l2) (.cons (Dq.same (nw_up s2) q1) (DqAll.same (nw_down s1) q2))
theorem nw_new {H H1 : Hp} {p : Addr} {o : HO} (s : Same H H1) (hp : H1 p = none) : nw H (upd H1 p o) p = some o := by
  rw [nw_at (s.free hp), upd_same]
theorem MkF.tup {ta : TA} {ds : List PyData} (h1 : MkG K ta ds) (hl : ds.length ≤ 1000 := by decide) : MkF K (tTup ta) (.tuple ds) := by
  intro σ H Q h
  refine h1 σ H _ fun vs H1 s1 l1 q1 => ⟨?_, fun p hp => h _ _ (s1.trans (same_upd hp)) ?_⟩
  · rw [l1]
    exact Nat.le_of_lt (small1000 hl)
  · exact .tup (.inl (.inl (nw_new s1 hp))) (DqAll.same (nw_up (same_upd hp)) q1)
theorem MkF.lst {ta : TA} {ds : List PyData} (h1 : MkG K ta ds) (hl : ds.length ≤ 1000 := by decide) : MkF K (tLst ta) (.list ds) := by
  intro σ H Q h
  refine h1 σ H _ fun vs H1 s1 l1 q1 => ⟨?_, fun p hp => h _ _ (s1.trans (same_upd hp)) ?_⟩
  · rw [l1]
    exact Nat.le_of_lt (small1000 hl)
  · exact .lst (.inl (.inl (nw_new s1 hp))) (DqAll.same (nw_up (same_upd hp)) q1)
theorem MkF.dict : MkF K tDNewK (.dict []) := by
  intro σ H Q h
  intro p hp
  exact h _ _ (same_upd hp) (.dic (nw_new (Same.refl H) hp))
theorem s_lstF {ta : TA} {ds : List PyData} {i : Nat} {u : TS} {D : Ends} {σ : L2.St} {H : Hp} (h : MkG K ta ds) (hl : ds.length ≤ 1000)
    (k : ∀ vs H1 p, Same H H1 → vs.length = ds.length → DqAll K (nw H H1) vs ds → H1 p = none → u D (σ.set i (some (.ref p))) (upd H1 p (.lst vs))) :
    tSeq (tAsg (tLst ta) (gName i)) u D σ H := by
  refine h σ H _ fun vs H1 s l d => ⟨?_, fun p np => k vs H1 p s l d np⟩
  rw [l]
  exact Nat.le_of_lt (small1000 hl)
theorem e_catF {ta : TA} {ds : List PyData} {i : Nat} {σ : L2.St} {H : Hp} {Q : VK} {t : Addr} {xs : List V} (h : MkG K ta ds) (hl : xs.length + ds.length ≤ 1000) (hi : σ[i]? = some (some (.ref t))) (ht : H t = some (.lst xs))
    (k : ∀ vs H1 p, Same H H1 → vs.length = ds.length → DqAll K (nw H H1) vs ds → H1 p = none → Q (.ref p) (upd H1 p (.lst (xs ++ vs)))) :
    tOp rCat (tVar i) (tLst ta) σ H Q := by
  refine ⟨.ref t, hi, h σ H _ fun vs H1 s l d => ⟨?_, fun p np => ⟨t, p, xs, vs, rfl, rfl, ?_, upd_same, ?_, fun p2 np2 => ?_⟩⟩⟩
  · rw [l]
    exact Nat.le_of_lt (small1000 (by omega))
  · rw [upd_ne (ne_of_none (s _ _ ht) np)]
    exact s _ _ ht
  · rw [l]
    exact Nat.le_of_lt (small1000 hl)
  · exact k vs (upd H1 p (.lst vs)) p2 (s.trans (same_upd np)) l (DqAll.same (nw_up (same_upd np)) d) np2
/-- what is new lies off two places that were -/
theorem nw_off2 {H H' : Hp} {a b : Addr} (ha : H a ≠ none) (hb : H b ≠ none) : Same (nw H H') (off (off H' a) b) := fun c o g => by
  obtain ⟨h1, h2⟩ := nw_get g
  have n1 : c ≠ a := fun e => ha (e ▸ h1)
  have n2 : c ≠ b := fun e => hb (e ▸ h1)
  rw [off_ne n2, off_ne n1]
  exact h2
/-- behind a draw, what is new is still new -/
theorem nw_draw {H H3 H4 : Hp} {a : Addr} (ha : H a ≠ none) (o : Off a H3 H4) : Same (nw H H3) (nw H H4) := fun b u g => by
  obtain ⟨h1, h2⟩ := nw_get g
  have n : b ≠ a := fun e => ha (e ▸ h1)
  rw [nw_at h1]
  exact o.get h2 n
/-- a place put anew -/
theorem off_put {H : Hp} {l : Addr} {o : HO} : off (upd H l o) l = off H l := by
  funext b
  by_cases h : b = l
  · subst h
    unfold off
    simp
  · rw [off_ne h, off_ne h, upd_ne h]
theorem off_swap {H : Hp} {a b : Addr} : off (off H a) b = off (off H b) a := by
  funext c
  unfold off
  by_cases h1 : c = a <;> by_cases h2 : c = b <;> simp [h1, h2]
end
end Lw

set_option Elab.async false
set_option linter.all false
set_option maxRecDepth 100000
set_option maxHeartbeats 4000000
namespace Lw
open PySem PySem.Spec PyProof.Rows L2 PySem.HandSPX
section
variable {M : Model} {A : Around} {E : Value → Shared → Prop} {h : Heap} {g : Array GenState} {d : Drawn} {t : Nat} {os : OsState}
variable {nm q : Str} {C N : Addr} {bs bm bmB : List Value} {hdct : Bool} {sn : List Str} {sub : List Value} {ab : Bool} {col : Option Bool} {dd : Option Addr} {k0 k1 k2 k3 k5 : Option Value} {B newId initId : String}
/-! ## an own exception, made by keywords -/
theorem check_new_kw (F : ExcBaseFacts B newId initId bmB) (hT : ∀ X : String, bm.contains (.type X) = bmB.contains (.type X)) {rest : List Value} {kw : List (Str × Value)} {Q : Unit → Shared → Prop}
    (hC : h.get? C = some (excClassObj nm q C N bs bm hdct sn sub ab col dd k0 k1 k2 k3 k5 newId)) (hq : Q () ⟨h, g, d, t, os⟩) : wpAny M A (checkBuiltinCall newId ⟨.ref C :: rest, kw⟩) Q E ⟨h, g, d, t, os⟩ := by
  have hcont : (Value.ref C :: bm).contains (.type B) = true := by rw [List.contains_cons, hT, F.hasB, Bool.or_true]
  have hstar := F.noStar
  simp only [checkBuiltinCall, F.newKind, F.newSplit, F.newRow]
  repeat (first | refine wpAny_loadPart_at hC ?_ | (refine wpAny_isSubtype_exc hC ?_; rw [hcont]) | refine wpAny_staticBase_exc hC ?_ | refine wpAny_madeBy_exc hC ?_ | simp only [bne_self_eq_false, Bool.false_eq_true, if_false] | wp_step)
  exact hq
theorem check_type_kw {rest : List Value} {kw : List (Str × Value)} {Q : Unit → Shared → Prop} (hC : h.get? C = some (excClassObj nm q C N bs bm hdct sn sub ab col dd k0 k1 k2 k3 k5 newId))
    (hq : Q () ⟨h, g, d, t, os⟩) : wpAny M A (checkBuiltinCall "type.__call__" ⟨.ref C :: rest, kw⟩) Q E ⟨h, g, d, t, os⟩ := by
  have f3 := tc_sub
  have hT : (⟨h, g, d, t, os⟩ : Shared).TypeIs (.ref C) "type" := ⟨_, hC, rfl⟩
  simp only [checkBuiltinCall, tc_kind, tc_split]
  repeat (any_goals (first | assumption | with_reducible refine wpAny_loadPart_at hC ?_ | with_reducible refine wpAny_onRaise ?_ | with_reducible refine wpAny_map ?_ | wp_step))
end
section
variable {prog : Program} {w : World} {A : Around} {E : Value → Shared → Prop} {R : Result → Shared → Prop} {h : Heap} {g : Array GenState} {d : Drawn} {t : Nat} {os : OsState}
variable {nm q : Str} {C N : Addr} {bs bm bmB : List Value} {hdct : Bool} {sn : List Str} {sub : List Value} {ab : Bool} {col : Option Bool} {dd : Option Addr} {k0 k1 k2 k3 k5 : Option Value} {B newId initId : String}
theorem new_kw (F : ExcBaseFacts B newId initId bmB) (hT : ∀ X : String, bm.contains (.type X) = bmB.contains (.type X)) {rest : List Value} {kw : List (Str × Value)}
    (hC : h.get? C = some (excClassObj nm q C N bs bm hdct sn sub ab col dd k0 k1 k2 k3 k5 newId))
    (hq : R (.ok (.ret (.ref (h.objs.size + 1)))) ⟨(h.push { cls := .type "tuple", data := .seq rest.toArray }).push
      { cls := .ref C, data := .fields #[.ref h.objs.size, .none, .none, .none, .bool false, .none] }, g, d, t, os⟩) (hrest : rest.length ≤ sizeLine) :
    codeAny (model prog w) A (.builtin newId ⟨.ref C :: rest, kw⟩) R ⟨h, g, d, t, os⟩ := by
  have hends := F.ends
  have hcB : (Value.ref C :: bm).contains (.type B) = true := by rw [List.contains_cons, hT, F.hasB, Bool.or_true]
  have hcA : (Value.ref C :: bm).contains (.type "AttributeError") = false := by rw [List.contains_cons, hT, F.noAttr]; rfl
  have hcN : (Value.ref C :: bm).contains (.type "NameError") = false := by rw [List.contains_cons, hT, F.noName]; rfl
  refine codeAny_builtinAt F.entry ?_
  unfold Builtin.«BaseException.__new__»
  refine PySem.wpAt_bind ?_
  show PySem.wpAt _ _ _ (stack >>= _) _ _ _
  refine PySem.wpAt_bind (PySem.wpAt_stack fun p below => PySem.wpAt_of_wpAny ?_)
  wp_walk
  refine PySem.wpAt_of_wpAny ?_
  rw [F.owner]
  repeat (first | with_reducible refine wpAny_madeHere_exc F.canon hC ?_ | with_reducible refine wpAny_loadPart_at hC ?_ | (with_reducible refine wpAny_isSubtype_exc hC ?_; first | rw [hcB] | rw [hcA] | rw [hcN]) | wp_step)
  show R _ _
  rw [Heap.size_push]
  exact hq
theorem type_call_kw (F : ExcBaseFacts B newId initId bmB) (hT : ∀ X : String, bm.contains (.type X) = bmB.contains (.type X)) {rest : List Value} {kw : List (Str × Value)} {fI : Addr} {Q : Fin → Shared → Prop}
    (hC : h.get? C = some (excClassObj nm q C N bs bm hdct sn sub ab col dd k0 k1 k2 k3 k5 newId))
    (hi : W.Looks (model prog w) h (typeLookup (.ref C) "__init__") (some (.ref fI))) (hb : ∀ self, W.Looks (model prog w) h (bindSpecial (.ref fI) self) (.ref fI, [self])) (hrest : rest.length ≤ sizeLine)
    (hq : codeAny (model prog w) A (.call (.ref fI) ⟨.ref (h.objs.size + 1) :: rest, kw⟩)
      (fun r s' => match r with | .ok (.ret v) => v = .none ∧ Q (.done (.ret (.ref (h.objs.size + 1)))) s' | .ok _ => False | .error e => E e s')
      ⟨(h.push (W.kdv_tup rest)).push (excO C h.objs.size), g, d, t, os⟩) :
    wpAny (model prog w) A (Builtin.«type.__call__» ⟨.ref C :: rest, kw⟩) Q E ⟨h, g, d, t, os⟩ := by
  repeat (first | with_reducible refine wpAny_loadPart_at hC ?_ | with_reducible refine wpAny_madeBy_exc hC ?_ | wp_step)
  refine codeAny_call_builtin_code (Code.quiet_builtin _ F.quiet) (check_new_kw F hT hC ?_)
  refine new_kw F hT hC ?_ hrest
  show wpAny _ _ _ _ _ _
  have k : ∀ b o, h.get? b = some o → ((h.push (W.kdv_tup rest)).push (excO C h.objs.size)).get? b = some o := fun b o e => Heap.get?_push_of_some _ (Heap.get?_push_of_some _ e)
  have hC₁ := k _ _ hC
  have hget : ((h.push (W.kdv_tup rest)).push (excO C h.objs.size)).get? (h.objs.size + 1) = some (excO C h.objs.size) := by heap_get
  have hcC : (Value.ref C :: bm).contains (.ref C) = true := by simp
  have i1 := hi.keeps k
  have b1 := (hb (.ref (h.objs.size + 1))).keeps k
  unfold isInstance
  repeat (first | with_reducible refine wpAny_loadPart_at hget ?_ | (with_reducible refine wpAny_isSubtype_exc hC₁ ?_; rw [hcC]) | wp_step)
  show wpAny _ _ (typeLookup (.ref C) _) _ _ _
  refine i1.at ?_
  refine wpAny_holding (wpAny_bind (b1.at ?_))
  refine wpAny_bind (wpAny_call (codeAny_mono hq fun r s' z => ?_))
  rcases r with e | (v | _ | _ | _) <;> first | exact z | exact z.elim | skip
  obtain ⟨rfl, z⟩ := z
  first
    | exact wpAny_pure (wpAny_pure z)
    | (wp_walk; exact z)
theorem call_kw (F : ExcBaseFacts B newId initId bmB) (hT : ∀ X : String, bm.contains (.type X) = bmB.contains (.type X)) {rest : List Value} {kw : List (Str × Value)} {fI : Addr}
    (hC : h.get? C = some (excClassObj nm q C N bs bm hdct sn sub ab col dd k0 k1 k2 k3 k5 newId))
    (hi : W.Looks (model prog w) h (typeLookup (.ref C) "__init__") (some (.ref fI))) (hb : ∀ self, W.Looks (model prog w) h (bindSpecial (.ref fI) self) (.ref fI, [self])) (hrest : rest.length ≤ sizeLine)
    (hq : codeAny (model prog w) (A.under (.builtin "type.__call__" ⟨.ref C :: rest, kw⟩)) (.call (.ref fI) ⟨.ref (h.objs.size + 1) :: rest, kw⟩) (W.InitBack (h.objs.size + 1) R)
      ⟨(h.push (W.kdv_tup rest)).push (excO C h.objs.size), g, d, t, os⟩) :
    codeAny (model prog w) A (.call (.ref C) ⟨rest, kw⟩) R ⟨h, g, d, t, os⟩ := by
  have f1 := tc_lookup
  have f2 := tc_bind (.ref C)
  have hTy : (⟨h, g, d, t, os⟩ : Shared).TypeIs (.ref C) "type" := ⟨_, hC, rfl⟩
  refine codeAny_of_tree ?_
  show wpAny _ _ (callAny (.ref C) _) _ _ _
  repeat (any_goals (first | assumption | with_reducible refine wpAny_loadPart_at hC ?_ | wp_step))
  refine ⟨rfl, ?_⟩
  refine codeAny_call_builtin_at (Code.quiet_builtin _ (by decide +kernel)) entry_typeCall (check_type_kw hC (type_call_kw F hT hC hi hb hrest ?_))
  refine codeAny_mono hq fun r s' z => ?_
  rcases r with e | (v | _ | _ | _) <;> exact z
end
end Lw

set_option Elab.async false
set_option linter.all false
set_option maxRecDepth 100000
set_option maxHeartbeats 4000000
namespace Lw
open PySem PySem.Spec PyProof.Rows L2
/-! ## exceptions as values -/
/-- an exception of the class at D -/
def IsE (H : Hp) (v : V) (D : Addr) : Prop := ∃ a, v = .ref a ∧ ((∃ (dx : Addr) (fs : List (Str × V)), H a = some (exo a D (some dx)) ∧ H dx = some (exd dx fs)) ∨ H a = some (ExO (.ref D) a))
theorem IsE.same {H H' : Hp} {v : V} {D : Addr} (h : IsE H v D) (s : Same H H') : IsE H' v D := by
  obtain ⟨a, e, ⟨dx, fs, h1, h2⟩ | h1⟩ := h
  · exact ⟨a, e, .inl ⟨dx, fs, s _ _ h1, s _ _ h2⟩⟩
  · exact ⟨a, e, .inr (s _ _ h1)⟩
section
variable {X : Cx} {pins : List (Addr × Obj)} {σ : L2.St} {H : Hp} {s : Shared}
theorem IsE.inst {a D : Addr} (I : Inv X pins σ H s) (h : IsE H (.ref a) D) : ∃ (ox : Obj) (od : Option Obj), PySem.W.InstAt s.heap a ox D od := by
  obtain ⟨b, e, h⟩ := h
  cases e
  rcases h with ⟨dx, fs, h1, h2⟩ | h1
  · obtain ⟨t1, ho⟩ := exo_at I.hok h1
    obtain ⟨mA, ⟨o, es, ep, e1, _⟩, _⟩ := exd_at I.hok h2
    exact ⟨_, some o, ho, rfl, rfl, e1⟩
  · obtain ⟨⟨oe, vs, e1, z, d, _⟩, _⟩ := (show ObjOk X.prog X.w H s.heap a (ExO (.ref D) a) from I.hok a _ h1)
    refine ⟨oe, none, e1, z.1, ?_, ?_⟩
    · unfold PySem.W.notCls
      rw [d] <;> rfl
    · rw [z.2]
      trivial
end
/-- isinstance(e, c) -/
def rIsE (K : PySem.W.Frag) : List V → Hp → VK → Prop := fun xs H Q => ∃ (v : V) (D : Addr) (c : V) (cv : Value) (b : Bool), xs = [v, c] ∧ IsE H v D ∧ ExcC K D ∧ ClsV c cv ∧ PySem.W.kitOne K (.ref D) cv = some b ∧ Q (.bl b) H
/-- isinstance(e, (c, ..)) -/
def rIsET (K : PySem.W.Frag) : List V → Hp → VK → Prop := fun xs H Q => ∃ (v : V) (D tp : Addr) (cs : List V) (us : List Value) (b : Bool), xs = [v, .ref tp] ∧ IsE H v D ∧ ExcC K D ∧ H tp = some (.tup cs) ∧ Paired ClsV cs us ∧ PySem.W.kitAny K (.ref D) us = some b ∧ Q (.bl b) H
section
variable {X : Cx}
theorem call_isE : CallR X (.builtin "isinstance") (rIsE X.K) := by
  intro pins s σ H xs us Q I r h
  obtain ⟨v, D, c, cv, b, rfl, hv, T, hc, e, q⟩ := h
  obtain ⟨u1, u2, rfl, r1, r2⟩ := vals2 r
  obtain ⟨a, rfl, _⟩ := id hv
  cases (show u1 = Value.ref a from r1)
  cases hc.eq r2
  obtain ⟨ox, od, J⟩ := hv.inst I
  exact PySem.W.kia_one (kit_exc T) I.kIn J e (fun z => nomatch z) fun tk => ⟨.bl b, H, I.tok tk, rfl, q⟩
theorem call_isET : CallR X (.builtin "isinstance") (rIsET X.K) := by
  intro pins s σ H xs us Q I r h
  obtain ⟨v, D, tp, cs, ws, b, rfl, hv, T, hT, k, e, q⟩ := h
  obtain ⟨u1, u2, rfl, r1, r2⟩ := vals2 r
  obtain ⟨a, rfl, _⟩ := id hv
  cases (show u1 = Value.ref a from r1)
  cases (show u2 = Value.ref tp from r2)
  obtain ⟨ox, od, J⟩ := hv.inst I
  obtain ⟨_, its, rv, o, h1, h2, n, h3⟩ := (show ObjOk X.prog X.w H s.heap tp (.tup cs) from I.hok tp _ hT)
  cases ClsV.all k rv
  obtain ⟨oc, odd, dt, sl⟩ := o
  simp only at h2 h3
  subst h2 h3
  exact PySem.W.kia_tup (kit_exc T) I.kIn J h1 e (fun z => nomatch z) fun tk => ⟨.bl b, H, I.tok tk, rfl, q⟩
/-- e.f of an exception -/
def tXfE (K : PySem.W.Frag) (f : Str) (te : TE) : TE := fun σ H Q => te σ H fun x H1 => ∃ (a D dx : Addr) (fs : List (Str × V)) (v : V), x = .ref a ∧ H1 a = some (exo a D (some dx)) ∧ H1 dx = some (exd dx fs) ∧ XfC K D ∧ PySem.W.findIn K (.ref D) f = some none ∧ fs.lookup f = some v ∧ Q v H1
theorem pe_xfE {e : Expr} {te : TE} {pos : Pos} {n : Str} (he : PE X e te) (hb : attributeBase e n X.env (eval e X.env) = eval e X.env := by rfl) : PE X (.Attribute e n pos) (tXfE X.K n te) := by
  refine ⟨fun pins s σ H Q I h => ?_⟩
  refine attr_of hb (thn (he.run pins s σ H _ I h) fun u s1 hh => ?_)
  obtain ⟨x, H1, I1, rx, a, D, dx, fs, v, ex, ea, ed, T, hno, l, q⟩ := hh
  subst ex
  obtain rfl : u = Value.ref a := rx
  obtain ⟨t1, ho⟩ := exo_at I1.hok ea
  obtain ⟨mA, hns, hr⟩ := exd_at I1.hok ed
  obtain ⟨od, hod, hl⟩ := lookIn_ns hns
  obtain ⟨u, hu, ru⟩ := RelO.some_of (v := v) (o := mA n) (by rw [← l]; exact hr n)
  have J : PySem.W.InstAt s1.heap a { cls := .ref D, dict := some dx, data := .fields #[.ref t1, .none, .none, .none, .bool false, .none] } D (some od) := ⟨ho, rfl, rfl, hod⟩
  exact PySem.HandSPX.exc_get I1.kIn J T.ga T.gg T.exC (PySem.W.findObj_own T.hdC hno rfl (by rw [hl, hu])) (handed_of ru) ⟨v, H1, I1.tok _, ru, q⟩
end
/-! ## made and held -/
def tMkV (C : Addr) (sp : Sp) (ta : TA) : TE := fun σ H Q => ta σ H fun vs H1 => vs.length ≤ 1000 ∧ ∀ a, H1 a = none → sp (.ref a :: vs) (upd H1 a (exo a C none)) (fun v H2 => v = .non ∧ Q (.ref a) H2) E0
def tMkW (C : Addr) (m : Nat) (sp : Sp) (gV : List V → List V → List V) (tk : TA) : TE := fun σ H Q => tk σ H fun zs H1 => zs.length = m ∧ ∀ a, H1 a = none → sp (gV [.ref a] zs) (upd H1 a (exo a C none)) (fun v H2 => v = .non ∧ Q (.ref a) H2) E0
section
variable {X : Cx} {k : Nat} {x : Str} {ps : List Str} {sp : Sp} {C fI : Addr} {fd : FuncData} {B newId initId : String} {tl : List Value} {e : Expr} {es : List Expr} {ta tk : TA} {p pos : Pos} {ks : List Str} {kws : List Keyword} {g : List Value → List Value → List Value} {gV : List V → List V → List V}
theorem run_mkV {pins : List (Addr × Obj)} {σ : L2.St} {H : Hp} {s : Shared} {Q : VK} {us : List Value} {kw : List (Str × Value)} {all : Addr → List Value} {vs : Addr → List V} (EB : ExB B newId initId tl) (O : OwnE X.prog X.w X.K X.mg X.base k x ps sp C fI fd tl newId) (hr : Room (k + 1) X.A) (I : Inv X pins σ H s) (hus : us.length ≤ sizeLine)
    (hb : ∀ (s' : Shared) (a : Addr), X.K.In s'.heap → BindsTo s' fd ⟨.ref a :: us, kw⟩ (ps.zip (all a))) (hv : ∀ a, Vals (vs a) (all a))
    (h : ∀ a, H a = none → sp (vs a) (upd H a (exo a C none)) (fun v H2 => v = .non ∧ Q (.ref a) H2) E0) : wpAny (model X.prog X.w) X.A (call (.ref C) us kw) (EP X pins σ Q) X.xe s := by
  obtain ⟨nm, N', qn, bs, bm, hdct, sn, sub, ab, col, dd, k0, k1, k2, k3, k5, hC, hT⟩ := PySem.W.excInit_of I.kIn O.t.ini
  obtain ⟨hp, gg, dr, tk, os⟩ := s
  generalize hA : hp.objs.size + 1 = A1
  have hsz : hp.objs.size ≤ A1 := by omega
  have hq := h A1 (I.hok.fresh hsz)
  have kk : ∀ b o, hp.get? b = some o → ((hp.push (PySem.W.kdv_tup us)).push (PySem.HandSPX.excO C hp.objs.size)).get? b = some o := fun b o e => Heap.get?_push_of_some _ (Heap.get?_push_of_some _ e)
  have hget : ((hp.push (PySem.W.kdv_tup us)).push (PySem.HandSPX.excO C hp.objs.size)).get? A1 = some (PySem.HandSPX.excO C hp.objs.size) := by
    rw [← hA]
    heap_get
  have I2 : Inv X pins σ (upd H A1 (exo A1 C none)) ⟨(hp.push (PySem.W.kdv_tup us)).push (PySem.HandSPX.excO C hp.objs.size), gg, dr, tk, os⟩ :=
    I.laid (t' := tk) (a := A1) (o := exo A1 C none) (h' := (hp.push (PySem.W.kdv_tup us)).push (PySem.HandSPX.excO C hp.objs.size)) kk hsz (exo_ok hget)
  refine wpAny_call (call_kw EB.fb hT hC (PySem.W.looks_findIn I.kIn O.i) (fun self => PySem.W.bind_fn I.kIn self O.ti) hus ?_)
  rw [hA]
  refine codeAny_mono (O.ok.run _ X.stack _ _ ⟨Value.ref A1 :: us, kw⟩ (all A1) _ _ E0 (hr.make C us kw) (I2.env0.make C us kw) (hb _ A1 I2.kIn) (hv A1) hq) fun r s' hq' => ?_
  match r, hq' with
  | .error er, hq' => exact pass0 pins σ _ _ er s' I2 hq'
  | .ok .next, hq' => exact False.elim hq'
  | .ok .brk, hq' => exact False.elim hq'
  | .ok .cont, hq' => exact False.elim hq'
  | .ok (.ret u), hq' =>
    obtain ⟨v, H', I3, rv, ev, q3⟩ := I2.after hq'
    subst ev
    exact ⟨rv, ⟨V.ref A1, H', I3, rfl, q3⟩⟩
theorem pe_mkV (EB : ExB B newId initId tl) (O : OwnE X.prog X.w X.K X.mg X.base k x ps sp C fI fd tl newId) (hr : Room (k + 1) X.A) (ha : PA X (e :: es) ta)
    (hg : Gl X x := by rfl) (hdb : (x == ("__debug__" : Str)) = false := by decide) (he : starEach (e :: es) X.env = (false, eval e X.env) :: starEach es X.env := by rfl) (hpl : (backTo pos (starEach es X.env)).any (fun q => q.1) = false := by rfl) :
    PE X (.Call (.Name x p) (e :: es) [] pos) (tMkV C sp ta) := by
  constructor
  intro pins s σ H Q I h
  refine wpAny_Call_Name_kw (ld_glob I hg O.m (PySem.W.callWith_K (h₀ := X.base) I.ok.mod.kin O.t.kC (thn (ha.run pos pins s σ H _ I h) fun us s1 hu => ?_) he hpl) hdb)
  obtain ⟨vs, H1, I1, r1, hz, q1⟩ := hu
  refine ⟨I1.kIn, ?_⟩
  have hus : us.length ≤ sizeLine := by
    rw [← Paired.length r1]
    exact Nat.le_of_lt (small1000 hz)
  refine run_mkV (all := fun a => .ref a :: us) (vs := fun a => .ref a :: vs) EB O hr I1 hus (fun s' a hk => ?_) (fun a => .cons rfl r1) q1
  have hl : (Value.ref a :: us).length = ps.length := by
    have n := O.ok.len _ _ _ _ (q1 (s1.heap.objs.size) (I1.hok.fresh (Nat.le_refl _)))
    rw [← n, List.length_cons, List.length_cons, Paired.length r1]
  have b := O.b s' (Value.ref a :: us) hk (by rw [List.append_nil]; exact hl)
  rw [List.append_nil] at b
  exact b
theorem pe_mkW (EB : ExB B newId initId tl) (O : OwnE X.prog X.w X.K X.mg X.base k x ps sp C fI fd tl newId) (hb : KBn X.K fd ps 1 ks g gV) (hr : Room (k + 1) X.A) (hkw : PK X kws tk)
    (hg : Gl X x := by rfl) (hall : (backToKw pos (keywordEach kws X.env)).all (fun q => q.1.isSome) = true := by rfl)
    (hks : (backToKw pos (keywordEach kws X.env)).filterMap (fun q => q.1) = ks := by rfl)
    (hdb : (x == ("__debug__" : Str)) = false := by decide)
    (hpl : ((backTo pos (starEach [] X.env)).any (fun q => q.1) || (backToKw pos (keywordEach kws X.env)).any (fun q => q.1.isNone)) = false := by rfl) :
    PE X (.Call (.Name x p) [] kws pos) (tMkW C ks.length sp gV tk) := by
  constructor
  intro pins s σ H Q I h
  refine wpAny_Call_Name_kw (ld_glob I hg O.m ?_ hdb)
  refine PySem.W.callWith_KW0 (h₀ := X.base) I.ok.mod.kin O.t.kC hall ?_ hpl
  refine thn (hkw.run pos pins s σ H _ I h) fun ws s2 hq => ?_
  obtain ⟨zs, H2, I2, rz, l2, q2⟩ := hq
  refine ⟨I2.kIn, ?_⟩
  rw [hks]
  have lw : ws.length = ks.length := by
    rw [← Paired.length rz]
    exact l2
  exact run_mkV (us := []) (kw := ks.zip ws) (all := fun a => g [.ref a] ws) (vs := fun a => gV [.ref a] zs) EB O hr I2 (Nat.zero_le _) (fun s' a hk => hb.to s' [.ref a] ws hk rfl lw) (fun a => hb.rel (.cons rfl .nil) rz) q2
/-- a class by its name -/
theorem pe_cls {c : Addr} (m : X.mg x = some (.ref c)) (hg : Gl X x := by rfl) (hd : (x == ("__debug__" : Str)) = false := by decide) : PE X (.Name x pos) (tC (.ref c)) := pe_glob (v := .ref c) hg m rfl hd
/-- a class of exceptions without an own __init__, called with nothing -/
theorem pe_exc0 {bmB : List Value} (F : ExcBaseFacts B newId initId bmB) (q : PySem.W.excIn X.K C bmB newId = true) (gC : X.mg x = some (.ref C)) (kC : PySem.W.keepIn X.K (.ref C) = true) (hg : Gl X x) (hdb : (x == ("__debug__" : Str)) = false := by decide) :
    PE X (.Call (.Name x p) [] [] pos) (fun σ H Q => ∀ a, H a = none → Q (.ref a) (upd H a (ExO (.ref C) a))) := by
  constructor
  intro pins s σ H Q I h
  refine wpAny_Call_Name_kw (ld_glob I hg gC (PySem.W.callWith_K0 I.kIn kC ?_) hdb)
  obtain ⟨bm, N, nm, qn, bs, hdct, sn, sub, ab, col, dd, k0, k1, k2, k3, k5, mN, hC, hN, hni, T⟩ := exc_obj I.kIn q
  refine wpAny_call_exc_subT F T hC hN hni (fun h' a hm => ?_) (by show 0 ≤ sizeLine; omega)
  have hn : H a = none := I.hok.gone hm.new
  obtain ⟨t, ht, _, _⟩ := hm.there
  exact ⟨.ref a, upd H a (ExO (.ref C) a), I.laidN hm.keeps hm.new hn (exO_ok ht ⟨rfl, rfl⟩ rfl rfl rfl (show 4 < 6 by decide)), rfl, h a hn⟩
end
/-! ## a further field -/
section
open PySem.Builtin PySem.Builtin.ObjectAttr
variable {prog : Program} {w : World} {A : Around} {R : Result → Shared → Prop} {hp : Heap} {g : Array GenState} {d : Drawn} {t : Nat} {os : OsState}
theorem osa_more {B newId initId : String} {tl : List Value} (EB : ExB B newId initId tl) {K : PySem.W.Frag} {name : Str} {tk : Tok} {v : Value} {x C dx : Addr} {fv : Array Value} {cd : ClassData} {m0 : Str → Option Value} {nl : List Str}
    (X : K.In hp) (hx : hp.get? x = some { cls := .ref C, dict := some dx, data := .fields fv }) (hns : hp.Ns1 dx m0) (hw : Within m0 nl) (hz : nl.length ≤ 1000) (hcd : PySem.W.clsIn K C = some cd) (hm : refsT tl cd.mro = true) (hh : cd.hasDict = true)
    (ha : PySem.W.findIn K (.ref C) name = some none)
    (hq : ∀ h' tk', (∀ b o, b ≠ dx → hp.get? b = some o → h'.get? b = some o) → h'.Ns1 dx (fun y => if y = name then some v else m0 y) → R (.ok (.ret .none)) ⟨h', g, d, tk', os⟩) :
    codeAny (model prog w) A (.call (.builtin "object.__setattr__") ⟨[.ref x, .str name tk, v], []⟩) R ⟨hp, g, d, t, os⟩ := by
  obtain ⟨hob, hne⟩ := refsT_obj EB _ hm
  obtain ⟨oD, esD, epD, hoD, hdD, _⟩ := hns.count hw
  have I : PySem.W.InstAt hp x { cls := .ref C, dict := some dx, data := .fields fv } C (some oD) := ⟨hx, rfl, rfl, hoD⟩
  have SF := F.store_object
  have hmro : PySem.W.mroIn K C (.type "object") = some true := by
    unfold PySem.W.mroIn
    rw [hcd, Option.bind_some, if_neg (by rw [hne]; decide), hob]
  have sub : PySem.W.Looks (model prog w) hp (isInstance (.ref x) (.type "object")) true := I.type.andThen (PySem.W.looks_mroIn X hmro)
  refine codeAny_call_builtin SF.slot.plain SF.entry (@PySem.W.check_slot (model prog w) _ _ ⟨hp, g, d, t, os⟩ "object.__setattr__" "object" "__setattr__" (.ref x) [.str name tk, v] [] _ SF.kind SF.split sub (SF.args (.ref x) (.str name tk) v) ?_)
  have hcls : PySem.W.Looks (model prog w) hp (classData C) cd := PySem.W.looks_clsIn X hcd
  have hmr : PySem.W.Looks (model prog w) hp (mroOf (.ref C)) cd.mro := hcls.andThen .now
  have L3 : PySem.W.Looks (model prog w) hp (storeTaker? none) none := .now
  rw [PySem.W.osa_eq, refuse_eq]
  refine wpAny_bind (wpAny_bind (I.type.at (wpAny_bind (hmr.at ?_))))
  rw [refsT_pass EB _ _ hm]
  refine wpAny_pure (wpAny_bind (I.type.at (wpAny_bind ((PySem.W.looks_findIn X ha).at (wpAny_bind (L3.at ?_))))))
  show wpAny _ _ (storeInOwnDict (.ref x) (.ref C) (.str name tk) name v false) _ _ _
  obtain ⟨nm, bs, mro, ns, qn, hd, sn, sb, ab, col, del⟩ := cd
  dsimp only at hh
  subst hh
  unfold storeInOwnDict ownDictForStores
  repeat (first | with_reducible refine PySem.OEX.store_in_old hns hw hz ?_ | with_reducible refine wpAny_loadPart_at hx ?_ | with_reducible refine hcls.at ?_ | wp_step)
  intro h' tk' hn' hs
  exact hq h' tk' (fun b o hb ho => (hs.2 b hb).trans ho) hn'
end
section
variable {X : Cx} {pins : List (Addr × Obj)} {σ : L2.St} {H : Hp} {s : Shared} {a C dx : Addr} {f : Str} {y : V} {u : Value} {fs : List (Str × V)} {E : Value → Shared → Prop} {A : Around} {B newId initId : String} {tl : List Value}
theorem ost_more (EB : ExB B newId initId tl) (T : ExcK X.K C tl newId) (I : Inv X pins σ H s) (e : H a = some (exo a C (some dx))) (ed : H dx = some (exd dx fs)) (hl : fs.length ≤ 900) (hno : PySem.W.findIn X.K (.ref C) f = some none) (ry : L2.RelV y u) {Q : Unit → Shared → Prop}
    (h : ∀ s', Inv X pins σ (upd H dx (exd dx ((f, y) :: fs))) s' → Q () s') : wpAny (model X.prog X.w) A (setAttr (.ref a) f u) Q E s := by
  obtain ⟨cd, hcd, hdict, hmro⟩ := T.cls
  obtain ⟨t1, ho⟩ := exo_at I.hok e
  obtain ⟨mA, hns, rel⟩ := exd_at I.hok ed
  have hw := within_of rel
  obtain ⟨hp, g, d, t, os⟩ := s
  obtain ⟨oD, _, _, hoD, _, _⟩ := hns.count hw
  refine PySem.W.set_plain I.kIn (ox := { cls := .ref C, dict := some dx, data := .fields #[.ref t1, .none, .none, .none, .bool false, .none] }) (od := some oD) ⟨ho, rfl, rfl, hoD⟩ T.sa ?_
  refine osa_more EB I.kIn ho hns hw (by rw [List.length_map]; omega) hcd hmro hdict hno (fun h' tk' k hn => ?_)
  have hd : ∃ o, h'.get? dx = some o := by
    obtain ⟨o, _, _, e', _⟩ := hn
    exact ⟨o, e'⟩
  exact h _ (I.write (t' := tk') (x := dx) (e := dx) (o := exd dx ((f, y) :: fs)) (by rw [ed]; exact True.intro) (.inl rfl) k hd (exd_ok hn (relO_put ry rel)))
end
def tOstM (K : PySem.W.Frag) (tl : List Value) (newId : String) (f : Str) (to te : TE) : TS := fun D σ H => te σ H fun y H1 => to σ H1 fun x H2 => ∃ (a C dx : Addr) (fs : List (Str × V)), x = .ref a ∧ ExcK K C tl newId ∧ PySem.W.findIn K (.ref C) f = some none ∧
  H2 a = some (exo a C (some dx)) ∧ H2 dx = some (exd dx fs) ∧ fs.length ≤ 900 ∧ D.nx σ (upd H2 dx (exd dx ((f, y) :: fs)))
theorem ps_ostM {X : Cx} {o e : Expr} {to te : TE} {f : Str} {p' pos : Pos} {B newId initId : String} {tl : List Value} (EB : ExB B newId initId tl) (ho : PE X o to) (he : PE X e te) (hs : swapsWith e (some (.Attribute o f p')) pos.line X.env = pure false := by rfl) : PS X (.Assign [.Attribute o f p'] e pos) (tOstM X.K tl newId f to te) := by
  constructor
  intro pins s σ H D I h
  refine plainObj_wpAny_Assign_Attribute (thn (he.run pins s σ H _ I h) fun v s1 hv => ?_) hs
  obtain ⟨y, H1, I1, r1, q1⟩ := hv
  refine thn (ho.run pins s1 σ H1 _ I1 q1) fun u s2 hu => ?_
  obtain ⟨x, H2, I2, r2, a, C, dx, fs, ex, T, hno, ea, ed, hl, q⟩ := hu
  subst ex
  cases (show u = Value.ref a from r2)
  exact ost_more EB T I2 ea ed hl hno r1 fun s' J => ⟨σ, _, J, q⟩
end Lw

set_option Elab.async false
set_option linter.all false
set_option maxRecDepth 100000
set_option maxHeartbeats 4000000
namespace Lw
open PySem PySem.Spec PyProof.Rows L2
/-! ## exceptions with fields that are data -/
def ExF (K : PySem.W.Frag) (H : Hp) (v : V) (D : Addr) (fd : List (Str × PyData)) : Prop := ∃ (a dx : Addr) (fs : List (Str × V)), v = .ref a ∧ H a = some (exo a D (some dx)) ∧ H dx = some (exd dx fs) ∧ ∀ f d, (f, d) ∈ fd → ∃ y, fs.lookup f = some y ∧ Dq K H y d
theorem ExF.same {K : PySem.W.Frag} {H H' : Hp} {v : V} {D : Addr} {fd : List (Str × PyData)} (h : ExF K H v D fd) (s : Same H H') : ExF K H' v D fd := by
  obtain ⟨a, dx, fs, e, h1, h2, h3⟩ := h
  refine ⟨a, dx, fs, e, s _ _ h1, s _ _ h2, fun f d hf => ?_⟩
  obtain ⟨y, l, q⟩ := h3 f d hf
  exact ⟨y, l, q.same s⟩
theorem ExF.isE {K : PySem.W.Frag} {H : Hp} {v : V} {D : Addr} {fd : List (Str × PyData)} (h : ExF K H v D fd) : IsE H v D := by
  obtain ⟨a, dx, fs, e, h1, h2, _⟩ := h
  exact ⟨a, e, .inl ⟨dx, fs, h1, h2⟩⟩
/-- what may be handed to an exception -/
structure Hx (d : PyData) : Prop where
  dp : d.depth ≤ 5
  sl : slim d = true
/-- the promise of an `__init__` that keeps its arguments as fields -/
def sp_init (K : PySem.W.Frag) (C : Addr) (fl : List Str) : Sp := fun vs H Q _ => ∃ (a : Addr) (xs : List V) (ds : List PyData), vs = .ref a :: xs ∧ xs.length = fl.length ∧ H a = some (exo a C none) ∧ DqAll K (off H a) xs ds ∧ (∀ d ∈ ds, Hx d) ∧
  ∀ H', Same (off H a) H' → ExF K H' (.ref a) C (fl.zip ds) → (∀ m, H m ≠ none → m ≠ a → DqAll K (off (off H a) m) xs ds → ExF K (off H' m) (.ref a) C (fl.zip ds)) → Q .non H'
theorem off_new1 {H : Hp} {a : Addr} {o : HO} (n : H a = none) : Same H (off (upd H a o) a) := fun b u e => by
  have ne := ne_of_none e n
  rw [off_ne ne, upd_ne ne]
  exact e
theorem mk_ok {K : PySem.W.Frag} {C : Addr} {fl : List Str} {xs : List V} {ds : List PyData} {H : Hp} {Q : VK} (hd : DqAll K H xs ds) (hx : ∀ d ∈ ds, Hx d) (hl : xs.length = fl.length)
    (k : ∀ v H', Same H H' → ExF K H' v C (fl.zip ds) → (∀ m, H m ≠ none → DqAll K (off H m) xs ds → ExF K (off H' m) v C (fl.zip ds)) → Q v H') :
    ∀ a, H a = none → sp_init K C fl (.ref a :: xs) (upd H a (exo a C none)) (fun v H2 => v = .non ∧ Q (.ref a) H2) E0 := by
  intro a na
  have s0 : Same H (off (upd H a (exo a C none)) a) := off_new1 na
  refine ⟨a, xs, ds, rfl, hl, upd_same, DqAll.same s0 hd, hx, fun H' s' x' m' => ⟨rfl, k _ H' (s0.trans s') x' fun m hm hdm => m' m ?_ ?_ ?_⟩⟩
  · have n : m ≠ a := fun e => hm (e ▸ na)
    rw [upd_ne n]
    exact hm
  · exact fun e => hm (e ▸ na)
  · exact DqAll.same (off_mono s0) hdm
/-! ## lists of things by numbers -/
inductive AllX (R : Nat → Hp → V → Prop) : Hp → List V → List Nat → Prop
  | nil {H : Hp} : AllX R H [] []
  | cons {H : Hp} {v : V} {i : Nat} {vs : List V} {is : List Nat} (h : R i H v) (g : AllX R H vs is) : AllX R H (v :: vs) (i :: is)
def Mono (R : Nat → Hp → V → Prop) : Prop := ∀ i H H' v, Same H H' → R i H v → R i H' v
theorem AllX.same {R : Nat → Hp → V → Prop} (mono : Mono R) {H H' : Hp} (s : Same H H') : ∀ {vs : List V} {is : List Nat}, AllX R H vs is → AllX R H' vs is
  | _, _, .nil => .nil
  | _, _, .cons h g => .cons (mono _ _ _ _ s h) (AllX.same mono s g)
theorem AllX.app {R : Nat → Hp → V → Prop} {H : Hp} : ∀ {vs ws : List V} {is js : List Nat}, AllX R H vs is → AllX R H ws js → AllX R H (vs ++ ws) (is ++ js)
  | _, _, _, _, .nil, q => q
  | _, _, _, _, .cons h g, q => .cons h (g.app q)
theorem AllX.len {R : Nat → Hp → V → Prop} {H : Hp} : ∀ {vs : List V} {is : List Nat}, AllX R H vs is → vs.length = is.length
  | _, _, .nil => rfl
  | _, _, .cons _ g => congrArg Nat.succ g.len
theorem AllX.get {R : Nat → Hp → V → Prop} {H : Hp} : ∀ {vs : List V} {is : List Nat} {j : Nat} {v : V}, AllX R H vs is → vs[j]? = some v → ∃ i, is[j]? = some i ∧ R i H v
  | _, _, _, _, .nil, e => by simp at e
  | _, _, 0, _, .cons h _, e => by
    simp at e
    subst e
    exact ⟨_, rfl, h⟩
  | _, _, j + 1, v, .cons _ g, e => by
    obtain ⟨i, h1, h2⟩ := AllX.get (j := j) (v := v) g (by simpa using e)
    exact ⟨i, by simpa using h1, h2⟩
/-- a display of such things -/
def MkI (R : Nat → Hp → V → Prop) (ta : TA) (σ : L2.St) (H0 : Hp) (is : List Nat) : Prop := ∀ H (Q : List V → Hp → Prop), Same H0 H → (∀ vs H', Same H H' → AllX R H' vs is → Q vs H') → ta σ H Q
def Mk1 (R : Nat → Hp → V → Prop) (te : TE) (σ : L2.St) (H0 : Hp) (i : Nat) : Prop := ∀ H (Q : VK), Same H0 H → (∀ v H', Same H H' → R i H' v → Q v H') → te σ H Q
section
variable {R : Nat → Hp → V → Prop} {σ : L2.St} {H0 : Hp}
theorem MkI.nil : MkI R tNil σ H0 [] := fun H Q _ k => k _ H (Same.refl H) .nil
theorem MkI.cons (mono : Mono R) {te : TE} {ta : TA} {i : Nat} {is : List Nat} (h1 : Mk1 R te σ H0 i) (h2 : MkI R ta σ H0 is) : MkI R (tCons te ta) σ H0 (i :: is) := fun H Q s k =>
  h1 H _ s fun v H1 s1 r1 => h2 H1 _ (s.trans s1) fun vs H2 s2 r2 => k _ H2 (s1.trans s2) (.cons (mono _ _ _ _ s2 r1) r2)
theorem s_lstX {ta : TA} {is : List Nat} {i : Nat} {u : TS} {D : Ends} (h : MkI R ta σ H0 is) (hl : is.length ≤ 900)
    (k : ∀ vs H1 p, Same H0 H1 → AllX R H1 vs is → H1 p = none → u D (σ.set i (some (.ref p))) (upd H1 p (.lst vs))) : tSeq (tAsg (tLst ta) (gName i)) u D σ H0 := by
  refine h H0 _ (Same.refl H0) fun vs H1 s r => ⟨?_, fun p np => k vs H1 p s r np⟩
  rw [r.len]
  exact Nat.le_of_lt (small1000 (by omega))
theorem s_catX (mono : Mono R) {ta : TA} {is : List Nat} {i : Nat} {u : TS} {D : Ends} {t : Addr} {xs : List V} (h : MkI R ta σ H0 is) (hl : xs.length + is.length ≤ 900) (hi : σ[i]? = some (some (.ref t))) (ht : H0 t = some (.lst xs))
    (k : ∀ vs H1 p, Same H0 H1 → AllX R H1 vs is → H1 p = none → u D (σ.set i (some (.ref p))) (upd H1 p (.lst (xs ++ vs)))) : tSeq (tAsg (tOp rCat (tVar i) (tLst ta)) (gName i)) u D σ H0 := by
  refine ⟨.ref t, hi, h H0 _ (Same.refl H0) fun vs H1 s r => ⟨?_, fun p np => ⟨t, p, xs, vs, rfl, rfl, ?_, upd_same, ?_, fun p2 np2 => ?_⟩⟩⟩
  · rw [r.len]
    exact Nat.le_of_lt (small1000 (by omega))
  · rw [upd_ne (ne_of_none (s _ _ ht) np)]
    exact s _ _ ht
  · rw [r.len]
    exact Nat.le_of_lt (small1000 (by omega))
  · exact k vs (upd H1 p (.lst vs)) p2 (s.trans (same_upd np)) (r.same mono (same_upd np)) np2
end
end Lw

set_option Elab.async false
set_option linter.all false
set_option maxRecDepth 100000
set_option maxHeartbeats 4000000
namespace Lw
open PySem PySem.Spec PyProof.Rows L2
/-! ## list(zip(a, b)) of two lists of one length -/
theorem zip_no_len : typeLookup (.type "zip") "__len__" = pure none := am_miss_of_fast (by decide +kernel)
theorem zip_no_hint : typeLookup (.type "zip") "__length_hint__" = pure none := am_miss_of_fast (by decide +kernel)
structure Zst (z TI TO i1 i2 l1 l2 : Addr) (B : Nat) (xs ys : Array Value) (i : Nat) (h : Heap) : Prop where
  ti : IsPair h TI (.ref i1) (.ref i2)
  a1 : h.IsListIter i1 l1 i
  a2 : h.IsListIter i2 l2 i
  b1 : h.IsList l1 xs
  b2 : h.IsList l2 ys
  z : (IsZip h z TI TO .none ∧ ∃ a b, IsPair h TO a b) ∨ ∃ (T : Addr) (f : Bool) (oT : Obj), IsZipHeld h z TI TO T f ∧ h.get? T = some oT ∧ B ≤ T
section
variable {prog : Program} {w : World} {A : Around} {E : Value → Shared → Prop} {s : Shared} {z TI TO i1 i2 l1 l2 S : Addr} {B : Nat} {xs ys : Array Value}
theorem Zst.frame {i : Nat} {h h' : Heap} (Z : Zst z TI TO i1 i2 l1 l2 B xs ys i h) (n : ∀ b, b = z ∨ b = TI ∨ b = TO ∨ b = i1 ∨ b = i2 ∨ b = l1 ∨ b = l2 ∨ B ≤ b → b ≠ S) (k : ∀ b o, b ≠ S → h.get? b = some o → h'.get? b = some o) : Zst z TI TO i1 i2 l1 l2 B xs ys i h' := by
  refine ⟨k _ _ (n _ (by simp)) Z.ti, Z.a1.at fun o e => k _ o (n _ (by simp)) e, Z.a2.at fun o e => k _ o (n _ (by simp)) e, Z.b1.at fun o e => k _ o (n _ (by simp)) e, Z.b2.at fun o e => k _ o (n _ (by simp)) e, ?_⟩
  rcases Z.z with ⟨hz, a, b, hTO⟩ | ⟨T, f, oT, hz, hT, hB⟩
  · exact .inl ⟨k _ _ (n _ (by simp)) hz, a, b, k _ _ (n _ (by simp)) hTO⟩
  · exact .inr ⟨T, f, oT, k _ _ (n _ (by simp)) hz, k _ _ (n _ (by simp [hB])) hT, hB⟩
theorem far {B b T : Nat} (h1 : b < B) (h2 : B ≤ T) : T ≠ b := by omega
theorem zip_step (D : ZipApart z TI TO i1 i2 l1 l2) (lt : z < B ∧ TI < B ∧ TO < B ∧ i1 < B ∧ i2 < B ∧ l1 < B ∧ l2 < B) {i : Nat} (Z : Zst z TI TO i1 i2 l1 l2 B xs ys i s.heap) (hB : B ≤ s.heap.objs.size) {x y : Value} (hx : xs[i]? = some x) (hy : ys[i]? = some y)
    {Q : Option Value → Shared → Prop} (hQ : ∀ h', IsPair h' s.heap.objs.size x y → Zst z TI TO i1 i2 l1 l2 B xs ys (i + 1) h' → h'.objs.size = s.heap.objs.size + 1 → (∀ c o, c ≠ z → c ≠ TO → c ≠ i1 → c ≠ i2 → s.heap.get? c = some o → h'.get? c = some o) → Q (some (.ref s.heap.objs.size)) { s with heap := h' }) :
    wpAny (model prog w) A (pyNext (.ref z)) Q E s := by
  obtain ⟨lz, lTI, lTO, li1, li2, ll1, ll2⟩ := lt
  rcases Z.z with ⟨hz, a, b, hTO⟩ | ⟨T, f, oT, hz, hT, hT2⟩
  · refine wpAny_pyNext_zip_item D hz Z.ti hTO Z.a1 Z.a2 Z.b1 Z.b2 hx hy fun h' a1 a2 a3 a4 a5 a6 hk => ?_
    exact hQ h' a5 ⟨hk _ _ D.TIz D.TITO D.TIi1 D.TIi2 Z.ti, a3, a4, Z.b1.at fun o e => hk _ o D.l1z D.l1TO D.l1i1 D.l1i2 e, Z.b2.at fun o e => hk _ o D.l2z D.l2TO D.l2i1 D.l2i2 e, .inr ⟨_, false, _, a1, a5, hB⟩⟩ a6 hk
  · refine wpAny_pyNext_zip_item_held D hz hT Z.ti Z.a1 Z.a2 Z.b1 Z.b2 hx hy fun h' a1 a3 a4 a5 a6 hk => ?_
    exact hQ h' a5 ⟨hk _ _ D.TIz D.TIi1 D.TIi2 Z.ti, a3, a4, Z.b1.at fun o e => hk _ o D.l1z D.l1i1 D.l1i2 e, Z.b2.at fun o e => hk _ o D.l2z D.l2i1 D.l2i2 e, .inr ⟨T, true, oT, a1, hk _ _ (far lz hT2) (far li1 hT2) (far li2 hT2) hT, hT2⟩⟩ a6 fun c o c1 _ c3 c4 e => hk c o c1 c3 c4 e
/-- what the list has so far -/
def Pairs (B : Nat) (xs ys acc : Array Value) (h : Heap) : Prop := (∀ (j : Nat) (x y : Value), j < acc.size → xs[j]? = some x → ys[j]? = some y → ∃ T : Addr, acc[j]? = some (Value.ref T) ∧ B ≤ T ∧ IsPair h T x y) ∧ (∀ (j : Nat) (v : Value), acc[j]? = some v → ∃ T : Addr, v = Value.ref T ∧ B ≤ T ∧ T < h.objs.size) ∧ acc.toList.Nodup
theorem zip_loop {R : Result → Shared → Prop} (hh : A.handled = none) (D : ZipApart z TI TO i1 i2 l1 l2) (lt : z < B ∧ TI < B ∧ TO < B ∧ i1 < B ∧ i2 < B ∧ l1 < B ∧ l2 < B) (hS : ∀ b, b = z ∨ b = TI ∨ b = TO ∨ b = i1 ∨ b = i2 ∨ b = l1 ∨ b = l2 ∨ B ≤ b → b ≠ S) (hxy : xs.size = ys.size) (hn : xs.size ≤ 1000) :
    ∀ (k i : Nat) (s : Shared) (acc : Array Value) (c : Nat), xs.size - i = k → i ≤ xs.size → acc.size = i → B ≤ s.heap.objs.size → Zst z TI TO i1 i2 l1 l2 B xs ys i s.heap → s.heap.get? S = some { cls := .type "list", dict := none, data := .seq acc c, slots := #[] } → Pairs B xs ys acc s.heap →
      (∀ h' acc' c', (∀ b o, b ≠ z → b ≠ TO → b ≠ i1 → b ≠ i2 → b ≠ S → s.heap.get? b = some o → h'.get? b = some o) → h'.get? S = some { cls := .type "list", dict := none, data := .seq acc' c', slots := #[] } → acc'.size = xs.size → Pairs B xs ys acc' h' → R (.ok (.ret .none)) { s with heap := h' }) →
      codeAny (model prog w) A (.builtin "list.extend.loop" ⟨[.ref S, .ref z, .none], []⟩) R s := by
  intro k
  induction k with
  | zero =>
    intro i s acc c hk hi ha hB Z hl P hR
    have hin : i = xs.size := by omega
    subst hin
    refine codeAny_builtin F.entry_extend_loop ?_
    rw [Around.under_plainId F.plain_extend_loop _]
    show wpAny _ A.in1 (pyNext (.ref z) >>= _) _ _ s
    have hend : xs[xs.size]? = none ∨ ys[xs.size]? = none := .inl (Array.getElem?_eq_none (Nat.le_refl _))
    have fin : ∀ h', (∀ c o, c ≠ z → c ≠ TO → c ≠ i1 → c ≠ i2 → s.heap.get? c = some o → h'.get? c = some o) → R (.ok (.ret .none)) { s with heap := h' } := fun h' hk => by
      refine hR h' acc c (fun b o b1 b2 b3 b4 _ e => hk b o b1 b2 b3 b4 e) (hk _ _ (hS z (by simp)).symm (hS TO (by simp)).symm (hS i1 (by simp)).symm (hS i2 (by simp)).symm hl) ha ⟨fun j x y hj hx hy => ?_, fun j v hv => ?_, P.2.2⟩
      · obtain ⟨T, e1, e2, e3⟩ := P.1 j x y hj hx hy
        obtain ⟨lz, _, lTO, li1, li2, _⟩ := lt
        exact ⟨T, e1, e2, hk _ _ (far lz e2) (far lTO e2) (far li1 e2) (far li2 e2) e3⟩
      · obtain ⟨T, e1, e2, e3⟩ := P.2.1 j v hv
        refine ⟨T, e1, e2, ?_⟩
        have hj : j < acc.size := (Array.getElem?_eq_some_iff.mp hv).1
        have hjx : j < xs.size := by omega
        have hjy : j < ys.size := by omega
        obtain ⟨T', q1, q2, q3⟩ := P.1 j _ _ hj (Array.getElem?_eq_getElem hjx) (Array.getElem?_eq_getElem hjy)
        rw [hv, e1] at q1
        cases q1
        obtain ⟨lz, _, lTO, li1, li2, _⟩ := lt
        exact Heap.lt_size (hk _ _ (far lz q2) (far lTO q2) (far li1 q2) (far li2 q2) q3)
    rcases Z.z with ⟨hz, a, b, hTO⟩ | ⟨T, f, oT, hz, hT, hT2⟩
    · exact wpAny_bind (wpAny_pyNext_zip_end hh D hz Z.ti hTO Z.a1 Z.a2 Z.b1 Z.b2 hend fun h' hk => wpAny_pure (fin h' hk))
    · exact wpAny_bind (wpAny_pyNext_zip_end_held hh D hz hT Z.ti Z.a1 Z.a2 Z.b1 Z.b2 hend fun h' hk => wpAny_pure (fin h' fun c o c1 _ c3 c4 e => hk c o c1 c3 c4 e))
  | succ k ih =>
    intro i s acc c hk hi ha hB Z hl P hR
    have hix : i < xs.size := by omega
    have hiy : i < ys.size := by omega
    refine codeAny_builtin F.entry_extend_loop ?_
    rw [Around.under_plainId F.plain_extend_loop _]
    show wpAny _ A.in1 (pyNext (.ref z) >>= _) _ _ s
    refine wpAny_bind (zip_step D lt Z hB (Array.getElem?_eq_getElem hix) (Array.getElem?_eq_getElem hiy) fun h' e5 Z' e6 hk' => ?_)
    have hS' := hk' _ _ (hS z (by simp)).symm (hS TO (by simp)).symm (hS i1 (by simp)).symm (hS i2 (by simp)).symm hl
    show wpAny _ A.in1 (updateSeq S (·.push (.ref s.heap.objs.size)) >>= _) _ _ _
    refine wpAny_bind ?_
    have oth : ∀ b o, b ≠ S → h'.get? b = some o → (h'.update S (Obj.mapSeq (·.push (Value.ref s.heap.objs.size)))).get? b = some o := fun b o hb e => (Heap.get?_update_other _ _ (Ne.symm hb)).trans e
    have usz : (h'.update S (Obj.mapSeq (·.push (Value.ref s.heap.objs.size)))).objs.size = h'.objs.size := Heap.size_update ..
    obtain ⟨lz, _, lTO, li1, li2, _⟩ := lt
    refine wpAny_updateSeq hS' rfl (wpAny_pure ⟨plainId_quiet F.plain_extend_loop _, ih (i + 1) _ (acc.push (.ref s.heap.objs.size)) _ (by omega) (by omega) (by rw [Array.size_push, ha]) ?_ (Z'.frame hS oth) (Heap.get?_update_self _ hS' rfl) ⟨fun j x y hj hx hy => ?_, fun j v hv => ?_, ?_⟩ fun h'' acc' c' hm hl' hz' P' => ?_⟩) ?_ ?_
    · show B ≤ (h'.update S _).objs.size
      rw [usz, e6]
      omega
    · rw [Array.size_push] at hj
      by_cases hji : j = i
      · subst hji
        rw [Array.getElem?_eq_getElem hix] at hx
        rw [Array.getElem?_eq_getElem hiy] at hy
        cases hx
        cases hy
        refine ⟨s.heap.objs.size, ?_, hB, oth _ _ (hS _ (by simp [hB])) e5⟩
        rw [← ha]
        exact Array.getElem?_push_size
      · have hj' : j < acc.size := by omega
        obtain ⟨T, q1, q2, q3⟩ := P.1 j x y hj' hx hy
        refine ⟨T, ?_, q2, oth _ _ (hS T (by simp [q2])) (hk' _ _ (far lz q2) (far lTO q2) (far li1 q2) (far li2 q2) q3)⟩
        rw [Array.getElem?_push_lt hj']
        rw [Array.getElem?_eq_getElem hj'] at q1
        exact q1
    · have hj : j < acc.size + 1 := by
        have := (Array.getElem?_eq_some_iff.mp hv).1
        rw [Array.size_push] at this
        exact this
      show ∃ T, v = Value.ref T ∧ B ≤ T ∧ T < (h'.update S _).objs.size
      by_cases hji : j = acc.size
      · subst hji
        rw [Array.getElem?_push_size] at hv
        cases hv
        exact ⟨s.heap.objs.size, rfl, hB, by rw [usz, e6]; exact Nat.lt_succ_self _⟩
      · rw [Array.getElem?_push_lt (by omega)] at hv
        obtain ⟨T, q1, q2, q3⟩ := P.2.1 j v (by rw [Array.getElem?_eq_getElem (by omega)]; exact hv)
        exact ⟨T, q1, q2, by rw [usz, e6]; exact Nat.lt_succ_of_lt q3⟩
    · rw [Array.toList_push]
      refine List.nodup_append.mpr ⟨P.2.2, by simp, fun a ha' b hb => ?_⟩
      cases List.mem_singleton.mp hb
      intro e
      subst e
      obtain ⟨j, hj⟩ := List.mem_iff_getElem?.mp ha'
      rw [Array.getElem?_toList] at hj
      obtain ⟨T, q1, q2, q3⟩ := P.2.1 j _ hj
      cases q1
      exact Nat.lt_irrefl _ q3
    · refine hR h'' acc' c' (fun b o b1 b2 b3 b4 b5 e => ?_) hl' hz' P'
      exact hm b o b1 b2 b3 b4 b5 (oth b o b5 (hk' b o b1 b2 b3 b4 e))
    · rw [ha]
      exact Nat.le_of_lt (small1000 (by omega))
    · show (acc.push _).size ≤ sizeLine + 1
      rw [Array.size_push, ha]
      exact Nat.le_of_lt (Nat.lt_succ_of_lt (small1000 (by omega)))
end
section
variable {prog : Program} {w : World} {A : Around} {E : Value → Shared → Prop} {s : Shared} {l1 l2 : Nat} {N : Nat} {xs ys : Array Value}
theorem al {a b : Nat} (h : a < b) : a < b := h
theorem nl {a b : Nat} (h : a < b) : a ≠ b := Nat.ne_of_lt h
theorem ng {a b : Nat} (h : b < a) : a ≠ b := Nat.ne_of_gt h
theorem call_list_zip {Q : Value → Shared → Prop} (hh : A.handled = none) (hN : s.heap.objs.size = N + 5) (h1 : l1 < N) (h2 : l2 < N) (hxy : xs.size = ys.size) (hn : xs.size ≤ 1000)
    (hz : IsZip s.heap (N + 4) (N + 2) (N + 3) .none) (hTI : IsPair s.heap (N + 2) (.ref N) (.ref (N + 1))) (hTO : IsPair s.heap (N + 3) .none .none) (ha1 : s.heap.IsListIter N l1 0) (ha2 : s.heap.IsListIter (N + 1) l2 0) (hl1 : s.heap.IsList l1 xs) (hl2 : s.heap.IsList l2 ys)
    (hQ : ∀ h' acc' c', (∀ b o, b < N → s.heap.get? b = some o → h'.get? b = some o) → h'.get? (N + 5) = some { cls := .type "list", dict := none, data := .seq acc' c', slots := #[] } → acc'.size = xs.size → Pairs (N + 6) xs ys acc' h' → Q (.ref (N + 5)) { s with heap := h' }) :
    wpAny (model prog w) A (call (.type "list") [.ref (N + 4)]) Q E s := by
  have h1' : (l1 : Nat) < N := h1
  have h2' : (l2 : Nat) < N := h2
  have D : ZipApart (N + 4) (N + 2) (N + 3) N (N + 1) l1 l2 := by
    exact ⟨nl (by omega), nl (by omega), nl (by omega), nl (by omega), nl (by omega), ng (by omega), ng (by omega), ng (by omega), ng (by omega), nl (by omega), nl (by omega), nl (by omega), nl (by omega), nl (by omega), nl (by omega), nl (by omega), nl (by omega), nl (by omega)⟩
  refine callType_codes (Q₁ := fun obj s₁ => obj = .ref s.heap.objs.size ∧ s₁ = { s with heap := s.heap.push { cls := .type "list", data := .seq #[] } }) F.called_list (F.typeCall_list_1 _) F.entry_list_init
    (code_list_new _ ⟨rfl, rfl⟩) fun obj s₁ h₁ => ?_
  obtain ⟨rfl, rfl⟩ := h₁
  have hS : (s.heap.push { cls := .type "list", data := .seq #[] }).get? s.heap.objs.size = some { cls := .type "list", data := .seq #[] } := Heap.get?_push_size _ rfl
  refine ⟨⟨_, hS, rfl⟩, F.args_list_init_2 _ _, ?_⟩
  rw [hN] at hS ⊢
  show wpAny _ A.in1.in1 (do let old ← Builtin.List.listItems (.ref (N + 5)); Builtin.List.listUpdate (.ref (N + 5)) (fun _ => #[]); letGo old.toList.reverse; Builtin.List.listExtendWith (.ref (N + 5)) (.ref (N + 4)) .none) _ _ _
  refine wpAny_bind ?_
  unfold Builtin.List.listItems
  refine wpAny_bind (wpAny_seqItems hS rfl (wpAny_pure ?_))
  show wpAny _ A.in1.in1 (updateSeq (N + 5) (fun _ => #[]) >>= fun _ => letGo (#[] : Array Value).toList.reverse >>= fun _ => Builtin.List.listExtendWith (.ref (N + 5)) (.ref (N + 4)) .none) _ _ _
  refine wpAny_bind (wpAny_updateSeq hS rfl ?_)
  have hS2 := Heap.get?_update_self (Obj.mapSeq (fun _ => (#[] : Array Value))) hS rfl
  refine wpAny_bind (wpAny_letGo ?_)
  unfold Builtin.List.listExtendWith
  have up : ∀ (h : Heap) (f : Obj → Obj), (∀ b o, b ≠ N + 5 → s.heap.get? b = some o → h.get? b = some o) → ∀ b o, b ≠ N + 5 → s.heap.get? b = some o → (h.update (N + 5) f).get? b = some o := fun h f q b o n e =>
    (Heap.get?_update_other _ _ (Ne.symm n)).trans (q b o n e)
  have k1 : ∀ b o, b ≠ N + 5 → s.heap.get? b = some o → (s.heap.push { cls := .type "list", data := .seq #[] }).get? b = some o := fun b o _ e => Heap.get?_push_of_some _ e
  have k2 := up _ (Obj.mapSeq (fun _ => (#[] : Array Value))) k1
  have zty : ∀ {h : Heap}, (∀ b o, b ≠ N + 5 → s.heap.get? b = some o → h.get? b = some o) → IsZip h (N + 4) (N + 2) (N + 3) .none := fun {h} q => q _ _ (nl (by omega)) hz
  refine wpAny_bind (wpAny_typeOf (T := "zip") ⟨_, zty k2, rfl⟩ ?_)
  have e1 : Builtin.List.listSameRef (.ref (N + 5)) (.ref (N + 4)) = false := by simp [Builtin.List.listSameRef]
  have e2 : (Value.type "zip" == Value.type "list") = false := by decide
  have e3 : (Value.type "zip" == Value.type "tuple") = false := by decide
  simp only [e1, e2, e3, Bool.or_false, Bool.false_eq_true, if_false]
  refine wpAny_bind (wpAny_pyIter_zip (zty k2) ?_)
  refine wpAny_bind (wpAny_holding ?_)
  unfold Builtin.List.listLengthHint
  refine wpAny_bind (wpAny_specialOf (T := "zip") ⟨_, zty k2, rfl⟩ zip_no_len ?_)
  show wpAny _ A.in1.in1 (specialOf (Value.ref (N + 4)) (Str.ofString "__length_hint__") >>= _) _ _ _
  refine wpAny_bind (wpAny_specialOf (T := "zip") ⟨_, zty k2, rfl⟩ zip_no_hint ?_)
  refine wpAny_pure ?_
  show wpAny _ A.in1.in1 (rule "list.extend.makes-room" >>= fun _ => Builtin.List.listTouch (.ref (N + 5)) >>= fun _ =>
    again (.builtin "list.extend.loop" ⟨[.ref (N + 5), .ref (N + 4), .none], []⟩)) _ _ _
  refine wpAny_bind (wpAny_rule ?_)
  refine wpAny_bind ?_
  show wpAny _ A.in1.in1 (updateSeq (N + 5) (·.push .none) >>= fun _ => updateSeq (N + 5) (·.pop)) _ _ _
  refine wpAny_bind (wpAny_updateSeq hS2 rfl ?_)
  have hS3 := Heap.get?_update_self (Obj.mapSeq (·.push Value.none)) hS2 rfl
  refine wpAny_updateSeq (hz := by seq_fits) hS3 rfl ?_
  have hS4 := Heap.get?_update_self (Obj.mapSeq (·.pop)) hS3 rfl
  have k4 := up _ (Obj.mapSeq (·.pop)) (up _ (Obj.mapSeq (·.push Value.none)) k2)
  refine wpAny_pure ⟨plainId_quiet F.plain_extend_loop _, ?_⟩
  refine zip_loop (A := A.in1) (B := N + 6) (S := N + 5) hh D ⟨al (by omega), al (by omega), al (by omega), al (by omega), al (by omega), al (by omega), al (by omega)⟩ (fun b hb => by
      rcases hb with rfl | rfl | rfl | rfl | rfl | rfl | rfl | hb
      · exact nl (by omega)
      · exact nl (by omega)
      · exact nl (by omega)
      · exact nl (by omega)
      · exact nl (by omega)
      · exact nl (by omega)
      · exact nl (by omega)
      · exact ng (by omega)) hxy hn xs.size 0 _ #[] _ rfl (Nat.zero_le _) rfl ?_ ?_ hS4 ⟨fun j x y hj => absurd hj (Nat.not_lt_zero _), fun j v hv => by simp at hv, by simp⟩ fun h' acc' c' hk hl hz' P => ?_
  · show N + 6 ≤ (Heap.update _ _ _).objs.size
    rw [Heap.size_update, Heap.size_update, Heap.size_update, Heap.size_push, hN]
    exact Nat.le_refl _
  · have ni : ∀ {b : Nat}, b ≤ N + 4 → b ≠ N + 5 := fun h => by omega
    exact ⟨k4 _ _ (ni (by omega)) hTI, ha1.at fun o e => k4 _ o (ni (by omega)) e, ha2.at fun o e => k4 _ o (ni (by omega)) e, hl1.at fun o e => k4 _ o (ni (by omega)) e, hl2.at fun o e => k4 _ o (ni (by omega)) e, .inl ⟨k4 _ _ (ni (by omega)) hz, _, _, k4 _ _ (ni (by omega)) hTO⟩⟩
  · exact ⟨rfl, hQ h' acc' c' (fun b o hb e => hk b o (nl (by omega)) (nl (by omega)) (nl (by omega)) (nl (by omega)) (nl (by omega)) (k4 b o (nl (by omega)) e)) hl hz' P⟩
end
/-! ### as an expression -/
theorem look_of : ∀ {Ts : List Addr} {ps : List (V × V)} {j : Nat} {T : Addr} {p : V × V}, Ts.Nodup → Ts[j]? = some T → ps[j]? = some p → (Ts.zip ps).lookup T = some p
  | [], _, _, _, _, _, h, _ => by simp at h
  | _ :: _, [], _, _, _, _, _, h => by simp at h
  | t :: ts, q :: qs, 0, T, p, _, h1, h2 => by
    simp at h1 h2
    subst h1 h2
    simp [List.lookup]
  | t :: ts, q :: qs, j + 1, T, p, nd, h1, h2 => by
    simp at h1 h2
    have ne : T ≠ t := by
      intro e
      subst e
      exact (List.nodup_cons.mp nd).1 (List.mem_of_getElem? h1)
    have ih := look_of (ps := qs) (List.nodup_cons.mp nd).2 h1 h2
    show List.lookup T ((t, q) :: ts.zip qs) = _
    rw [List.lookup_cons, show (T == t) = false by simpa using ne]
    exact ih
theorem look_at : ∀ {Ts : List Addr} {ps : List (V × V)} {T : Addr} {p : V × V}, (Ts.zip ps).lookup T = some p → ∃ j : Nat, Ts[j]? = some T ∧ ps[j]? = some p
  | [], _, _, _, h => by simp at h
  | _ :: _, [], _, _, h => by simp at h
  | t :: ts, q :: qs, T, p, h => by
    by_cases e : T = t
    · subst e
      simp [List.lookup] at h
      subst h
      exact ⟨0, rfl, rfl⟩
    · have h' : List.lookup T ((t, q) :: ts.zip qs) = some p := h
      rw [List.lookup_cons, show (T == t) = false by simpa using e] at h'
      obtain ⟨j, h1, h2⟩ := look_at (Ts := ts) (ps := qs) h'
      exact ⟨j + 1, by simpa using h1, by simpa using h2⟩
def tListZip (K : PySem.W.Frag) (ta : TA) : TE := fun σ H Q => ta σ H fun vs H1 => ∃ (a b : Addr) (xs ys : List V), vs = [.ref a, .ref b] ∧ SqL K H1 a xs ∧ SqL K H1 b ys ∧ xs.length = ys.length ∧ xs.length ≤ 1000 ∧
  ∀ (p : Addr) (Ts : List Addr) (H2 : Hp), Same H1 H2 → H2 p = some (.lst (Ts.map V.ref)) → Ts.length = xs.length → (∀ (i : Nat) (x y : V) (T : Addr), xs[i]? = some x → ys[i]? = some y → Ts[i]? = some T → H2 T = some (.tup [x, y])) → Q (.ref p) H2
theorem addrs_of : ∀ {us : List Value}, (∀ v ∈ us, ∃ T : Addr, v = .ref T) → ∃ Ts : List Addr, us = Ts.map Value.ref
  | [], _ => ⟨[], rfl⟩
  | u :: us, h => by
    obtain ⟨T, rfl⟩ := h u (List.mem_cons_self ..)
    obtain ⟨Ts, rfl⟩ := addrs_of fun v hv => h v (List.mem_cons_of_mem _ hv)
    exact ⟨T :: Ts, rfl⟩
theorem vals_refs' : ∀ Ts : List Addr, Vals (Ts.map V.ref) (Ts.map Value.ref)
  | [] => .nil
  | _ :: r => .cons rfl (vals_refs' r)
theorem vals_get : ∀ {xs : List V} {us : List Value} {j : Nat} {x : V}, Vals xs us → xs[j]? = some x → ∃ u, us[j]? = some u ∧ L2.RelV x u
  | _, _, _, _, .nil, h => by simp at h
  | _, _, 0, _, .cons r _, h => by
    simp at h
    subst h
    exact ⟨_, rfl, r⟩
  | _, _, j + 1, _, .cons _ rs, h => by
    obtain ⟨u, e, r⟩ := vals_get (j := j) rs (by simpa using h)
    exact ⟨u, by simpa using e, r⟩
section
variable {X : Cx} {e1 e2 : Expr} {ta : TA} {p p2 pos pos2 : Pos}
theorem pe_listZip (hc : X.calm = true) (hg : Gl X "list") (hm : X.mg "list" = none) (hg2 : Gl X "zip") (hm2 : X.mg "zip" = none) (ha : PA X [e1, e2] ta)
    (hs : starEach [e1, e2] X.env = (false, eval e1 X.env) :: starEach [e2] X.env := by rfl) (hpl : (backTo pos2 (starEach [e2] X.env)).any (fun q => q.1) = false := by rfl)
    (na : starEach [.Call (.Name "zip" p2) [e1, e2] [] pos2] X.env = (false, eval (.Call (.Name "zip" p2) [e1, e2] [] pos2) X.env) :: starEach [] X.env := by rfl) :
    PE X (.Call (.Name "list" p) [.Call (.Name "zip" p2) [e1, e2] [] pos2] [] pos) (tListZip X.K ta) := by
  constructor
  intro pins s σ H Q I h
  refine Call_ (ld_blt I hg hm boot_list (PyProof.Rows.callWith_type1 (args_cons ?_ na) na))
  refine Call_ (ld_blt I hg2 hm2 PyProof.Rows.boot_zip (PyProof.Rows.callWith_type1 (thn (ha.run pos2 pins s σ H _ I h) fun us s1 hu => ?_) hs hpl))
  obtain ⟨vs, H1, I1, r1, a, b, xs, ys, ex, hqx, hqy, hl, hn, q⟩ := hu
  subst ex
  obtain ⟨u1, u2, rfl, q1, q2⟩ := vals2 r1
  cases (show u1 = Value.ref a from q1)
  cases (show u2 = Value.ref b from q2)
  obtain ⟨it1, rv1, pl1, z1⟩ := I1.list hqx
  obtain ⟨it2, rv2, pl2, z2⟩ := I1.list hqy
  have m1 : it1.length = xs.length := (Paired.length rv1).symm
  have m2 : it2.length = ys.length := (Paired.length rv2).symm
  have hl1 := pl1.isList
  have hl2 := pl2.isList
  refine call_zip_2 hl1 hl2 fun h2 b1 b2 b3 b4 b5 b6 b7 => args_nil ?_
  have l1 : a < s1.heap.objs.size := by
    obtain ⟨o, e, _⟩ := hl1
    exact Heap.lt_size e
  have l2 : b < s1.heap.objs.size := by
    obtain ⟨o, e, _⟩ := hl2
    exact Heap.lt_size e
  refine call_list_zip (s := { s1 with heap := h2 }) (N := s1.heap.objs.size) (xs := it1.toArray) (ys := it2.toArray) (I1.ok.hd hc) b6 l1 l2 (by rw [List.size_toArray, List.size_toArray, m1, m2, hl]) (by rw [List.size_toArray, m1]; exact hn) b1 b2 b3 b4 b5 (hl1.at fun o e => b7 _ o e) (hl2.at fun o e => b7 _ o e) fun h' acc c' hk hS hz P => ?_
  have kk : ∀ b o, s1.heap.get? b = some o → h'.get? b = some o := fun b o e => hk b o (Heap.lt_size e) (b7 b o e)
  obtain ⟨P1, P2, P3⟩ := P
  have hacc : ∀ v ∈ acc.toList, ∃ T : Addr, v = .ref T := fun v hv => by
    obtain ⟨j, hj⟩ := List.mem_iff_getElem?.mp hv
    rw [Array.getElem?_toList] at hj
    obtain ⟨T, e, _⟩ := P2 j v hj
    exact ⟨T, e⟩
  obtain ⟨Ts, eT⟩ := addrs_of hacc
  have lT : Ts.length = xs.length := by
    have := congrArg List.length eT
    rw [List.length_map, Array.length_toList, hz, List.size_toArray, m1] at this
    exact this.symm
  have atT : ∀ {j : Nat} {T : Addr}, Ts[j]? = some T → acc[j]? = some (.ref T) := fun {j T} hj => by
    rw [← Array.getElem?_toList, eT, List.getElem?_map, hj]
    rfl
  have ndT : Ts.Nodup := by
    rw [eT] at P3
    exact (List.pairwise_map.mp P3).imp fun h e => h (by rw [e])
  have new : ∀ {j : Nat} {T : Addr}, Ts[j]? = some T → s1.heap.objs.size + 6 ≤ (T : Nat) := fun {j T} hj => by
    obtain ⟨T', e, e2, _⟩ := P2 j _ (atT hj)
    cases e
    exact e2
  generalize hN : s1.heap.objs.size = N at *
  let H2 : Hp := fun b => if b = N + 5 then some (.lst (Ts.map V.ref)) else match (Ts.zip (xs.zip ys)).lookup b with
    | some q => some (.tup [q.1, q.2])
    | none => H1 b
  have H2S : H2 (N + 5) = some (.lst (Ts.map V.ref)) := if_pos rfl
  have H2T : ∀ {j : Nat} {T : Addr} {x y : V}, Ts[j]? = some T → xs[j]? = some x → ys[j]? = some y → H2 T = some (.tup [x, y]) := fun {j T x y} h1 h2 h3 => by
    have hT := new h1
    have lk := look_of ndT h1 (show (xs.zip ys)[j]? = some (x, y) from by rw [List.getElem?_zip_eq_some]; exact ⟨h2, h3⟩)
    show (if T = N + 5 then _ else _) = _
    rw [if_neg (ng (Nat.lt_of_lt_of_le (Nat.lt_succ_self (N + 5)) hT)), lk]
  have H2o : ∀ {b : Addr}, (b : Nat) < N → H2 b = H1 b := fun {b} hb => by
    show (if b = N + 5 then _ else _) = _
    rw [if_neg (nl (Nat.lt_of_lt_of_le hb (Nat.le_add_right N 5)))]
    cases lk : (Ts.zip (xs.zip ys)).lookup b with
    | none => rfl
    | some q =>
      obtain ⟨j, h1, _⟩ := look_at lk
      exact absurd hb (Nat.not_lt.mpr (Nat.le_trans (Nat.le_add_right N 6) (new h1)))
  have old : ∀ {b : Addr} {o : HO}, H1 b = some o → (b : Nat) < N := fun {b o} e => by
    refine Classical.byContradiction fun z => ?_
    have := I1.hok.fresh (a := b) (by rw [hN]; exact Nat.le_of_not_lt z)
    rw [this] at e
    cases e
  have sm : Same H1 H2 := fun b o e => by
    rw [H2o (old e)]
    exact e
  have U : Un X.fs [] H1 H2 s1.heap h' := {
    keep := fun b o e _ _ _ => kk b o e
    slot := fun b o e _ _ _ => ⟨o.slots, kk b o e⟩
    free := fun b o e n _ => by
      rw [H2o (by rw [← hN]; exact Heap.lt_size e)]
      exact n
    there := fun b o e _ => ⟨o, kk b o e⟩
    tups := fun b xs e => sm _ _ e
    frzs := fun b o v e => sm _ _ e
    tbls := fun b ps e => ⟨#[], by rw [sm _ _ e]; simp⟩ }
  have hok : HOk X.prog X.w H2 h' := fun b o e => by
    by_cases hb : b = N + 5
    · subst hb
      rw [H2S] at e
      cases e
      refine ⟨by rw [List.length_map, lT]; exact Nat.le_of_lt (small1000 hn), acc.toList, c', ?_, ?_⟩
      · rw [eT]
        exact vals_refs' Ts
      · rw [Array.toArray_toList]
        exact hS
    · have e' : (match (Ts.zip (xs.zip ys)).lookup b with
        | some q => some (HO.tup [q.1, q.2])
        | none => H1 b) = some o := by
        have e0 : (if b = N + 5 then some (HO.lst (Ts.map V.ref)) else match (Ts.zip (xs.zip ys)).lookup b with
          | some q => some (HO.tup [q.1, q.2])
          | none => H1 b) = some o := e
        rw [if_neg hb] at e0
        exact e0
      cases lk : (Ts.zip (xs.zip ys)).lookup b with
      | some q =>
        rw [lk] at e'
        cases e'
        obtain ⟨j, h1, h2⟩ := look_at lk
        obtain ⟨x, y⟩ := q
        rw [List.getElem?_zip_eq_some] at h2
        obtain ⟨v1, w1, w2⟩ := vals_get rv1 h2.1
        obtain ⟨v2, w3, w4⟩ := vals_get rv2 h2.2
        have hj : j < acc.size := (Array.getElem?_eq_some_iff.mp (atT h1)).1
        obtain ⟨T, t1, t2, t3⟩ := P1 j v1 v2 hj (by simpa using w1) (by simpa using w3)
        rw [atT h1] at t1
        cases t1
        exact ⟨by show 2 ≤ sizeLine; decide, [v1, v2], .cons w2 (.cons w4 .nil), _, t3, rfl, _, rfl⟩
      | none =>
        rw [lk] at e'
        exact (I1.hok b o e').stay (fun c v _ z => kk c v z) (fun c hc => sm _ _ hc) fun c xs hc => sm _ _ hc
  exact ⟨.ref (N + 5), H2, I1.un (t' := s1.toks) U hok, rfl, q _ Ts H2 sm H2S lT fun i x y T h1 h2 h3 => H2T h3 h1 h2⟩
end
end Lw

set_option Elab.async false
set_option linter.all false
set_option maxRecDepth 100000
set_option maxHeartbeats 4000000
namespace Lw
open PySem PySem.Spec PyProof.Rows L2
/-! ## instances of the text's own classes, by their special methods -/
section
variable {X : Cx} {CX : CXT} {k : Nat} {f : Addr} {fd : FuncData} {ps : List Str} {sp : Sp} {E : XK} {A : Around} {pins : List (Addr × Obj)} {σ : L2.St} {H : Hp} {s : Shared} {Q : VK} {us : List Value} {vs : List V}
theorem env_sub (hf : A.frames = X.A.frames) (I : Inv X pins σ H s) : Env0 X.prog X.w X.K X.mg X.base A X.stack s H := by
  have e := I.env0
  exact ⟨by rw [hf]; exact e.frames, e.mod, e.bs, e.bsz, e.funs, e.frf, e.hok, e.bare⟩
/-- a def that is called from below the running body -/
theorem run_sub (F : FnOk X.prog X.w X.K X.mg X.base CX k f fd ps sp) (hr : Room k A) (hf : A.frames = X.A.frames) (hb : Binds X.K fd ps []) (hx : Passes CX X E) (I : Inv X pins σ H s) (r : Vals vs us) (h : sp vs H Q E) :
    wpAny (model X.prog X.w) A (call (.ref f) us) (EP X pins σ Q) X.xe s := by
  have hl : (us ++ []).length = ps.length := by
    rw [List.append_nil, ← r.length]
    exact F.len _ _ _ _ h
  have hb' := hb s us I.kIn hl
  rw [List.append_nil] at hb'
  refine wpAny_call (codeAny_mono (F.run A X.stack s H ⟨us, []⟩ us vs Q E hr (env_sub hf I) hb' r h) fun r s' hq => ?_)
  match r, hq with
  | .error e, hq => exact hx pins σ H s e s' I hq
  | .ok (.ret u), hq => exact I.after hq
  | .ok .next, hq => exact False.elim hq
  | .ok .brk, hq => exact False.elim hq
  | .ok .cont, hq => exact False.elim hq
theorem run_subG (F : FnG X.prog X.w X.K X.mg X.base CX k f fd ps sp) (hg : A.guards = some []) (hr : Room k A) (hf : A.frames = X.A.frames) (hb : Binds X.K fd ps []) (hx : Passes CX X E) (I : Inv X pins σ H s) (r : Vals vs us) (h : sp vs H Q E) :
    wpAny (model X.prog X.w) A (call (.ref f) us) (EP X pins σ Q) X.xe s := by
  have hl : (us ++ []).length = ps.length := by
    rw [List.append_nil, ← r.length]
    exact F.len _ _ _ _ h
  have hb' := hb s us I.kIn hl
  rw [List.append_nil] at hb'
  refine wpAny_call (codeAny_mono (F.run A X.stack s H ⟨us, []⟩ us vs Q E hg hr (env_sub hf I) hb' r h) fun r s' hq => ?_)
  match r, hq with
  | .error e, hq => exact hx pins σ H s e s' I hq
  | .ok (.ret u), hq => exact I.after hq
  | .ok .next, hq => exact False.elim hq
  | .ok .brk, hq => exact False.elim hq
  | .ok .cont, hq => exact False.elim hq
end
/-- a special method of the class at C -/
structure OwnS (P : Program) (w : World) (K : PySem.W.Frag) (mg : Str → Option Value) (base : Heap) (k : Nat) (C : Addr) (name : Str) (ps : List Str) (sp : Sp) (f : Addr) (fd : FuncData) : Prop where
  ok : FnOk P w K mg base CX0 k f fd ps sp
  at_ : PySem.W.findIn K (.ref C) name = some (some (.ref f))
  fn : PySem.W.isFn K (.ref f) = true
  b : Binds K fd ps []
structure OwnSG (P : Program) (w : World) (K : PySem.W.Frag) (mg : Str → Option Value) (base : Heap) (k : Nat) (C : Addr) (name : Str) (ps : List Str) (sp : Sp) (f : Addr) (fd : FuncData) : Prop where
  ok : FnG P w K mg base CX0 k f fd ps sp
  at_ : PySem.W.findIn K (.ref C) name = some (some (.ref f))
  fn : PySem.W.isFn K (.ref f) = true
  b : Binds K fd ps []
/-- len(o) -/
def rLenO (C : Addr) (sp : Sp) : List V → Hp → VK → Prop := fun xs H Q => ∃ (a dx : Addr) (fs : List (Str × V)), xs = [.ref a] ∧ H a = some (.ins C dx fs) ∧ sp [.ref a] H (fun v H' => ∃ n : Int, v = .int n ∧ 0 ≤ n ∧ n < 2 ^ 63 ∧ Q (.int n) H') E0
/-- str(o), repr(o) -/
def rStrO (C : Addr) (sp : Sp) : List V → Hp → VK → Prop := fun xs H Q => ∃ (a dx : Addr) (fs : List (Str × V)), xs = [.ref a] ∧ H a = some (.ins C dx fs) ∧ sp [.ref a] H (fun v H' => ∃ z : Str, v = .str z ∧ Q (.str z) H') E0
section
variable {X : Cx} {k : Nat} {C f : Addr} {fd : FuncData} {ps : List Str} {sp : Sp}
theorem call_lenO (S : OwnS X.prog X.w X.K X.mg X.base k C "__len__" ps sp f fd) (hr : Room (k + 1) X.A) : CallR X (.builtin "len") (rLenO C sp) := by
  intro pins s σ H xs us Q I r h
  obtain ⟨a, dx, fs, rfl, ea, hs⟩ := h
  obtain ⟨u, rfl, ru⟩ := vals1 r
  cases (show u = Value.ref a from ru)
  obtain ⟨mA, J, _⟩ := ins_get I.hok ea
  obtain ⟨od, J, _⟩ := J.look
  obtain ⟨m, hF⟩ := I.fr
  refine PySem.W.len_K hF I.ok.mod.kin J S.at_ S.fn ?_
  refine wpAny_mono (run_sub S.ok hr.in1 rfl S.b pass0 I (vs := [.ref a]) (.cons rfl .nil) hs) (fun v s' hq => ?_) fun _ _ z => z
  obtain ⟨x, H', I', rx, n, rfl, n0, n1, q⟩ := hq
  obtain ⟨t, rfl⟩ := rx
  exact ⟨⟨n0, n1⟩, .int n, H', I'.tok _, ⟨_, rfl⟩, q⟩
theorem call_strO (S : OwnS X.prog X.w X.K X.mg X.base k C "__str__" ps sp f fd) (hr : Room (k + 2) X.A) : CallR X (.type "str") (rStrO C sp) := by
  intro pins s σ H xs us Q I r h
  obtain ⟨a, dx, fs, rfl, ea, hs⟩ := h
  obtain ⟨u, rfl, ru⟩ := vals1 r
  cases (show u = Value.ref a from ru)
  obtain ⟨mA, J, _⟩ := ins_get I.hok ea
  obtain ⟨od, J, _⟩ := J.look
  refine PySem.W.kso_call hr.in1.in1.units0 I.kIn J S.at_ S.fn ?_
  refine wpAny_mono (run_sub S.ok hr.in1.in1 rfl S.b pass0 I (vs := [.ref a]) (.cons rfl .nil) hs) (fun v s' hq => ?_) fun _ _ z => z
  obtain ⟨x, H', I', rx, n, rfl, q⟩ := hq
  obtain ⟨t, rfl⟩ := rx
  exact ⟨.str n, H', I', ⟨_, rfl⟩, q⟩
theorem call_reprO (S : OwnSG X.prog X.w X.K X.mg X.base k C "__repr__" ps sp f fd) (hg : X.A.guards = some []) (hr : Room (k + 1) X.A) : CallR X (.builtin "repr") (rStrO C sp) := by
  intro pins s σ H xs us Q I r h
  obtain ⟨a, dx, fs, rfl, ea, hs⟩ := h
  obtain ⟨u, rfl, ru⟩ := vals1 r
  cases (show u = Value.ref a from ru)
  obtain ⟨mA, J, _⟩ := ins_get I.hok ea
  obtain ⟨od, J, _⟩ := J.look
  obtain ⟨m, hF⟩ := I.fr
  refine PySem.W.repr_K hr.in1.units0 hF I.ok.mod.kin J S.at_ S.fn ?_
  refine wpAny_mono (run_subG S.ok hg hr.in1 rfl S.b pass0 I (vs := [.ref a]) (.cons rfl .nil) hs) (fun v s' hq => ?_) fun _ _ z => z
  obtain ⟨x, H', I', rx, n, rfl, q⟩ := hq
  obtain ⟨t, rfl⟩ := rx
  exact ⟨.str n, H', I', ⟨_, rfl⟩, q⟩
end
/-! ### == and != -/
/-- built-in kinds of data and the class at C: neither is above the other -/
structure Apart (K : PySem.W.Frag) (C : Addr) : Prop where
  no : ∀ T ∈ (["NoneType", "bool", "int", "str", "list", "tuple", "dict"] : List String), PySem.W.subIn K (.type T) (.ref C) = some false ∧ PySem.W.mroIn K C (.type T) = some false
def apartB (K : PySem.W.Frag) (C : Addr) : Bool := (["NoneType", "bool", "int", "str", "list", "tuple", "dict"] : List String).all fun T => decide (PySem.W.subIn K (.type T) (.ref C) = some false) && decide (PySem.W.mroIn K C (.type T) = some false)
theorem apartB_ok {K : PySem.W.Frag} {C : Addr} (h : apartB K C = true) : Apart K C := ⟨fun T hT => by
  have q := List.all_eq_true.mp h T hT
  rw [Bool.and_eq_true] at q
  exact ⟨of_decide_eq_true q.1, of_decide_eq_true q.2⟩⟩
theorem tyD_mem (d : PyData) : tyD d ∈ (["NoneType", "bool", "int", "str", "list", "tuple", "dict"] : List String) := by
  cases d <;> simp [tyD]
/-- o == y -/
def rEqO (K : PySem.W.Frag) (C : Addr) (sp : Sp) : R2 := fun x y H Q => ∃ (a dx : Addr) (fs : List (Str × V)), x = .ref a ∧ H a = some (.ins C dx fs) ∧ ((∃ (b dy : Addr) (gs : List (Str × V)), y = .ref b ∧ H b = some (.ins C dy gs)) ∨ ∃ d, Dq K H y d) ∧
  sp [x, y] H (fun v H' => ∃ b, v = .bl b ∧ Q (.bl b) H') E0
/-- y == o, y no instance -/
def rEqR (K : PySem.W.Frag) (C : Addr) (sp : Sp) : R2 := fun x y H Q => ∃ (a dx : Addr) (fs : List (Str × V)) (d : PyData), y = .ref a ∧ H a = some (.ins C dx fs) ∧ Dq K H x d ∧ sp [y, x] H (fun v H' => ∃ b, v = .bl b ∧ Q (.bl b) H') E0
theorem looks_ty {X : Cx} {pins : List (Addr × Obj)} {σ : L2.St} {H : Hp} {s : Shared} {y : V} {u : Value} {d : PyData} (I : Inv X pins σ H s) (r : RelV y u) (h : Dq X.K H y d) : s.TypeIs u (tyD d) := by
  cases h with
  | non => cases r; rfl
  | bl b => cases r; rfl
  | int i => obtain ⟨t, rfl⟩ := r; rfl
  | str z => obtain ⟨t, rfl⟩ := r; rfl
  | lst h g =>
    cases r
    obtain ⟨its, rv, ⟨o, n, ho, hc, _, hd⟩, _⟩ := I.list h
    exact ⟨o, ho, hc⟩
  | tup h g =>
    cases r
    obtain ⟨its, rv, ⟨o, ho, hc, n, hd⟩, _⟩ := I.tuple h
    exact ⟨o, ho, hc⟩
  | dic h =>
    cases r
    obtain ⟨o, es, ep, e1, e2, e3, e4, e5⟩ := dict0 I h
    exact ⟨o, e1, e2⟩
  | dct h ne g =>
    rename_i a kvs' ds'
    cases r
    obtain ⟨_, h1, vs, kv, o, es, ep, e1, e2, e3, _, e5, _⟩ := (show ObjOk X.prog X.w H s.heap a (.dK kvs') from I.hok a _ h)
    exact ⟨o, e1, e2.1⟩

theorem looks_of {M : Model} {s : Shared} {u : Value} {T : String} (h : s.TypeIs u T) : PySem.W.Looks M s.heap (typeOf u) (.type T) := by
  intro A Q E s' k q
  cases u with
  | ref a =>
    obtain ⟨o, ho, hc⟩ := h
    exact wpAny_typeOf_ref (k _ _ ho) (by rw [hc]; exact q)
  | _ => exact wpAny_of_eq h q
section
variable {X : Cx} {k : Nat} {C f : Addr} {fd : FuncData} {ps : List Str} {sp : Sp}
theorem op_eqO (S : OwnS X.prog X.w X.K X.mg X.base k C "__eq__" ps sp f fd) (AP : Apart X.K C) (hr : Room k X.A) : OpR X (compareOp .Eq) (rEqO X.K C sp) := by
  intro pins s σ H x y v u Q I rx ry h
  obtain ⟨a, dx, fs, rfl, ea, hy, hs⟩ := h
  cases (show v = Value.ref a from rx)
  obtain ⟨mA, J, _⟩ := ins_get I.hok ea
  obtain ⟨od, J, _⟩ := J.look
  obtain ⟨m, hF⟩ := I.fr
  have tb : ∃ tb, PySem.W.Looks (model X.prog X.w) s.heap (typeOf u) tb ∧ PySem.W.notFirst X.K C tb = true := by
    rcases hy with ⟨b, dy, gs, rfl, eb⟩ | ⟨d, hd⟩
    · cases (show u = Value.ref b from ry)
      obtain ⟨mB, J', _⟩ := ins_get I.hok eb
      obtain ⟨od', J', _⟩ := J'.look
      exact ⟨.ref C, J'.type, by simp [PySem.W.notFirst]⟩
    · refine ⟨.type (tyD d), looks_of (looks_ty I ry hd), ?_⟩
      unfold PySem.W.notFirst
      rw [(AP.no _ (tyD_mem d)).1]
      simp
  obtain ⟨tb, h1, h2⟩ := tb
  show wpAny (model X.prog X.w) X.A (richCompare .Eq (.ref a) u) (EP X pins σ Q) X.xe s
  refine PySem.W.cmp_K (op := .Eq) hr.units0 hF I.ok.mod.kin J h1 h2 S.at_ S.fn ?_
  refine wpAny_mono (run_sub S.ok hr rfl S.b pass0 I (vs := [.ref a, y]) (.cons rfl (.cons ry .nil)) hs) (fun v s' hq => ?_) fun _ _ z => z
  obtain ⟨x, H', I', rx, b, rfl, q⟩ := hq
  cases (show v = Value.bool b from rx)
  exact ⟨.bl b, H', I', rfl, q⟩
end
end Lw

set_option Elab.async false
set_option linter.all false
set_option maxRecDepth 100000
set_option maxHeartbeats 4000000
namespace Lw
open PySem PySem.Spec PyProof.Rows L2
section
open PySem.SeqAt
variable {prog : Program} {w : World} {A : Around} {E : Value → Shared → Prop} {s : Shared} {x C : Addr} {ox : Obj} {od : Option Obj} {K : PySem.W.Frag}
/-- the built-in == of data does not know an instance -/
theorem declines_prim {i : Int} {u : Tok} (hx : s.heap.get? x = some ox) (hp : ox.data = .plain) {Q : Fin → Shared → Prop} (q : Q (.done (.ret .notImplemented)) s) : wpAny (model prog w) A (Builtin.«int.__eq__» ⟨[.int i u, .ref x], []⟩) Q E s := by
  obtain ⟨hh, g, d, tk, os⟩ := s
  wp_walk using wpAny_load hx
  simp only [hp]
  wp_walk
  exact q
theorem declines_bool {b : Bool} (hx : s.heap.get? x = some ox) (hp : ox.data = .plain) {Q : Fin → Shared → Prop} (q : Q (.done (.ret .notImplemented)) s) : wpAny (model prog w) A (Builtin.«int.__eq__» ⟨[.bool b, .ref x], []⟩) Q E s := by
  obtain ⟨hh, g, d, tk, os⟩ := s
  wp_walk using wpAny_load hx
  simp only [hp]
  wp_walk
  exact q
theorem declines_str {z : Str} {u : Tok} (hx : s.heap.get? x = some ox) (hp : ox.data = .plain) {Q : Fin → Shared → Prop} (q : Q (.done (.ret .notImplemented)) s) : wpAny (model prog w) A (Builtin.«str.__eq__» ⟨[.str z u, .ref x], []⟩) Q E s := by
  obtain ⟨hh, g, d, tk, os⟩ := s
  wp_walk using wpAny_load hx
  simp only [hp]
  wp_walk
  exact q
theorem declines_none {Q : Fin → Shared → Prop} (q : Q (.done (.ret .notImplemented)) s) : wpAny (model prog w) A (Builtin.«NoneType.__eq__» ⟨[.none, .ref x], []⟩) Q E s := by
  obtain ⟨hh, g, d, tk, os⟩ := s
  wp_walk
  exact q
theorem declines_list {l : Addr} (hi : PySem.W.Looks (model prog w) s.heap (isInstance (.ref x) (.type "list")) false) {Q : Fin → Shared → Prop} (q : Q (.done (.ret .notImplemented)) s) : wpAny (model prog w) A (Builtin.«list.__eq__» ⟨[.ref l, .ref x], []⟩) Q E s := by
  unfold Builtin.«list.__eq__»
  refine wpAny_bind (m := slotArgs "__eq__" 1 _) (wpAny_pure ?_)
  refine wpAny_bind (hi.here ?_)
  exact wpAny_pure q
theorem declines_tuple {l : Addr} (hi : PySem.W.Looks (model prog w) s.heap (isInstance (.ref x) (.type "tuple")) false) {Q : Fin → Shared → Prop} (q : Q (.done (.ret .notImplemented)) s) : wpAny (model prog w) A (Builtin.«tuple.__eq__» ⟨[.ref l, .ref x], []⟩) Q E s := by
  unfold Builtin.«tuple.__eq__»
  refine wpAny_bind (m := slotArgs "__eq__" 1 _) (wpAny_pure ?_)
  refine wpAny_bind (hi.here ?_)
  exact wpAny_pure q
theorem declines_dict {l : Addr} (hi : PySem.W.Looks (model prog w) s.heap (isInstance (.ref x) (.type "dict")) false) {Q : Fin → Shared → Prop} (q : Q (.done (.ret .notImplemented)) s) : wpAny (model prog w) A (Builtin.«dict.__eq__» ⟨[.ref l, .ref x], []⟩) Q E s := by
  unfold Builtin.«dict.__eq__»
  refine wpAny_bind (m := Builtin.Dict.dictSlotArgs "__eq__" _) (wpAny_pure ?_)
  refine wpAny_bind (hi.here ?_)
  refine wpAny_bind (wpAny_rule ?_)
  exact wpAny_pure q
end

/-- the data of an instance -/
theorem ins_plain {P : Program} {w : World} {H : Hp} {h : Heap} {a C dx : Addr} {fs : List (Str × V)} (hok : HOk P w H h) (e : H a = some (.ins C dx fs)) : ∃ ox, h.get? a = some ox ∧ ox.data = .plain := by
  obtain ⟨mA, J, _⟩ := ins_get hok e
  exact ⟨_, J.obj, rfl⟩
section
open PySem.SeqAt
variable {X : Cx} {k : Nat} {C f : Addr} {fd : FuncData} {ps : List Str} {sp : Sp} {A : Around} {E : Value → Shared → Prop}
theorem first_declines {pins : List (Addr × Obj)} {σ : L2.St} {H : Hp} {s : Shared} {y : V} {u : Value} {d : PyData} {a dx : Addr} {fs : List (Str × V)} (AP : Apart X.K C) (I : Inv X pins σ H s) (r : RelV y u) (h : Dq X.K H y d) (ea : H a = some (.ins C dx fs)) {Q : Option Value → Shared → Prop} (q : Q none s) :
    wpAny (model X.prog X.w) A (tryCompare u "__eq__" (.ref a)) Q E s := by
  obtain ⟨ox, ho, hp⟩ := ins_plain I.hok ea
  obtain ⟨mA, J, _⟩ := ins_get I.hok ea
  obtain ⟨od, J, _⟩ := J.look
  have hi : ∀ T, PySem.W.mroIn X.K C (.type T) = some false → PySem.W.Looks (model X.prog X.w) s.heap (isInstance (.ref a) (.type T)) false := fun T e => J.type.andThen (PySem.W.looks_mroIn I.kIn e)
  have ty := looks_ty I r h
  cases h with
  | non =>
    cases (show u = Value.none from r)
    exact wpAny_tryCompare_declines ty F.slot_NoneType_eq (GQ.call_here F.slot_NoneType_eq ty F.entry_NoneType_eq (F.args_NoneType_eq_2 _ _) (declines_none ⟨rfl, q⟩))
  | bl b =>
    cases (show u = Value.bool b from r)
    exact wpAny_tryCompare_declines ty F.slot_bool_eq (GQ.call_here F.slot_bool_eq ty F.entry_int_eq (F.args_int_eq_2 _ _) (declines_bool ho hp ⟨rfl, q⟩))
  | int i =>
    obtain ⟨t, rfl⟩ := r
    exact wpAny_tryCompare_declines ty F.slot_int_eq (GQ.call_here F.slot_int_eq ty F.entry_int_eq (F.args_int_eq_2 _ _) (declines_prim ho hp ⟨rfl, q⟩))
  | str z =>
    obtain ⟨t, rfl⟩ := r
    exact wpAny_tryCompare_declines ty F.slot_str_eq (GQ.call_here F.slot_str_eq ty F.entry_str_eq (F.args_str_eq_2 _ _) (declines_str ho hp ⟨rfl, q⟩))
  | lst h g =>
    rename_i l _ _
    cases (show u = Value.ref l from r)
    exact wpAny_tryCompare_declines ty F.slot_list_eq (GQ.call_here F.slot_list_eq ty F.entry_list_eq (F.args_list_eq_2 _ _) (declines_list (hi _ (AP.no "list" (by simp)).2) ⟨rfl, q⟩))
  | tup h g =>
    rename_i l _ _
    cases (show u = Value.ref l from r)
    exact wpAny_tryCompare_declines ty F.slot_tuple_eq (GQ.call_here F.slot_tuple_eq ty F.entry_tuple_eq (F.args_tuple_eq_2 _ _) (declines_tuple (hi _ (AP.no "tuple" (by simp)).2) ⟨rfl, q⟩))
  | dic h =>
    rename_i l
    cases (show u = Value.ref l from r)
    exact wpAny_tryCompare_declines ty F.slot_dict_eq (GQ.call_here F.slot_dict_eq ty F.entry_dict_eq (F.args_dict_eq_2 _ _) (declines_dict (hi _ (AP.no "dict" (by simp)).2) ⟨rfl, q⟩))
  | dct h ne g =>
    rename_i l _ _
    cases (show u = Value.ref l from r)
    exact wpAny_tryCompare_declines ty F.slot_dict_eq (GQ.call_here F.slot_dict_eq ty F.entry_dict_eq (F.args_dict_eq_2 _ _) (declines_dict (hi _ (AP.no "dict" (by simp)).2) ⟨rfl, q⟩))
theorem op_eqR (S : OwnS X.prog X.w X.K X.mg X.base k C "__eq__" ps sp f fd) (AP : Apart X.K C) (hr : Room k X.A) : OpR X (compareOp .Eq) (rEqR X.K C sp) := by
  intro pins s σ H x y v u Q I rx ry h
  obtain ⟨a, dx, fs, d, rfl, ea, hd, hs⟩ := h
  cases (show u = Value.ref a from ry)
  obtain ⟨mA, J, _⟩ := ins_get I.hok ea
  obtain ⟨od, J, _⟩ := J.look
  have ty := looks_ty I rx hd
  show wpAny (model X.prog X.w) X.A (richCompare .Eq v (.ref a)) (EP X pins σ Q) X.xe s
  rcases hi : cmpInfo CmpOp.Eq with ⟨sym, f1, r1⟩
  cases hi
  simp only [richCompare, cmpInfo, ty.oneThing_none]
  refine wpAny_holding (wpAny_bind (wpAny_cRoomFor hr.units0 ?_))
  refine wpAny_bind (wpAny_typeOf ty (wpAny_bind (J.type.here ?_)))
  have ne : (Value.type (tyD d) != Value.ref C) = true := rfl
  simp only [ne, if_true]
  refine wpAny_bind ((PySem.W.looks_mroIn I.kIn (AP.no _ (tyD_mem d)).2).here ?_)
  simp only [Bool.false_eq_true, if_false, Bool.not_false, if_true]
  refine wpAny_bind (first_declines AP I rx hd ea ?_)
  refine wpAny_bind ?_
  unfold tryCompare
  refine wpAny_bind (PySem.W.ifBound_K I.kIn J S.at_ S.fn ?_)
  refine wpAny_mono (run_sub S.ok hr rfl S.b pass0 I (vs := [.ref a, x]) (.cons rfl (.cons rx .nil)) hs) (fun v s' hq => ?_) fun _ _ z => z
  obtain ⟨x, H', I', rx, b, rfl, q⟩ := hq
  cases (show v = Value.bool b from rx)
  exact wpAny_pure (wpAny_pure ⟨.bl b, H', I', rfl, q⟩)
/-- o != y -/
def rNeO (K : PySem.W.Frag) (C : Addr) (sp : Sp) : R2 := fun x y H Q => ∃ (a dx : Addr) (fs : List (Str × V)), x = .ref a ∧ H a = some (.ins C dx fs) ∧ ((∃ (b dy : Addr) (gs : List (Str × V)), y = .ref b ∧ H b = some (.ins C dy gs)) ∨ ∃ d, Dq K H y d) ∧
  sp [x, y] H (fun v H' => ∃ b, v = .bl b ∧ Q (.bl (!b)) H') E0
/-- no own != -/
structure NoNe (K : PySem.W.Frag) (C : Addr) : Prop where
  ne : PySem.W.findIn K (.ref C) "__ne__" = some (some (.builtin "object.__ne__"))
  ob : PySem.W.mroIn K C (.type "object") = some true
theorem op_neO (S : OwnS X.prog X.w X.K X.mg X.base k C "__eq__" ps sp f fd) (AP : Apart X.K C) (NN : NoNe X.K C) (hr : Room (k + 1) X.A) : OpR X (compareOp .NotEq) (rNeO X.K C sp) := by
  intro pins s σ H x y v u Q I rx ry h
  obtain ⟨a, dx, fs, rfl, ea, hy, hs⟩ := h
  cases (show v = Value.ref a from rx)
  obtain ⟨mA, J, _⟩ := ins_get I.hok ea
  obtain ⟨od, J, _⟩ := J.look
  have tb : ∃ tb, PySem.W.Looks (model X.prog X.w) s.heap (typeOf u) tb ∧ PySem.W.notFirst X.K C tb = true := by
    rcases hy with ⟨b, dy, gs, rfl, eb⟩ | ⟨d, hd⟩
    · cases (show u = Value.ref b from ry)
      obtain ⟨mB, J', _⟩ := ins_get I.hok eb
      obtain ⟨od', J', _⟩ := J'.look
      exact ⟨.ref C, J'.type, by simp [PySem.W.notFirst]⟩
    · refine ⟨.type (tyD d), looks_of (looks_ty I ry hd), ?_⟩
      unfold PySem.W.notFirst
      rw [(AP.no _ (tyD_mem d)).1]
      simp
  obtain ⟨tb, h1, h2⟩ := tb
  have one : wpAny (model X.prog X.w) X.A (tryCompare (.ref a) "__ne__" u) (fun r s' => ∃ b : Bool, r = some (.bool b) ∧ EP X pins σ Q (.bool b) s') X.xe s := by
    unfold tryCompare
    simp only [callSpecialIfBound?, bindSpecialIfBound?]
    refine wpAny_bind (wpAny_holding (wpAny_bind (wpAny_bind (wpAny_bind (J.type.here ((PySem.W.looks_findIn I.kIn NN.ne).here ?_))))))
    refine wpAny_bind (wpAny_askSetting (wpAny_ite ?_))
    have fin : ∀ R : Option Value → Shared → Prop, (∀ (b : Bool) s', EP X pins σ Q (.bool b) s' → R (some (.bool b)) s') → wpAny (model X.prog X.w) X.A (call (.builtin "object.__ne__") ([.ref a] ++ [u]) >>= fun v => pure (some v)) R X.xe s := by
      intro R hR
      refine wpAny_bind (wpAny_call (codeAny_call_builtin F.slot_object_ne.plain F.entry_object_ne (PySem.W.check_slot (i := "object.__ne__") (owner := "object") (n := "__ne__") (by decide +kernel) (by decide +kernel) (J.type.andThen (PySem.W.looks_mroIn I.kIn NN.ob)) (F.cmpArgs_ne _ _) ?_)))
      unfold Builtin.«object.__ne__»
      refine wpAny_bind (m := slotArgs "__ne__" 1 _) (wpAny_pure ?_)
      refine wpAny_bind (wpAny_cRoomFor hr.in1.units0 ?_)
      refine wpAny_bind (PySem.W.ifBound_K I.kIn J S.at_ S.fn ?_)
      refine wpAny_mono (run_sub S.ok hr.in1 rfl S.b pass0 I (vs := [.ref a, y]) (.cons rfl (.cons ry .nil)) hs) (fun v s' hq => ?_) fun _ _ z => z
      obtain ⟨x, H', I', rx, b, rfl, q⟩ := hq
      cases (show v = Value.bool b from rx)
      refine wpAny_bind (wpAny_truthy_bool ?_)
      exact wpAny_pure (wpAny_pure (hR _ _ ⟨.bl (!b), H', I', rfl, q⟩))
    split
    · exact wpAny_bind ((PySem.W.Looks.of_pure (F.slot_object_ne.bind _)).here (wpAny_pure (fin _ fun b s' h => wpAny_pure ⟨b, rfl, h⟩)))
    · exact wpAny_tryCatch (wpAny_bind ((PySem.W.Looks.of_pure (F.slot_object_ne.bind _)).here (wpAny_pure (fin _ fun b s' h => wpAny_pure ⟨b, rfl, h⟩))))
  show wpAny (model X.prog X.w) X.A (richCompare .NotEq (.ref a) u) (EP X pins σ Q) X.xe s
  unfold richCompare
  simp only [oneThing_ref]
  refine wpAny_holding (wpAny_bind (wpAny_cRoomFor hr.units0 ?_))
  refine wpAny_bind (J.type.here (wpAny_bind (h1.here ?_)))
  split
  · rename_i q
    have e : PySem.W.subIn X.K tb (.ref C) = some false := by
      rcases Bool.or_eq_true_iff.mp h2 with e | e
      · rw [beq_iff_eq.mp e] at q
        simp at q
      · exact beq_iff_eq.mp e
    refine wpAny_bind ((PySem.W.looks_subIn I.kIn e).here ?_)
    simp only [Bool.false_eq_true, if_false]
    refine wpAny_bind (wpAny_mono one (fun r s' z => ?_) fun _ _ e => e)
    obtain ⟨b, rfl, hq⟩ := z
    exact wpAny_pure hq
  · refine wpAny_bind (wpAny_pure ?_)
    simp only [Bool.false_eq_true, if_false]
    refine wpAny_bind (wpAny_mono one (fun r s' z => ?_) fun _ _ e => e)
    obtain ⟨b, rfl, hq⟩ := z
    exact wpAny_pure hq
end
end Lw

set_option Elab.async false
set_option linter.all false
set_option maxRecDepth 100000
set_option maxHeartbeats 4000000
namespace Lw
open PySem PySem.Spec PyProof.Rows L2
/-! ## enumerate of a tuple -/
section
open AutoSeq1 (wpAny_loadPart')
set_option maxHeartbeats 1000000 in
theorem meets_enumT {v : Value} {o : Obj} {H : Heap → Prop} (B : Begins v o H) :
    Meets (Builtin.«enumerate.__new__» ⟨[.type "enumerate", v], []⟩) (fun _ R s => H s.heap ∧
      R (.ok (.ret (.ref (s.heap.push o).objs.size))) { s with heap := (s.heap.push o).push { cls := .type "enumerate", data := .fields #[.none, .bool false, .ref s.heap.objs.size, rawInt 0, .none, .none] } }) :=
  .of_wp fun prog w A R s h => by
    obtain ⟨hp, g, d, tk, os⟩ := s; obtain ⟨h1, h⟩ := h
    have hsub := sub_enumerate
    have q1 : ∀ {A' : Around} {E : Value → Shared → Prop} {Q : Value → Shared → Prop}, Q (.ref hp.objs.size) ⟨hp.push o, g, d, tk, os⟩ → wpAny (model prog w) A' (pyIter v) Q E ⟨hp, g, d, tk, os⟩ :=
      fun q => B.iter prog w _ _ ⟨hp, g, d, tk, os⟩ _ h1 q
    wp_walk using q1
    refine wpAny_stack_any fun st => wpAny_pure ?_
    split
    · rename_i c _ _ _ _ _
      cases (c == Value.type "enumerate")
      · wp_walk using q1
        exact ⟨_, rfl, h⟩
      · wp_walk using q1
        exact ⟨_, rfl, h⟩
    · wp_walk using q1
      exact ⟨_, rfl, h⟩
end
section
variable {prog : Program} {w : World} {A : Around} {E : Value → Shared → Prop} {s : Shared}
theorem call_enumB {v : Value} {o : Obj} {H : Heap → Prop} {Q : Value → Shared → Prop} (B : Begins v o H) (h1 : H s.heap)
    (h : ∀ h', IsEnum h' (s.heap.objs.size + 1) s.heap.objs.size 0 .none → h'.get? s.heap.objs.size = some o → h'.objs.size = s.heap.objs.size + 2 →
      (∀ b o, s.heap.get? b = some o → h'.get? b = some o) → Q (.ref (s.heap.objs.size + 1)) { s with heap := h' }) :
    wpAny (model prog w) A (call (.type "enumerate") [v]) Q E s := by
  refine callType_new F.called_enumerate (by decide) (F.typeCall_enumerate_1 _) (F.newCall_enumerate_1 _) (fun obj => F.args_object_init_2 obj _) F.entry_enumerate_new
    (meets_enumT B) ⟨h1, ?_⟩
  have hz : (s.heap.push o).objs.size = s.heap.objs.size + 1 := Heap.size_push ..
  show _ ∧ _
  rw [hz]
  have he : IsEnum ((s.heap.push o).push { cls := .type "enumerate", data := .fields #[.none, .bool false, .ref s.heap.objs.size, rawInt 0, .none, .none] }) (s.heap.objs.size + 1) s.heap.objs.size 0 .none := by
    have := Heap.get?_push_size (s.heap.push o) (o := { cls := .type "enumerate", data := .fields #[.none, .bool false, .ref s.heap.objs.size, rawInt 0, .none, .none] }) rfl
    rw [hz] at this; exact this
  refine ⟨⟨_, he, rfl⟩, h _ he (Heap.get?_push_of_some _ (Heap.get?_push_size _ B.free)) (by rw [Heap.size_push, hz]) fun b o x => Heap.get?_push_of_some _ (Heap.get?_push_of_some _ x)⟩
end
/-- the tuple at a, each item in a new pair -/
def IteT (K : PySem.W.Frag) (a : Addr) : It :=
  ⟨fun i H => ∃ (xs : List V) (x : V), SqT K H a xs ∧ xs[i]? = some x, fun i H v H' => ∃ T x, v = .ref T ∧ H T = none ∧ H' = upd H T (.tup [.int (i : Nat), x]) ∧ ∀ xs, SqT K H a xs → xs[i]? = some x, fun i H => ∃ xs : List V, SqT K H a xs ∧ xs.length = i⟩
theorem turn_enumT {P : Program} {w : World} {K : PySem.W.Frag} {elts : List Expr} {kk : Nat} {tpos : Pos} (a e it : Addr) (hea : e ≠ a) (hia : a ≠ it) :
    Turn P w K (.Tuple elts kk tpos) (IteT K a) [e, it] e (fun i h => (∃ old, IsEnum h e it ((i : Nat) : Int) old) ∧ h.IsTupleIter it a i ∧ e ≠ it) where
  mem := by simp
  obj := fun i h st b hb => by
    obtain ⟨⟨old, he⟩, ⟨o, ho, hc, hd⟩, _⟩ := st
    have e' : b = e ∨ b = it := by simpa using hb
    rcases e' with z | z
    · rw [z]; exact ⟨_, he, fun v q => nomatch q⟩
    · rw [z]; exact ⟨o, ho, fun v q => by rw [hd] at q; cases q⟩
  keep := fun i h h' st k => let ⟨⟨old, he⟩, hi, hne⟩ := st; ⟨⟨old, k e (by simp) _ he⟩, hi.at fun o q => k it (by simp) o q, hne⟩
  item := by
    intro X hP hw hK hc i pins s σ H E I hf st hg
    subst hP hw hK
    obtain ⟨⟨old, he⟩, hit, hne⟩ := st
    obtain ⟨xs, x, hq, hx⟩ := hg
    obtain ⟨its, rv, p, hz⟩ := I.tuple hq
    obtain ⟨u, hu, ru⟩ := rv.get hx
    have hel : e < s.heap.objs.size := Heap.lt_size he
    have hil : it < s.heap.objs.size := by obtain ⟨_, q, _⟩ := hit; exact Heap.lt_size q
    have hlt : i < its.toArray.size := by
      have := (List.getElem?_eq_some_iff.mp hu).1
      simpa using this
    refine wpAny_pyNext_enum_itemD (Draws.tuple (prog := X.prog) (w := X.w) (A := X.A.in1) (I.ok.hd hc) it a hia its.toArray) he ⟨hit, p⟩ hlt hne (by simp [hne, hea]) fun y h' tk hy ho st' hT hsz hk => ?_
    have hyu : y = u := by
      have h2 : its[i]? = some y := by simpa using hy
      rw [hu] at h2
      exact (Option.some.inj h2).symm
    subst hyu
    refine ⟨_, rfl, wpAny_letOwnedTupleGo_enum (s := { s with heap := h', toks := tk + 1 }) ho fun h'' he' sb => ?_⟩
    have hT2 : h''.get? s.heap.objs.size = some { cls := .type "tuple", data := .seq #[.int i tk, y] } := (sb.2 _ (Nat.ne_of_gt hel)).trans hT
    have new : ObjOk X.prog X.w (upd H s.heap.objs.size (.tup [.int (i : Nat), x])) h'' s.heap.objs.size (.tup [.int (i : Nat), x]) :=
      ⟨by show 2 ≤ sizeLine; decide, [.int i tk, y], .cons ⟨_, rfl⟩ (.cons ru .nil), ⟨_, hT2, rfl, _, rfl⟩⟩
    have I1 : Inv X pins σ (upd H s.heap.objs.size (.tup [.int (i : Nat), x])) { s with heap := h'', toks := tk + 1 } :=
      I.turnedNew (ch := [e, it]) (fun b ob hb q => (sb.2 b (fun z => hb (by simp [z]))).trans (hk b ob (fun z => hb (by simp [z])) (fun z => hb (by simp [z])) q)) hf (Nat.le_refl _) new
    refine ⟨.ref s.heap.objs.size, _, I1, rfl, ⟨_, x, rfl, I.hok.fresh (Nat.le_refl _), rfl, fun ys hy => by rw [I.tuple_inj hy hq]; exact hx⟩, ⟨⟨y, ?_⟩, st'.1.at fun o q => (sb.2 it (Ne.symm hne)).trans q, hne⟩, fun b hb => ?_⟩
    · have e1 : ((i + 1 : Nat) : Int) = (i : Int) + 1 := by omega
      rw [e1]; exact he'
    · have hb' : b < s.heap.objs.size := by
        have e' : b = e ∨ b = it := by simpa using hb
        rcases e' with z | z
        · rw [z]; exact hel
        · rw [z]; exact hil
      rw [upd_ne (Nat.ne_of_lt hb')]
      exact (hf b hb).1
  done := by
    intro X hP hw hK hc i pins s σ H E I hf st hg
    subst hP hw hK
    obtain ⟨⟨old, he⟩, hit, hne⟩ := st
    obtain ⟨xs, hq, hx⟩ := hg
    obtain ⟨its, rv, p, hz⟩ := I.tuple hq
    obtain ⟨f0, f1, f2, f3, f4, f5⟩ := hf it (by simp)
    have hl := rv.length
    have hn : i = its.toArray.size := by
      simp
      omega
    refine wpAny_pyNext_enum_endD (Draws.tuple (prog := X.prog) (w := X.w) (A := X.A.in1) (I.ok.hd hc) it a hia its.toArray) he (by rw [← hn]; exact ⟨hit, p⟩) fun h' eb => ⟨rfl, I.turned (t' := s.toks) (fun b o hb q => eb b o hb q) f0 f1 f3 f4 f5⟩
  self := fun A i s Q E st h => let ⟨⟨_, he⟩, _⟩ := st; wpAny_pyIter_enum he h
/-- a list (false) or a tuple (true) -/
def SqB (K : PySem.W.Frag) (b : Bool) (H : Hp) (a : Addr) (xs : List V) : Prop := match b with
  | true => SqT K H a xs
  | false => SqL K H a xs
theorem SqB.any {K : PySem.W.Frag} {b : Bool} {H : Hp} {a : Addr} {xs : List V} (h : SqB K b H a xs) : SqL K H a xs ∨ SqT K H a xs := by
  cases b
  · exact .inl h
  · exact .inr h
theorem SqB.same {K : PySem.W.Frag} {b : Bool} {H H' : Hp} {a : Addr} {xs : List V} (s : Same H H') (h : SqB K b H a xs) : SqB K b H' a xs := by
  cases b
  · exact s.seq h
  · exact same_t s h
def IteB (K : PySem.W.Frag) (b : Bool) (a : Addr) : It := match b with
  | true => IteT K a
  | false => Ite K a
def iEnumB (K : PySem.W.Frag) (ta : TA) : TI := fun σ H R => ta σ H fun vs H1 => ∃ b a xs, vs = [.ref a] ∧ SqB K b H1 a xs ∧ R (IteB K b a) H1
theorem pi_enumB {X : Cx} {e : Expr} {ta : TA} {p pos tpos : Pos} {elts : List Expr} {kk : Nat} (hg : Gl X "enumerate") (hm : X.mg "enumerate" = none) (ha : PA X [e] ta) (hs : starEach [e] X.env = [(false, eval e X.env)] := by rfl) :
    PI X (.Tuple elts kk tpos) (.Call (.Name "enumerate" p) [e] [] pos) (iEnumB X.K ta) := by
  refine ⟨fun pins s σ H R I h => ?_⟩
  refine Call_ (ld_blt I hg hm boot_enumerate (PyProof.Rows.callWith_type1 (thn (ha.run pos pins s σ H _ I h) fun us s1 ⟨vs, H1, I1, r1, q1⟩ => ?_) hs rfl))
  obtain ⟨b, a, xs, ex, hq, q⟩ := q1
  subst ex
  cases r1 with
  | cons r rr =>
    cases rr
    cases r
    cases b with
    | false =>
      obtain ⟨its, rv, p', hz⟩ := I1.list hq
      refine call_enumerate_list p'.isList fun h' he hit hsz hk => wpAny_pyIter_enum he ?_
      have I2 : Inv X pins σ H1 { s1 with heap := h' } := I1.kept (t' := s1.toks) hk
      refine ⟨s1.heap.objs.size + 1, [s1.heap.objs.size + 1, s1.heap.objs.size], _, _, H1, rfl, I2, turn_enum a (s1.heap.objs.size + 1) s1.heap.objs.size, ⟨⟨.none, he⟩, hit, Nat.succ_ne_self _⟩, fun b hb => ?_, q⟩
      have e' : b = s1.heap.objs.size + 1 ∨ b = s1.heap.objs.size := by simpa using hb
      have hle : s1.heap.objs.size ≤ b := by
        rcases e' with z | z
        · rw [z]; exact Nat.le_add_right _ _
        · rw [z]; exact Nat.le_refl _
      exact I1.fpOk hle (I1.hok.fresh hle)
    | true =>
      obtain ⟨its, rv, p', hz⟩ := I1.tuple hq
      have al : a < s1.heap.objs.size := by
        obtain ⟨o, ho, _⟩ := p'
        exact Heap.lt_size ho
      refine call_enumB (begins_tuple a its.toArray) p' fun h' he hit hsz hk => wpAny_pyIter_enum he ?_
      have I2 : Inv X pins σ H1 { s1 with heap := h' } := I1.kept (t' := s1.toks) hk
      refine ⟨s1.heap.objs.size + 1, [s1.heap.objs.size + 1, s1.heap.objs.size], _, _, H1, rfl, I2, turn_enumT a (s1.heap.objs.size + 1) s1.heap.objs.size (Nat.ne_of_gt (Nat.lt_succ_of_lt al)) (Nat.ne_of_lt al), ⟨⟨.none, he⟩, ⟨_, hit, rfl, rfl⟩, Nat.succ_ne_self _⟩, fun b hb => ?_, q⟩
      have e' : b = s1.heap.objs.size + 1 ∨ b = s1.heap.objs.size := by simpa using hb
      have hle : s1.heap.objs.size ≤ b := by
        rcases e' with z | z
        · rw [z]; exact Nat.le_add_right _ _
        · rw [z]; exact Nat.le_refl _
      exact I1.fpOk hle (I1.hok.fresh hle)
theorem walk_enumB {K : PySem.W.Frag} {b : Bool} {a : Addr} {xs : List V} : Walk (IteB K b a) xs.length (fun H => SqB K b H a xs) (YPair (fun i => some (.int (i : Nat))) (fun i => xs[i]?)) := by
  cases b with
  | false => exact walk_enum
  | true =>
    refine ⟨fun i _ hi q => ⟨xs, xs[i], q, by simp [hi]⟩, fun _ q => ⟨xs, q, rfl⟩, fun i H v H' _ q y => ?_⟩
    obtain ⟨T, x, h1, h2, h3, h4⟩ := y
    exact ⟨T, .int (i : Nat), x, h1, h2, h3, rfl, h4 xs q⟩
/-- a slice of a list or of a tuple -/
def rSlB (K : PySem.W.Frag) : V → Option Int → Option Int → Hp → VK → Prop := fun x lo hi H Q => rSlL K x lo hi H Q ∨ rSlT K x lo hi H Q
theorem sl_both {X : Cx} : SlR X (rSlB X.K) := by
  intro pins s σ H x v vl vu lo hi sl Q I rx hs pl pu h
  rcases h with h | h
  · exact sl_list pins s σ H x v vl vu lo hi sl Q I rx hs pl pu h
  · exact sl_tup pins s σ H x v vl vu lo hi sl Q I rx hs pl pu h
/-! ## {x!r} of data -/
def tFmtD (K : PySem.W.Frag) (te : TE) : TE := fun σ H Q => te σ H fun v H1 => ∃ (a : Addr) (d : PyData), v = .ref a ∧ Dq K H1 v d ∧ d.showable = true ∧ d.shown.length ≤ sizeLine ∧ d.depth ≤ 60 ∧ Q (.str d.shown) H1
theorem pe_fmtD {X : Cx} {e : Expr} {te : TE} {pos : Pos} (B : SysOk X.base) (hg : X.A.guards = some []) (hu : X.A.units + 64 < cLine) (he : PE X e te) : PE X (.FormattedValue e 114 none pos) (tFmtD X.K te) := by
  refine ⟨fun pins s σ H Q I h => ?_⟩
  refine wpAny_FormattedValue_repr (thn (he.run pins s σ H _ I h) fun v s1 hv => ?_)
  obtain ⟨x, H1, I1, r1, a, d, rfl, hd, hs, hz, hp, q⟩ := hv
  cases (show v = Value.ref a from r1)
  obtain ⟨as, rr, ns⟩ := Dq.reads B I1 d _ _ hd rfl
  refine pyReprObj_of_reads rr hs (fun _ => ns) hg (by omega) (fun _ _ e => e) ?_ hz
  intro h' u tk hk
  exact wpAny_formatField_str ⟨.str _, H1, I1.kept hk, ⟨_, rfl⟩, q⟩ ⟨.str _, H1, (I1.kept hk).tok _, ⟨_, rfl⟩, q⟩ hz
end Lw

set_option Elab.async false
set_option linter.all false
set_option maxRecDepth 100000
set_option maxHeartbeats 4000000
namespace Lw
open PySem PySem.Spec PyProof.Rows L2
/-! ## kinds of data -/
def isS : PyData → Bool
  | .str _ => true
  | _ => false
def isT : PyData → Bool
  | .tuple _ => true
  | _ => false
def isL : PyData → Bool
  | .list _ => true
  | _ => false
def isDc : PyData → Bool
  | .dict _ => true
  | _ => false
def isI : PyData → Bool
  | .int _ => true
  | .bool _ => true
  | _ => false
def isB : PyData → Bool
  | .bool _ => true
  | _ => false
theorem kit_str (d : PyData) : kitB (tyD d) "str" = some (isS d) := by
  cases d
  all_goals
    simp only [tyD, isS]
    decide +kernel
theorem kit_tuple (d : PyData) : kitB (tyD d) "tuple" = some (isT d) := by
  cases d
  all_goals
    simp only [tyD, isT]
    decide +kernel
theorem kit_list (d : PyData) : kitB (tyD d) "list" = some (isL d) := by
  cases d
  all_goals
    simp only [tyD, isL]
    decide +kernel
theorem kit_dict (d : PyData) : kitB (tyD d) "dict" = some (isDc d) := by
  cases d
  all_goals
    simp only [tyD, isDc]
    decide +kernel
theorem kit_int (d : PyData) : kitB (tyD d) "int" = some (isI d) := by
  cases d
  all_goals
    simp only [tyD, isI]
    decide +kernel
theorem kit_bool (d : PyData) : kitB (tyD d) "bool" = some (isB d) := by
  cases d
  all_goals
    simp only [tyD, isB]
    decide +kernel
def intD (d : PyData) : Bool := isI d && !isB d
theorem intD_int {d : PyData} (h : intD d = true) : ∃ i, d = .int i := by
  cases d with
  | int i => exact ⟨i, rfl⟩
  | _ => cases h
def sp_int (K : PySem.W.Frag) : Sp := fun vs H Q _ => ∃ (v : V) (d : PyData), vs = [v] ∧ Dq K H v d ∧ Q (.bl (intD d)) H
theorem take_map {ds : List PyData} {i : Nat} {d : PyData} {g : PyData → Bool} (h : ds[i]? = some d) : ((ds.take (i + 1)).map g) = ((ds.take i).map g) ++ [g d] := by
  rw [List.take_add_one, h, List.map_append]
  rfl
/-! ## names -/
def abc : Str := "abcdefghijklmnopqrstuvwxyz"
theorem abc_len : abc.length = 26 := by decide +kernel
theorem abc_bytes : ∀ c ∈ abc.cps.toList, c < 256 := by decide +kernel
def nameB (z : Str) : Bool := (decide ((1 : Int) ≤ (z.length : Int)) && decide ((z.length : Int) ≤ 8)) && z.cps.toList.all fun c => decide (c ∈ abc.cps.toList)
def nameD : PyData → Bool
  | .str z => nameB z
  | _ => false
def Short (d : PyData) : Prop := ∀ z, d = .str z → z.length ≤ 1000
def sp_name (K : PySem.W.Frag) : Sp := fun vs H Q _ => ∃ (v : V) (d : PyData), vs = [v] ∧ Dq K H v d ∧ Short d ∧ ∀ H', Same H H' → Q (.bl (nameD d)) H'
theorem map_take {z : Str} {i : Nat} {c : Nat} {g : Nat → Bool} (h : z.cps[i]? = some c) : ((z.cps.toList.take (i + 1)).map g) = ((z.cps.toList.take i).map g) ++ [g c] := by
  have e : z.cps.toList[i]? = some c := by
    rw [Array.getElem?_toList]
    exact h
  rw [List.take_add_one, e, List.map_append]
  rfl
theorem all_id {l : List Nat} {g : Nat → Bool} : (l.map g).all id = l.all g := by
  rw [List.all_map]
  rfl
theorem name_len {z : Str} (h : nameB z = true) : 1 ≤ z.length ∧ z.length ≤ 8 := by
  unfold nameB at h
  simp only [Bool.and_eq_true, decide_eq_true_eq] at h
  omega
theorem name_abc {z : Str} (h : nameB z = true) : ∀ c ∈ z.cps.toList, c ∈ abc.cps.toList := by
  unfold nameB at h
  simp only [Bool.and_eq_true, List.all_eq_true, decide_eq_true_eq] at h
  exact h.2
theorem name_bytes {z : Str} (h : nameB z = true) : Bytes z := fun c hc => abc_bytes c (name_abc h c hc)
/-! ## the first wrong name -/
def fwGo : List Str → List PyData → Nat → Option Nat
  | _, [], _ => none
  | seen, .str z :: r, i => if nameB z && !seen.contains z then fwGo (seen ++ [z]) r (i + 1) else some i
  | _, _ :: _, i => some i
def fwL (ds : List PyData) : Option Int := if 1 ≤ ds.length ∧ ds.length ≤ 12 then (fwGo [] ds 0).map Int.ofNat else some (-1)
def fwD : PyData → Option Int
  | .list ds => fwL ds
  | .tuple ds => fwL ds
  | _ => some (-1)
def fwV (d : PyData) : V := match fwD d with
  | none => .non
  | some i => .int i
theorem fwGo_bad {seen : List Str} {d : PyData} {r : List PyData} {i : Nat} (h : nameD d = false) : fwGo seen (d :: r) i = some i := by
  cases d with
  | str z =>
    have h' : nameB z = false := h
    simp [fwGo, h']
  | _ => rfl
theorem fwGo_in {seen : List Str} {z : Str} {r : List PyData} {i : Nat} (h : z ∈ seen) : fwGo seen (.str z :: r) i = some i := by
  have : seen.contains z = true := by simpa using h
  unfold fwGo
  rw [this, if_neg (by simp)]
theorem fwGo_ok {seen : List Str} {z : Str} {r : List PyData} {i : Nat} (h1 : nameB z = true) (h2 : z ∉ seen) : fwGo seen (.str z :: r) i = fwGo (seen ++ [z]) r (i + 1) := by
  have : seen.contains z = false := by simpa using h2
  conv => lhs; unfold fwGo
  rw [this, h1]
  exact if_pos rfl
/-- fields of a sheet -/
structure Nms (ns : List Str) : Prop where
  lo : 1 ≤ ns.length
  hi : ns.length ≤ 12
  nd : ns.Nodup
  nm : ∀ z ∈ ns, nameB z = true
theorem fwGo_none : ∀ {ds : List PyData} {seen : List Str} {i : Nat}, fwGo seen ds i = none → seen.Nodup → (∀ z ∈ seen, nameB z = true) → ∃ ns : List Str, ds = ns.map PyData.str ∧ (seen ++ ns).Nodup ∧ ∀ z ∈ seen ++ ns, nameB z = true
  | [], seen, i, _, h1, h2 => ⟨[], rfl, by simpa using h1, by simpa using h2⟩
  | d :: r, seen, i, h, h1, h2 => by
    cases e : nameD d with
    | false =>
      rw [fwGo_bad e] at h
      cases h
    | true =>
      cases d with
      | str z =>
        have e' : nameB z = true := e
        by_cases hz : z ∈ seen
        · rw [fwGo_in hz] at h
          cases h
        · rw [fwGo_ok e' hz] at h
          obtain ⟨ns, q1, q2, q3⟩ := fwGo_none h (by
            rw [List.nodup_append]
            refine ⟨h1, by simp, fun a ha b hb => ?_⟩
            cases List.mem_singleton.mp hb
            exact fun q => hz (q ▸ ha)) (fun y hy => by
            rcases List.mem_append.mp hy with hy | hy
            · exact h2 y hy
            · cases List.mem_singleton.mp hy
              exact e')
          refine ⟨z :: ns, by rw [q1]; rfl, ?_, ?_⟩
          · rw [List.append_assoc] at q2
            exact q2
          · rw [List.append_assoc] at q3
            exact q3
      | _ => cases e
theorem fwL_none {ds : List PyData} (h : fwL ds = none) : ∃ ns : List Str, ds = ns.map PyData.str ∧ Nms ns := by
  unfold fwL at h
  split at h
  · rename_i hl
    have h' : fwGo [] ds 0 = none := by
      cases e : fwGo [] ds 0 with
      | none => rfl
      | some i =>
        rw [e] at h
        cases h
    obtain ⟨ns, q1, q2, q3⟩ := fwGo_none h' List.nodup_nil (fun z hz => nomatch hz)
    refine ⟨ns, q1, ?_, ?_, q2, q3⟩
    · rw [q1, List.length_map] at hl
      exact hl.1
    · rw [q1, List.length_map] at hl
      exact hl.2
  · cases h
theorem fwGo_names : ∀ {ns seen : List Str} {i : Nat}, (seen ++ ns).Nodup → (∀ z ∈ ns, nameB z = true) → fwGo seen (ns.map PyData.str) i = none
  | [], _, _, _, _ => rfl
  | z :: r, seen, i, h1, h2 => by
    have hz : z ∉ seen := fun q => by
      rw [List.nodup_append] at h1
      exact h1.2.2 z q z List.mem_cons_self rfl
    show fwGo seen (.str z :: r.map PyData.str) i = none
    rw [fwGo_ok (h2 z List.mem_cons_self) hz]
    refine fwGo_names ?_ fun y hy => h2 y (List.mem_cons_of_mem _ hy)
    rw [List.append_assoc]
    exact h1
theorem fwL_names {ns : List Str} (h : Nms ns) : fwL (ns.map PyData.str) = none := by
  unfold fwL
  rw [if_pos (by rw [List.length_map]; exact ⟨h.lo, h.hi⟩), fwGo_names (seen := []) h.nd h.nm]
  rfl
/-- data that may be handed to a sheet -/
def Sh (d : PyData) : Prop := (∀ ds, d = .list ds ∨ d = .tuple ds → ds.length ≤ 900 ∧ ∀ x ∈ ds, Short x)
def sp_fwn (K : PySem.W.Frag) : Sp := fun vs H Q _ => ∃ (v : V) (d : PyData), vs = [v, .int 12] ∧ Dq K H v d ∧ Sh d ∧ ∀ H', Same H H' → Q (fwV d) H'
def sp_fwd (K : PySem.W.Frag) : Sp := fun vs H Q _ => ∃ (v : V) (d : PyData), vs = [v] ∧ Dq K H v d ∧ Sh d ∧ ∀ H', Same H H' → Q (fwV d) H'
theorem dq_strs {K : PySem.W.Frag} {H : Hp} : ∀ {vs : List V} {ns : List Str}, DqAll K H vs (ns.map PyData.str) → vs = ns.map V.str
  | [], [], _ => rfl
  | _, [], h => by cases h; rfl
  | _, n :: ns, h => by
    cases h with
    | cons h g =>
      cases h
      rw [dq_strs g]
      rfl
theorem strs_dq {K : PySem.W.Frag} {H : Hp} : ∀ ns : List Str, DqAll K H (ns.map V.str) (ns.map PyData.str)
  | [] => .nil
  | n :: ns => .cons (.str n) (strs_dq ns)
theorem flat_strs (ns : List Str) : (ns.map V.str).all flatV = true := by
  rw [List.all_map, List.all_eq_true]
  intro z _
  rfl
theorem in_strs {z : Str} {ns : List Str} : inV (.str z) (ns.map V.str) = decide (z ∈ ns) := by
  unfold inV
  rw [List.any_map]
  by_cases h : z ∈ ns
  · rw [decide_eq_true h, List.any_eq_true]
    exact ⟨z, h, by simp [eqV]⟩
  · rw [decide_eq_false h, List.any_eq_false]
    intro y hy
    have : y ≠ z := fun q => h (q ▸ hy)
    simp [eqV, this]
/-! ## sheets -/
def ShAt (K : PySem.W.Frag) (C : Addr) (H : Hp) (a : Addr) (ns : List Str) : Prop := ∃ dx t, H a = some (.ins C dx [("listed", .ref t)]) ∧ SqT K H t (ns.map V.str) ∧ Nms ns
theorem ShAt.same {K : PySem.W.Frag} {C : Addr} {H H' : Hp} {a : Addr} {ns : List Str} (h : ShAt K C H a ns) (s : Same H H') : ShAt K C H' a ns := by
  obtain ⟨dx, t, h1, h2, h3⟩ := h
  exact ⟨dx, t, s _ _ h1, same_t s h2, h3⟩
/-- an exception with one field that is a number leaves -/
def OutI (f : Str) (C : Addr) (H : Hp) (n : Int) (E : XK) : Prop := ∀ dx H', Same H H' → H dx = none → H' dx = some (.xd [(f, .int n)]) → E (.ref C) (some dx) H'
theorem OutI.later {f : Str} {C : Addr} {H H1 : Hp} {n : Int} {E : XK} (o : OutI f C H n E) (s : Same H H1) : OutI f C H1 n E := fun dx H' s' nd hd => o dx H' (s.trans s') (s.free nd) hd
def sp_iniI (f : Str) (C : Addr) : Sp := fun vs H Q _ => ∃ (a : Addr) (v : V), vs = [.ref a, v] ∧ H a = some (exo a C none) ∧ ∀ dx, H dx = none → dx ≠ a → Q .non (upd (upd H dx (exd dx [(f, v)])) a (exo a C (some dx)))
theorem raise_I {f : Str} {C : Addr} {H : Hp} {n : Int} {E : XK} (o : OutI f C H n E) : [V.int n].length ≤ 1000 ∧ ∀ a, H a = none → sp_iniI f C (.ref a :: ([.int n] ++ [])) (upd H a (exo a C none))
    (fun u H2 => u = .non ∧ ∃ (dd : Addr) (fs : List (Str × V)), H2 a = some (exo a C (some dd)) ∧ H2 dd = some (exd dd fs) ∧ H dd = none ∧ E (.ref C) (some dd) (upd (del H2 a) dd (.xd fs))) (fun _ _ _ => False) := by
  refine ⟨by show 1 ≤ 1000; decide, fun a na => ⟨a, .int n, rfl, upd_same, fun dx nd ne => ⟨rfl, dx, [(f, .int n)], upd_same, ?_, ?_, ?_⟩⟩⟩
  · rw [upd_ne ne, upd_same]
  · exact (same_upd na).free nd
  · have nHd : H dx = none := (same_upd na).free nd
    refine o dx _ (fun b x e => ?_) nHd upd_same
    have ba : b ≠ a := ne_of_none e na
    have bd : b ≠ dx := ne_of_none e nHd
    rw [upd_ne bd, del_ne ba, upd_ne ba, upd_ne bd, upd_ne ba]
    exact e
/-- an exception with the value leaves -/
def OutV (K : PySem.W.Frag) (C : Addr) (H : Hp) (d : PyData) (E : XK) : Prop := ∀ v' dx H', Same H H' → H dx = none → H' dx = some (.xd [("value", v')]) → Fresh K H H' v' d → E (.ref C) (some dx) H'
def sp_iniV (K : PySem.W.Frag) (C : Addr) (n : Nat) : Sp := fun vs H Q _ => ∃ (a : Addr) (v : V) (d : PyData), vs = [.ref a, v] ∧ H a = some (exo a C none) ∧ Dq K H v d ∧ d.depth ≤ n ∧ slim d = true ∧
  ∀ v' H' dx, Same H H' → Fresh K H H' v' d → H' dx = none → dx ≠ a → Q .non (upd (upd H' dx (exd dx [("value", v')])) a (exo a C (some dx)))
theorem raise_V {K : PySem.W.Frag} {C : Addr} {n : Nat} {H : Hp} {v : V} {d : PyData} {E : XK} (hd : Dq K H v d) (hdp : d.depth ≤ n) (hsl : slim d = true) (o : OutV K C H d E) : [v].length ≤ 1000 ∧ ∀ a, H a = none → sp_iniV K C n (.ref a :: ([v] ++ [])) (upd H a (exo a C none))
    (fun u H2 => u = .non ∧ ∃ (dd : Addr) (fs : List (Str × V)), H2 a = some (exo a C (some dd)) ∧ H2 dd = some (exd dd fs) ∧ H dd = none ∧ E (.ref C) (some dd) (upd (del H2 a) dd (.xd fs))) (fun _ _ _ => False) := by
  refine ⟨by show 1 ≤ 1000; decide, fun a na => ⟨a, v, d, rfl, upd_same, hd.same (same_upd na), hdp, hsl, fun v' H' dx s' fr nd ne => ⟨rfl, dx, [("value", v')], upd_same, ?_, ?_, ?_⟩⟩⟩
  · rw [upd_ne ne, upd_same]
  · exact (same_upd na).free (s'.free nd)
  · have nHd : H dx = none := (same_upd na).free (s'.free nd)
    refine o v' dx _ (fun b x e => ?_) nHd upd_same (Dq.same (nw_mono (fun b e => (same_upd na).free e) fun b x h1 h2 => ?_) fr)
    · have ba : b ≠ a := ne_of_none e na
      have bd : b ≠ dx := ne_of_none e nHd
      rw [upd_ne bd, del_ne ba, upd_ne ba, upd_ne bd]
      exact s' _ _ (same_upd na _ _ e)
    · have ba : b ≠ a := fun e => by
        rw [e, upd_same] at h1
        cases h1
      have bd : b ≠ dx := ne_of_none h2 nd
      rw [upd_ne bd, del_ne ba, upd_ne ba, upd_ne bd]
      exact h2
def sp_kept (K : PySem.W.Frag) : Nat → Sp
  | 0 => fun _ _ _ _ => False
  | n + 1 => fun vs H Q _ => ∃ (v : V) (d : PyData), vs = [v] ∧ Dq K H v d ∧ d.depth ≤ n ∧ slim d = true ∧ ∀ v' H', Same H H' → Fresh K H H' v' d → Q v' H'
/-! ## drawing -/
theorem pos_c {j : Int} (h : 0 < j) : 0 < j := h
def sp_pot (K : PySem.W.Frag) : Sp := fun vs H Q _ => ∃ (s : Addr) (ns : List Int) (k : Nat), vs = [.ref s, .int k] ∧ SqL K H s (ns.map V.int) ∧ k < 1000 ∧
  ∀ p u v, H p = none → 0 ≤ v → v < 2147483648 → Q (.ref p) (upd H p (.lst [.int u, .int v]))
def sp_draw : Sp := fun vs H Q _ => ∃ (a : Addr) (n : Int), vs = [.ref a, .int n] ∧ PotAt H a ∧ 0 < n ∧ n < 1606938044258990275541962092341162602522202993782792835301376 ∧
  ∀ r H', 0 ≤ r → r < n → PotAt H' a → Off a H H' → Q (.int r) H'
theorem pot_some {H : Hp} {a : Addr} (h : PotAt H a) : H a ≠ none := by
  obtain ⟨x, y, e, _⟩ := h
  rw [e]
  exact fun z => nomatch z
theorem one_sign {c : Nat} (h : c < 256) : (⟨#[c]⟩ : Str).length = 1 ∧ Bytes ⟨#[c]⟩ := ⟨rfl, fun x hx => by
  have e : x = c := by simpa using hx
  rw [e]
  exact h⟩
theorem off_new {K : PySem.W.Frag} {H : Hp} {p s : Addr} {o : HO} {xs : List V} (h : SqL K H s xs) (n : H p = none) : SqL K (off (upd H p o) p) s xs := by
  refine Same.seq (fun b u e => ?_) h
  rw [off_ne (ne_of_none e n), upd_ne (ne_of_none e n)]
  exact e
def sp_law (K : PySem.W.Frag) : Sp := fun vs H Q _ => ∃ (s : Addr) (ns : List Int), vs = [.ref s] ∧ SqL K H s (ns.map V.int) ∧ ns.length ≤ 63 ∧ ∀ H', Q (.bl true) H'
end Lw

set_option Elab.async false
set_option linter.all false
set_option maxRecDepth 100000
set_option maxHeartbeats 4000000
namespace Lw
open PySem PySem.Spec PyProof.Rows L2
/-! ## own classes: made, methods, properties, class methods -/
/-- a method of the class at C, by values in place -/
structure OwnM (P : Program) (w : World) (K : PySem.W.Frag) (mg : Str → Option Value) (base : Heap) (CX : CXT) (k : Nat) (C : Addr) (m : Str) (sp : Sp) : Prop where
  ok : FnR P w K mg base CX k (He.ma K C m) sp
  me : Meth K C m (He.ma K C m)
  c : Cls K C
/-- the class itself -/
structure OwnK (P : Program) (w : World) (K : PySem.W.Frag) (mg : Str → Option Value) (base : Heap) (CX : CXT) (k : Nat) (x : Str) (C : Addr) (sp : Sp) : Prop where
  ok : FnR P w K mg base CX k (He.ma K C "__init__") sp
  mkr : L2.Mk K C (He.ma K C "__init__")
  m : mg x = some (.ref C)
/-- a def behind a property or a class method -/
def recAt (K : PySem.W.Frag) (C : Addr) (m : Str) (kind : String) : Addr := match PySem.W.recIn K (He.ma K C m) kind with
  | some (.ref g :: _) => g
  | _ => 0
structure OwnP (P : Program) (w : World) (K : PySem.W.Frag) (mg : Str → Option Value) (base : Heap) (k : Nat) (C : Addr) (m : Str) (sp : Sp) : Prop where
  ok : FnR P w K mg base CX0 k (recAt K C m "property") sp
  p : PropOf K C m (He.ma K C m) (recAt K C m "property")
  c : Cls K C
structure OwnC (P : Program) (w : World) (K : PySem.W.Frag) (mg : Str → Option Value) (base : Heap) (CX : CXT) (k : Nat) (C : Addr) (m : Str) (sp : Sp) : Prop where
  ok : FnR P w K mg base CX k (recAt K C m "classmethod") sp
  r : ClX.CRead K C (.type "type")
  cm : ClX.CMet K C (.type "type") m (He.ma K C m) (recAt K C m "classmethod")
theorem raw_of {P : Program} {w : World} {K : PySem.W.Frag} {mg : Str → Option Value} {base : Heap} {CX : CXT} {k : Nat} {f : Addr} {fd : FuncData} {ps : List Str} {sp : Sp} (F : FnOk P w K mg base CX k f fd ps sp) (hb : Binds K fd ps []) : FnR P w K mg base CX k f sp :=
  fun A outer s H us vs Q E hr e0 r hs => (FnOk.raw F hb .nil) A outer s H us vs Q E hr e0 r (by show sp (vs ++ []) H Q E; rw [List.append_nil]; exact hs)
/-- what may be said of errors at the caller -/
abbrev EF : L2.St → XK := fun _ => E0
theorem passes0 {X : Cx} (σ : L2.St) : PassesAt CX0 X σ (EF σ) := fun pins H s e s' I c => pass0 pins σ H s e s' I c
theorem passesF {X : Cx} (σ : L2.St) : PassesAt (L2.CX X.prog X.w) X σ (EF σ) := fun pins H s e s' I c => passF pins σ H s e s' I c
def tMethA (C : Addr) (m : Str) (sp : Sp) (E : L2.St → XK) (ta : TE) (t : TA) : TE := fun σ H Q => ta σ H fun x H1 => ∃ a dx fs, x = .ref a ∧ H1 a = some (.ins C dx fs) ∧ fs.lookup m = none ∧ t σ H1 fun vs H2 => sp (x :: vs) H2 Q (E σ)
def tMakeA (C : Addr) (sp : Sp) (E : L2.St → XK) (t : TA) : TE := fun σ H Q => t σ H fun vs H1 => ∀ x dx, H1 x = none → H1 dx = none → dx ≠ x →
  sp (.ref x :: vs) (upd (upd H1 dx (.own x)) x (.ins C dx [])) (fun v H2 => v = .non ∧ Q (.ref x) H2) (E σ)
def tPropA (C : Addr) (sp : Sp) (ta : TE) : TE := fun σ H Q => ta σ H fun x H1 => ∃ a dx fs, x = .ref a ∧ H1 a = some (.ins C dx fs) ∧ sp [.ref a] H1 Q E0
def tCMethA (C : Addr) (sp : Sp) (E : L2.St → XK) (ta : TE) (t : TA) : TE := fun σ H Q => ta σ H fun x H1 => x = .ref C ∧ t σ H1 fun vs H2 => sp (.ref C :: vs) H2 Q (E σ)
section
variable {X : Cx} {CX : CXT} {k : Nat} {C : Addr} {m x : Str} {sp : Sp} {E : L2.St → XK} {o e : Expr} {es : List Expr} {ta : TE} {t : TA} {p apos pos : Pos}
theorem run_any {f : Addr} {pins : List (Addr × Obj)} {σ : L2.St} {H : Hp} {s : Shared} {Q : VK} {us : List Value} {vs : List V} {E : XK} (F : FnR X.prog X.w X.K X.mg X.base CX k f sp) (hr : Room k X.A) (hx : PassesAt CX X σ E)
    (I : Inv X pins σ H s) (r : Vals vs us) (h : sp vs H Q E) : codeAny (model X.prog X.w) X.A (.call (.ref f) ⟨us, []⟩) (fun r s' => match r with | .ok (.ret v) => EP X pins σ Q v s' | .ok _ => False | .error e => X.xe e s') s := by
  refine codeAny_mono (F X.A X.stack s H us vs Q E hr I.env0 r h) fun res st hq => ?_
  match res, hq with
  | .error ev, hq => exact hx pins H s ev st I hq
  | .ok (.ret _), hq => exact I.after hq
  | .ok .next, hq => exact False.elim hq
  | .ok .brk, hq => exact False.elim hq
  | .ok .cont, hq => exact False.elim hq
theorem pe_omA {pl : Sem Bool} (O : OwnM X.prog X.w X.K X.mg X.base CX k C m sp) (hx : ∀ σ, PassesAt CX X σ (E σ)) (hr : Room k X.A) (he : PE X o ta) (ha : PA X (e :: es) t)
    (hst : starEach (e :: es) X.env = (false, eval e X.env) :: starEach es X.env := by rfl) (hpl : (backTo pos (starEach es X.env)).any (fun q => q.1) = false := by rfl)
    (ht : eval (.Call (.Attribute o m apos) (e :: es) [] pos) X.env = (do
      let ov ← eval o X.env
      standAt apos.atName
      let (f, first) ← holding [ov] (getMethod ov m pl)
      callWith pos f first (backTo pos (starEach (e :: es) X.env)) (backToKw pos (keywordEach [] X.env))) := by rfl) :
    PE X (.Call (.Attribute o m apos) (e :: es) [] pos) (tMethA C m sp E ta t) := by
  refine ⟨fun pins s σ H Q I h => ?_⟩
  refine PySem.W.methodCall_KW (pl := pl) (thn (he.run pins s σ H _ I h) fun u s1 hh => ?_) ht
  obtain ⟨x, H1, I1, rx, a, dx, fs, ex, ea, l, q⟩ := hh
  subst ex
  obtain rfl : u = Value.ref a := rx
  refine getmeth_ok I1 ea O.c O.me l ?_
  refine PySem.W.callWith_K (first := [.ref a]) (h₀ := X.base) I.ok.mod.kin O.me.kp (thn (ha.run pos pins s1 σ H1 _ I1 q) fun us s2 hh => ?_) hst hpl
  obtain ⟨vs, H2, I2, r, q2⟩ := hh
  exact ⟨I2.kIn, wpAny_call (run_any (us := .ref a :: us) (vs := .ref a :: vs) O.ok hr (hx σ) I2 (.cons rfl r) q2)⟩
theorem pe_omA0 {pl : Sem Bool} (O : OwnM X.prog X.w X.K X.mg X.base CX k C m sp) (hx : ∀ σ, PassesAt CX X σ (E σ)) (hr : Room k X.A) (he : PE X o ta)
    (ht : eval (.Call (.Attribute o m apos) [] [] pos) X.env = (do
      let ov ← eval o X.env
      standAt apos.atName
      let (f, first) ← holding [ov] (getMethod ov m pl)
      callWith pos f first (backTo pos (starEach [] X.env)) (backToKw pos (keywordEach [] X.env))) := by rfl) :
    PE X (.Call (.Attribute o m apos) [] [] pos) (tMethA C m sp E ta tNil) := by
  refine ⟨fun pins s σ H Q I h => ?_⟩
  refine PySem.W.methodCall_KW (pl := pl) (thn (he.run pins s σ H _ I h) fun u s1 hh => ?_) ht
  obtain ⟨x, H1, I1, rx, a, dx, fs, ex, ea, l, q⟩ := hh
  subst ex
  obtain rfl : u = Value.ref a := rx
  refine getmeth_ok I1 ea O.c O.me l ?_
  exact PySem.W.callWith_K0 (first := [.ref a]) I1.kIn O.me.kp (wpAny_call (run_any (us := [.ref a]) (vs := [.ref a]) O.ok hr (hx σ) I1 (.cons rfl .nil) q))
theorem run_mkA {pins : List (Addr × Obj)} {σ : L2.St} {H : Hp} {s : Shared} {Q : VK} {us : List Value} {vs : List V} {E : XK} (O : OwnK X.prog X.w X.K X.mg X.base CX k x C sp) (hx : PassesAt CX X σ E) (hr : Room (k + 1) X.A) (I : Inv X pins σ H s) (r : Vals vs us)
    (h : ∀ x dx, H x = none → H dx = none → dx ≠ x → sp (.ref x :: vs) (upd (upd H dx (.own x)) x (.ins C dx [])) (fun v H2 => v = .non ∧ Q (.ref x) H2) E) :
    wpAny (model X.prog X.w) X.A (call (.ref C) us) (EP X pins σ Q) X.xe s := by
  have hq := h (s.heap.objs.size + 1) s.heap.objs.size (I.hok.fresh (Nat.le_succ _)) (I.hok.fresh (Nat.le_refl _)) (Nat.ne_of_lt (Nat.lt_succ_self _))
  have I2 := Inv.made (C := C) I
  have r2 : Vals (V.ref (s.heap.objs.size + 1) :: vs) (Value.ref (s.heap.objs.size + 1) :: us) := .cons rfl r
  refine wpAny_call (make_map (f := He.ma X.K C "__init__") I.kIn O.mkr.makes O.mkr.init (beq_iff_eq.mp O.mkr.fn) (codeAny_mono (O.ok _ X.stack _ _ (Value.ref (s.heap.objs.size + 1) :: us) _ _ E (hr.make C us [])
    (I2.env0.make C us []) r2 hq) fun r s' hq' => ?_))
  match r, hq' with
  | .error e, hq' => exact hx pins _ _ e s' I2 hq'
  | .ok (.ret u), hq' =>
    obtain ⟨v, H', I3, rv, ev, q3⟩ := I2.after hq'
    subst ev
    exact ⟨rv, ⟨V.ref (s.heap.objs.size + 1), H', I3, rfl, q3⟩⟩
  | .ok .next, hq' => exact False.elim hq'
  | .ok .brk, hq' => exact False.elim hq'
  | .ok .cont, hq' => exact False.elim hq'
theorem pe_mkA (O : OwnK X.prog X.w X.K X.mg X.base CX k x C sp) (hx : ∀ σ, PassesAt CX X σ (E σ)) (hr : Room (k + 1) X.A) (ha : PA X (e :: es) t) (hg : Gl X x := by rfl) (hdb : (x == ("__debug__" : Str)) = false := by decide)
    (he : starEach (e :: es) X.env = (false, eval e X.env) :: starEach es X.env := by rfl) (hpl : (backTo pos (starEach es X.env)).any (fun q => q.1) = false := by rfl) :
    PE X (.Call (.Name x p) (e :: es) [] pos) (tMakeA C sp E t) := by
  refine ⟨fun pins s σ H Q I h => ?_⟩
  refine wpAny_Call_Name_kw (ld_glob I hg O.m ?_ hdb)
  refine PySem.W.callWith_K (h₀ := X.base) I.ok.mod.kin O.mkr.kp (thn (ha.run pos pins s σ H _ I h) fun us s1 hh => ?_) he hpl
  obtain ⟨vs, H1, I1, r, q⟩ := hh
  exact ⟨I1.kIn, run_mkA O (hx σ) hr I1 r q⟩
/-- f(..), f a name that holds the class -/
def tMakeV (C : Addr) (sp : Sp) (E : L2.St → XK) (ta : TE) (t : TA) : TE := fun σ H Q => ta σ H fun y H1 => y = .ref C ∧ tMakeA C sp E t σ H1 Q
theorem pe_mkL {y : Str} (O : OwnK X.prog X.w X.K X.mg X.base CX k x C sp) (hx : ∀ σ, PassesAt CX X σ (E σ)) (hr : Room (k + 1) X.A) (hn : PE X (.Name y p) ta) (ha : PA X (e :: es) t)
    (he : starEach (e :: es) X.env = (false, eval e X.env) :: starEach es X.env := by rfl) (hpl : (backTo pos (starEach es X.env)).any (fun q => q.1) = false := by rfl) :
    PE X (.Call (.Name y p) (e :: es) [] pos) (tMakeV C sp E ta t) := by
  refine ⟨fun pins s σ H Q I h => ?_⟩
  refine wpAny_Call_Name_kw (thn (hn.run pins s σ H _ I h) fun u s1 hh => ?_)
  obtain ⟨y, H1, I1, ry, ey, q⟩ := hh
  subst ey
  obtain rfl : u = Value.ref C := ry
  refine PySem.W.callWith_K (h₀ := X.base) I.ok.mod.kin O.mkr.kp (thn (ha.run pos pins s1 σ H1 _ I1 q) fun us s1 hh => ?_) he hpl
  obtain ⟨vs, H2, I2, r, q⟩ := hh
  exact ⟨I2.kIn, run_mkA O (hx σ) hr I2 r q⟩
theorem pe_opA (O : OwnP X.prog X.w X.K X.mg X.base k C m sp) (hr : Room (k + 1) X.A) (he : PE X e ta) (hab : attributeBase e m X.env (eval e X.env) = eval e X.env := by rfl) : PE X (.Attribute e m pos) (tPropA C sp ta) := by
  refine ⟨fun pins s σ H Q I h => ?_⟩
  refine attr_of hab (thn (he.run pins s σ H _ I h) fun u s1 hh => ?_)
  obtain ⟨x, H1, I1, rx, a, dx, fs, ex, ea, q⟩ := hh
  subst ex
  obtain rfl : u = Value.ref a := rx
  obtain ⟨mA, O2, _, _, _, _⟩ := ins_get I1.hok ea
  obtain ⟨od, J, _⟩ := O2.look
  obtain ⟨rest, hrec⟩ := O.p.rec_
  have I2 := I1.tok (s1.toks + 1)
  have hc : (PySem.W.clsIn X.K C).isSome = true := by
    obtain ⟨cd, hc, _⟩ := PySem.W.any_some O.c.hd
    rw [hc]
    rfl
  refine PySem.W.get_bind I1.kIn J (PySem.W.plainGet_of (O.c.get m)).1 (PySem.W.findObj_data hc O.p.at_ O.p.get O.p.tak) (PySem.W.plainGet_of (O.c.get m)).2 (wpAny_call (PySem.W.prop_get (s := { s1 with toks := s1.toks + 1 }) I1.kIn hrec ?_))
  refine codeAny_mono (O.ok X.A.in1 X.stack { s1 with toks := s1.toks + 1 } H1 [.ref a] [.ref a] Q E0 hr.in1 I2.env0.in1 (.cons rfl .nil) q) fun r s' hq => ?_
  match r, hq with
  | .error er, hq => exact False.elim hq
  | .ok (.ret u), hq =>
    obtain ⟨v, H', I3, rv, q3⟩ := I2.after hq
    show wpAny _ _ (handedOut u) _ _ _
    rw [PySem.W.handedOut_of (handed_of rv)]
    exact wpAny_pure ⟨v, H', I3, rv, q3⟩
  | .ok .next, hq => exact False.elim hq
  | .ok .brk, hq => exact False.elim hq
  | .ok .cont, hq => exact False.elim hq
theorem pe_cmA {pl : Sem Bool} (O : OwnC X.prog X.w X.K X.mg X.base CX k C m sp) (hx : ∀ σ, PassesAt CX X σ (E σ)) (hr : Room k X.A) (he : PE X o ta) (ha : PA X (e :: es) t)
    (hst : starEach (e :: es) X.env = (false, eval e X.env) :: starEach es X.env := by rfl) (hpl : (backTo pos (starEach es X.env)).any (fun q => q.1) = false := by rfl)
    (ht : eval (.Call (.Attribute o m apos) (e :: es) [] pos) X.env = (do
      let ov ← eval o X.env
      standAt apos.atName
      let (f, first) ← holding [ov] (getMethod ov m pl)
      callWith pos f first (backTo pos (starEach (e :: es) X.env)) (backToKw pos (keywordEach [] X.env))) := by rfl) :
    PE X (.Call (.Attribute o m apos) (e :: es) [] pos) (tCMethA C sp E ta t) := by
  refine ⟨fun pins s σ H Q I h => ?_⟩
  refine PySem.W.methodCall_KW (pl := pl) (thn (he.run pins s σ H _ I h) fun u s1 hh => ?_) ht
  obtain ⟨x, H1, I1, rx, ex, q⟩ := hh
  subst ex
  obtain rfl : u = Value.ref C := rx
  refine ClX.getmethcm_ok I1 O.r O.cm fun s2 I2 => ?_
  refine ClX.callwith_cm I2 (ClX.base_none I1 (Nat.le_refl _)) O.cm.fi (thn (ha.run pos _ s2 σ H1 _ I2 q) fun us s3 hh => ?_) hst hpl
  obtain ⟨vs, H2, I3, rv, q2⟩ := hh
  refine ⟨⟨ClX.pin_at I3, I3.kIn⟩, ?_⟩
  refine thn (wpAny_call (PySem.W.method_call (ClX.pin_at I3) (run_any (us := .ref C :: us) (vs := .ref C :: vs) O.ok hr (hx σ) I3 (.cons rfl rv) q2))) fun _ _ y => ClX.unpinE y
end
end Lw
namespace Lw
open PySem PySem.Spec PyProof.Rows L2
theorem passT {X : Cx} {W : WX} (tk : Takes X W) (σ : L2.St) : PassesAt (L2.CX X.prog X.w) X σ (WE W σ) := passAt tk σ
end Lw

set_option Elab.async false
set_option linter.all false
set_option maxRecDepth 100000
set_option maxHeartbeats 4000000
namespace Lw
open PySem PySem.Spec PyProof.Rows L2
/-! ## the head's facts: defs that stand behind a property or a class method too -/
structure RecD where
  adr : PySem.W.Frag → Addr
  name : Str
  qual : Str
  params : Arguments
  body : List Stmt
  scope : Scope
def recW (K : PySem.W.Frag) (d : RecD) : He.FnW := match K.lookup (d.adr K) with
  | some ⟨_, _, .func fd, _⟩ => some (fd.name, fd.qualname, fd.params, fd.body, fd.scope, fd.globals, fd.closure, fd.builtins)
  | _ => none
def RecD.val (d : RecD) : He.FnW := some (d.name, d.qual, d.params, .stmts d.body, d.scope, mainGlobals, [], builtinsNs)
def RecD.ok (K : PySem.W.Frag) (d : RecD) : Bool := PySem.W.keepIn K (.ref (d.adr K)) && (match K.lookup (d.adr K) with
  | some ⟨_, _, .func fd, _⟩ => PySem.W.codeIn K fd.code d.qual && (He.dflB K fd.defaults [] && He.kwdB K fd.kwdefaults [])
  | _ => false)
theorem RecD.funD {K : PySem.W.Frag} {d : RecD} (e : recW K d = d.val) (c : d.ok K = true) : ∃ fd, FunD K d.name d.qual d.params d.body d.scope [] [] (d.adr K) fd := by
  obtain ⟨kp, c2⟩ := He.ba c
  unfold recW at e
  cases q : K.lookup (d.adr K) with
  | none =>
    rw [q] at c2
    cases c2
  | some o =>
    obtain ⟨oc, od, dt, osl⟩ := o
    rw [q] at c2 e
    cases dt with
    | func fd =>
      obtain ⟨n1, n2, n3, n4, n5, n6, n7, n8, n9, n10, n11, n12, n13, n14, n15⟩ := fd
      have e2 : (some (n1, n2, n3, n4, n5, n6, n7, n15) : He.FnW) = some (d.name, d.qual, d.params, .stmts d.body, d.scope, mainGlobals, [], builtinsNs) := e
      simp only [Option.some.injEq, Prod.mk.injEq] at e2
      obtain ⟨h1, h2, h3, h4, h5, h6, h7, h8⟩ := e2
      subst h1 h2 h3 h4 h5 h6 h7 h8
      have c3 : (PySem.W.codeIn K n13 d.qual && (He.dflB K n8 [] && He.kwdB K n9 [])) = true := c2
      obtain ⟨k1, k2⟩ := He.ba c3
      obtain ⟨k3, k4⟩ := He.ba k2
      exact ⟨_, ⟨oc, od, n8, n9, n10, n11, n12, n13, n14, osl, rfl, q, k1, He.dflB_ok k3, He.kwdB_ok k4⟩, kp⟩
    | _ => cases c2
abbrev AlX : Type := AlW × Bool × List He.FnW
def obsX (file : Str) (fa : List He.Fa) (fn : List He.DefD) (is : List IniD) (rs : List RecD) (ex : PySem.W.Frag → Bool) (K : PySem.W.Frag) : AlX := (obsW file fa fn is ex K, rs.all (fun d => d.ok K), rs.map fun d => recW K d)
def valX (fn : List He.DefD) (is : List IniD) (rs : List RecD) : AlX := (valW fn is, true, rs.map RecD.val)
structure SaysX (file : Str) (fa : List He.Fa) (fn : List He.DefD) (is : List IniD) (rs : List RecD) (ex : PySem.W.Frag → Bool) (K : PySem.W.Frag) : Prop where
  w : SaysW file fa fn is ex K
  r : ∀ x ∈ rs, ∃ fd, FunD K x.name x.qual x.params x.body x.scope [] [] (x.adr K) fd
theorem saysX_of {file : Str} {fa : List He.Fa} {fn : List He.DefD} {is : List IniD} {rs : List RecD} {ex : PySem.W.Frag → Bool} {K : PySem.W.Frag} (e : obsX file fa fn is rs ex K = valX fn is rs) : SaysX file fa fn is rs ex K := by
  have e1 : obsW file fa fn is ex K = valW fn is := congrArg (fun z : AlX => z.1) e
  have e2 : (rs.all (fun d => d.ok K)) = true := congrArg (fun z : AlX => z.2.1) e
  have e3 : rs.map (fun d => recW K d) = rs.map RecD.val := congrArg (fun z : AlX => z.2.2) e
  exact ⟨saysW_of e1, fun x hx => RecD.funD (map_at e3 x hx) (List.all_eq_true.mp e2 x hx)⟩
def obsXG (n : Nat) (file : Str) (fa : List He.Fa) (fn : List He.DefD) (is : List IniD) (rs : List RecD) (ex : PySem.W.Frag → Bool) (g : Addr → Option Obj) : AlX := obsX file fa fn is rs ex (He.frG g (asW g n))
def hookX (n : Nat) (file : Str) (fa : List He.Fa) (fn : List He.DefD) (is : List IniD) (rs : List RecD) (ex : PySem.W.Frag → Bool) : PySem.W.Hook where
  α := AlX
  obs := fun s => obsXG n file fa fn is rs ex s.heap.get?
  val := fun _ => valX fn is rs
  says := fun _ h => ∃ K : PySem.W.Frag, K.In h ∧ SaysX file fa fn is rs ex K
  of := fun _ _ e => ⟨_, He.frG_in, saysX_of e⟩
  keeps := fun _ _ _ ⟨K, hK, c⟩ k => ⟨K, PySem.W.Frag.In.keeps hK k, c⟩
theorem obsXG_eq {n : Nat} {file : Str} {fa : List He.Fa} {fn : List He.DefD} {is : List IniD} {rs : List RecD} {ex : PySem.W.Frag → Bool} {g : Addr → Option Obj} {s : Shared} (h : ∀ a, g a = s.heap.get? a) : obsXG n file fa fn is rs ex g = (hookX n file fa fn is rs ex).obs s := by
  have e : g = s.heap.get? := funext h
  rw [e] <;> rfl
/-! ## what is asked of a class, as Bools -/
def nnB (K : PySem.W.Frag) (C : Addr) : Bool := He.eqO (PySem.W.findIn K (.ref C) "__ne__") (some (some (.builtin "object.__ne__"))) && decide (PySem.W.mroIn K C (.type "object") = some true)
theorem nnB_ok {K : PySem.W.Frag} {C : Addr} (h : nnB K C = true) : NoNe K C := by
  obtain ⟨h1, h2⟩ := He.ba h
  exact ⟨He.eqO_ok h1, of_decide_eq_true h2⟩
def recB (K : PySem.W.Frag) (C : Addr) (m : Str) (kind : String) : Bool := match PySem.W.recIn K (He.ma K C m) kind with
  | some (.ref _ :: _) => true
  | _ => false
theorem recB_ok {K : PySem.W.Frag} {C : Addr} {m : Str} {kind : String} (h : recB K C m kind = true) : ∃ rest, PySem.W.recIn K (He.ma K C m) kind = some (.ref (recAt K C m kind) :: rest) := by
  unfold recB at h
  unfold recAt
  split at h
  · rename_i g rest e
    exact ⟨rest, by rw [e]⟩
  · cases h
def propB (K : PySem.W.Frag) (C : Addr) (m : Str) : Bool := He.eqO (PySem.W.findIn K (.ref C) m) (some (some (.ref (He.ma K C m)))) && (He.eqO (PySem.W.specialIn K (.ref (He.ma K C m)) "__get__") (some (some (.builtin "property.__get__"))) &&
  (decide (PySem.W.takesIn K (.ref (He.ma K C m)) = some true) && recB K C m "property"))
theorem propB_ok {K : PySem.W.Frag} {C : Addr} {m : Str} (h : propB K C m = true) : PropOf K C m (He.ma K C m) (recAt K C m "property") := by
  obtain ⟨h1, h⟩ := He.ba h
  obtain ⟨h2, h⟩ := He.ba h
  obtain ⟨h3, h4⟩ := He.ba h
  exact ⟨He.eqO_ok h1, He.eqO_ok h2, of_decide_eq_true h3, recB_ok h4⟩
def creadB (K : PySem.W.Frag) (C : Addr) : Bool := PySem.W.readsIn K C (.type "type") && He.eqO (PySem.W.specialIn K (.ref C) "__getattribute__") (some (some (.builtin "type.__getattribute__")))
theorem creadB_ok {K : PySem.W.Frag} {C : Addr} (h : creadB K C = true) : ClX.CRead K C (.type "type") := by
  obtain ⟨h1, h2⟩ := He.ba h
  exact ⟨h1, He.eqO_ok h2⟩
def cmetB (K : PySem.W.Frag) (C : Addr) (m : Str) : Bool := (match PySem.W.findCls K (.ref C) (.type "type") m with
  | some (.get g p i c) => decide (g = .builtin "classmethod.__get__") && (decide (p = .ref (He.ma K C m)) && (decide (i = .none) && decide (c = .ref C)))
  | _ => false) && (recB K C m "classmethod" && PySem.W.fnIn K (recAt K C m "classmethod"))
theorem cmetB_ok {K : PySem.W.Frag} {C : Addr} {m : Str} (h : cmetB K C m = true) : ClX.CMet K C (.type "type") m (He.ma K C m) (recAt K C m "classmethod") := by
  obtain ⟨h1, h⟩ := He.ba h
  obtain ⟨h2, h3⟩ := He.ba h
  refine ⟨?_, recB_ok h2, h3⟩
  split at h1
  · rename_i g p i c e
    simp only [Bool.and_eq_true, decide_eq_true_eq] at h1
    obtain ⟨rfl, rfl, rfl, rfl⟩ := h1
    exact e
  · cases h1
/-- a number that the class holds, read off the class and off an instance -/
def conB (K : PySem.W.Frag) (C : Addr) (f : Str) (i : Int) : Bool := (match PySem.W.findCls K (.ref C) (.type "type") f with
  | some (.val (.int j _)) => decide (j = i)
  | _ => false) && ((match PySem.W.findIn K (.ref C) f with
  | some (some (.int j t)) => decide (j = i) && He.eqO (PySem.W.specialIn K (.int j t) "__get__") (some none)
  | _ => false) && !PySem.W.copiedNames.contains f)
structure ConI (K : PySem.W.Frag) (C : Addr) (f : Str) (i : Int) : Prop where
  c : ∃ u, ClX.CVal K C (.type "type") f (.int i) u
  o : ∃ u, Con K C f (.int i) u
theorem conB_ok {K : PySem.W.Frag} {C : Addr} {f : Str} {i : Int} (h : conB K C f i = true) : ConI K C f i := by
  obtain ⟨h1, h⟩ := He.ba h
  obtain ⟨h2, h3⟩ := He.ba h
  constructor
  · split at h1
    · rename_i j t e
      cases of_decide_eq_true h1
      exact ⟨_, e, ⟨t, rfl⟩⟩
    · cases h1
  · split at h2
    · rename_i j t e
      obtain ⟨h4, h5⟩ := He.ba h2
      cases of_decide_eq_true h4
      refine ⟨_, e, ⟨t, rfl⟩, He.eqO_ok h5, ?_⟩
      simpa using h3
    · cases h2
end Lw

set_option Elab.async false
set_option linter.all false
set_option maxRecDepth 100000
set_option maxHeartbeats 4000000
namespace Lw
open PySem PySem.Spec PyProof.Rows L2
theorem cut_take {xs : List V} {i : Nat} : cutV xs none (some (i : Int)) = xs.take i := by
  unfold cutV
  rw [HT.sIx_none, HT.sIx_nat, List.drop_zero, Nat.sub_zero]
  by_cases h : i ≤ xs.length
  · rw [Nat.min_eq_left h]
  · rw [Nat.min_eq_right (by omega), List.take_of_length_le (Nat.le_refl _), List.take_of_length_le (by omega)]
theorem cut_drop {xs : List V} {i : Nat} : cutV xs (some (i : Int)) none = xs.drop i := by
  unfold cutV
  rw [HT.sIx_none, HT.sIx_nat]
  by_cases h : i ≤ xs.length
  · rw [Nat.min_eq_left h, List.take_of_length_le (by rw [List.length_drop]; exact Nat.le_refl _)]
  · rw [Nat.min_eq_right (by omega), List.drop_of_length_le (Nat.le_refl _), List.drop_of_length_le (by omega), List.take_nil]
theorem cut_part {xs : List V} {i : Nat} (h : i < xs.length) : ¬ (HT.sIx xs.length 0 none = 0 ∧ HT.sIx xs.length xs.length (some (i : Int)) = xs.length) := by
  rw [HT.sIx_none, HT.sIx_nat]
  omega
theorem dq_take {K : PySem.W.Frag} {H : Hp} : ∀ {n : Nat} {vs : List V} {ds : List PyData}, DqAll K H vs ds → DqAll K H (vs.take n) (ds.take n)
  | 0, _, _, _ => .nil
  | n + 1, _, _, .nil => .nil
  | n + 1, _, _, .cons h g => .cons h (dq_take g)
theorem dq_drop {K : PySem.W.Frag} {H : Hp} : ∀ {n : Nat} {vs : List V} {ds : List PyData}, DqAll K H vs ds → DqAll K H (vs.drop n) (ds.drop n)
  | 0, _, _, h => h
  | n + 1, _, _, .nil => .nil
  | n + 1, _, _, .cons h g => dq_drop (n := n) g
end Lw
namespace Lw
open PySem PySem.Spec PyProof.Rows L2
theorem kit_any2 {K : PySem.W.Frag} {t u1 u2 : Value} {b1 b2 : Bool} (h1 : PySem.W.kitOne K t u1 = some b1) (h2 : PySem.W.kitOne K t u2 = some b2) : PySem.W.kitAny K t [u1, u2] = some (b1 || b2) := by
  simp only [PySem.W.kitAny, h1, h2]
  cases b1 <;> cases b2 <;> rfl
end Lw

set_option Elab.async false
set_option linter.all false
set_option maxRecDepth 100000
set_option maxHeartbeats 4000000
namespace Lw
open PySem PySem.Spec PyProof.Rows L2
/-! ## the promises of a sheet -/
structure ShC (K : PySem.W.Frag) (C : Addr) : Prop where
  c : Cls K C
  no : NoAttr K C "listed"
theorem sqT_ne {K : PySem.W.Frag} {H : Hp} {t a : Addr} {xs : List V} (h : SqT K H t xs) (p : PotAt H a) : SqT K (off H a) t xs := by
  obtain ⟨x, y, e, _⟩ := p
  rcases h with (h | ⟨o, h⟩) | h
  · have n : t ≠ a := fun q => by
      rw [q, e] at h
      cases h
    exact .inl (.inl (by rw [off_ne n]; exact h))
  · have n : t ≠ a := fun q => by
      rw [q, e] at h
      cases h
    exact .inl (.inr ⟨o, by rw [off_ne n]; exact h⟩)
  · exact .inr h
theorem ShAt.off {K : PySem.W.Frag} {C : Addr} {H : Hp} {a x : Addr} {ns : List Str} (h : ShAt K C H x ns) (p : PotAt H a) : ShAt K C (off H a) x ns := by
  obtain ⟨dx, t, h1, h2, h3⟩ := h
  refine ⟨dx, t, ?_, sqT_ne h2 p, h3⟩
  have n : x ≠ a := fun q => by
    obtain ⟨x', y, e, _⟩ := p
    rw [q, e] at h1
    cases h1
  rw [off_ne n]
  exact h1
theorem off_under {H : Hp} {a : Addr} : Same (off H a) H := fun b o e => (off_get e).2
theorem ShAt.keep {K : PySem.W.Frag} {C : Addr} {H H' : Hp} {a x : Addr} {ns : List Str} (h : ShAt K C H x ns) (p : PotAt H a) (o : Off a H H') : ShAt K C H' x ns := ((h.off p).same o).same off_under
def hasD (ns : List Str) : PyData → Bool
  | .str z => decide (z ∈ ns)
  | _ => false
def sp_has (K : PySem.W.Frag) (C : Addr) : Sp := fun vs H Q _ => ∃ (a : Addr) (ns : List Str) (v : V) (d : PyData), vs = [.ref a, v] ∧ ShAt K C H a ns ∧ Dq K H v d ∧ Q (.bl (hasD ns d)) H
def sp_chk (K : PySem.W.Frag) (C CU : Addr) : Sp := fun vs H Q E => ∃ (a : Addr) (ns : List Str) (v : V) (d : PyData), vs = [.ref a, v] ∧ ShAt K C H a ns ∧ Dq K H v d ∧ (hasD ns d = false → d.depth ≤ 5 ∧ slim d = true ∧ OutV K CU H d E) ∧ (hasD ns d = true → Q .non H)
def sp_fields (K : PySem.W.Frag) (C : Addr) : Sp := fun vs H Q _ => ∃ (a : Addr) (ns : List Str), vs = [.ref a] ∧ ShAt K C H a ns ∧ ∀ p, H p = none → Q (.ref p) (upd H p (.lst (ns.map V.str)))
def sp_width (K : PySem.W.Frag) (C : Addr) : Sp := fun vs H Q _ => ∃ (a : Addr) (ns : List Str), vs = [.ref a] ∧ ShAt K C H a ns ∧ Q (.int (ns.length : Nat)) H
def sp_shStr (K : PySem.W.Frag) (C : Addr) : Sp := fun vs H Q _ => ∃ (a : Addr) (ns : List Str), vs = [.ref a] ∧ ShAt K C H a ns ∧ Q (.str (Txt.join " " ns)) H
def shRepr (ns : List Str) : Str := "Sheet(" ++ (PyData.list (ns.map PyData.str)).shown ++ ")"
def sp_shRepr (K : PySem.W.Frag) (C : Addr) : Sp := fun vs H Q _ => ∃ (a : Addr) (ns : List Str), vs = [.ref a] ∧ ShAt K C H a ns ∧ ∀ H', Same H H' → Q (.str (shRepr ns)) H'
def sp_shEq (K : PySem.W.Frag) (C : Addr) : Sp := fun vs H Q _ => ∃ (a : Addr) (ns : List Str) (y : V), vs = [.ref a, y] ∧ ShAt K C H a ns ∧
  ((∃ (b : Addr) (ms : List Str), y = .ref b ∧ ShAt K C H b ms ∧ Q (.bl (decide (ns = ms))) H) ∨ ∃ d, Dq K H y d ∧ Q (.bl false) H)
/-- isinstance of a class's instances and of data -/
structure IsC (K : PySem.W.Frag) (C : Addr) : Prop where
  own : PySem.W.kitOne K (.ref C) (.ref C) = some true
  dat : ∀ T ∈ (["NoneType", "bool", "int", "str", "list", "tuple", "dict"] : List String), PySem.W.kitOne K (.type T) (.ref C) = some false
  a1 : PySem.W.findIn K (.ref C) "__class__" = some (some (.builtin "object.__class__"))
  a2 : PySem.W.specialIn K (.builtin "object.__class__") "__get__" = some (some (.builtin "getset_descriptor.__get__"))
  a3 : PySem.W.takesIn K (.builtin "object.__class__") = some true
  a4 : PySem.W.mroIn K C (.type "object") = some true
def iscB (K : PySem.W.Frag) (C : Addr) : Bool := decide (PySem.W.kitOne K (.ref C) (.ref C) = some true) && (((["NoneType", "bool", "int", "str", "list", "tuple", "dict"] : List String).all fun T => decide (PySem.W.kitOne K (.type T) (.ref C) = some false)) &&
  (He.eqO (PySem.W.findIn K (.ref C) "__class__") (some (some (.builtin "object.__class__"))) && (He.eqO (PySem.W.specialIn K (.builtin "object.__class__") "__get__") (some (some (.builtin "getset_descriptor.__get__"))) &&
    (decide (PySem.W.takesIn K (.builtin "object.__class__") = some true) && decide (PySem.W.mroIn K C (.type "object") = some true)))))
theorem iscB_ok {K : PySem.W.Frag} {C : Addr} (h : iscB K C = true) : IsC K C := by
  obtain ⟨h1, h⟩ := He.ba h
  obtain ⟨h2, h⟩ := He.ba h
  obtain ⟨h3, h⟩ := He.ba h
  obtain ⟨h4, h⟩ := He.ba h
  obtain ⟨h5, h6⟩ := He.ba h
  exact ⟨of_decide_eq_true h1, fun T hT => of_decide_eq_true (List.all_eq_true.mp h2 T hT), He.eqO_ok h3, He.eqO_ok h4, of_decide_eq_true h5, of_decide_eq_true h6⟩
theorem IsC.ty {K : PySem.W.Frag} {C : Addr} {H : Hp} {a dx : Addr} {fs : List (Str × V)} (h : IsC K C) (c : Cls K C) (e : H a = some (.ins C dx fs)) : TyX K H (.ref a) (.ref C) := .base (.ins e c h.a1 h.a2 h.a3 h.a4)
theorem eqv_strs : ∀ ns ms : List Str, PyData.eqvAll (ns.map PyData.str) (ms.map PyData.str) = decide (ns = ms)
  | [], [] => rfl
  | [], _ :: _ => rfl
  | _ :: _, [] => rfl
  | a :: ns, b :: ms => by
    show (PyData.eqv (.str a) (.str b) && PyData.eqvAll (ns.map PyData.str) (ms.map PyData.str)) = _
    rw [eqv_strs ns ms]
    by_cases h1 : a = b
    · subst h1
      by_cases h2 : ns = ms
      · subst h2
        simp [PyData.eqv]
      · simp [PyData.eqv, h2]
    · simp [PyData.eqv, h1]
theorem dp_strs {K : PySem.W.Frag} {H : Hp} : ∀ ns : List Str, DpAll K H (ns.map V.str) (ns.map PyData.str)
  | [] => .nil
  | n :: ns => .cons (.str n) (dp_strs ns)
end Lw
namespace Lw
open PySem PySem.Spec PyProof.Rows L2
theorem strOk_name {z : Str} (h : nameB z = true) : PyData.strOk z = true := by
  have h2 := name_bytes h
  unfold PyData.strOk
  rw [← Array.all_toList, List.all_eq_true]
  intro c hc
  exact decide_eq_true (Nat.lt_trans (h2 c hc) (by decide))
theorem canLay_strs : ∀ ns : List Str, (∀ z ∈ ns, nameB z = true) → PyData.canLayAll0 (ns.map PyData.str) = true
  | [], _ => rfl
  | n :: ns, h => by
    show (PyData.strOk n && PyData.canLayAll0 (ns.map PyData.str)) = true
    rw [canLay_strs ns fun z hz => h z (List.mem_cons_of_mem _ hz), strOk_name (h n List.mem_cons_self)]
    rfl
theorem depth_strs : ∀ ns : List Str, PyData.depthAll (ns.map PyData.str) = 0
  | [] => rfl
  | n :: ns => by
    show max (PyData.depth (.str n)) (PyData.depthAll (ns.map PyData.str)) = 0
    rw [depth_strs ns]
    rfl
theorem shaped_strs {ns : List Str} (h : Nms ns) : SeqAt.shaped (.tuple (ns.map PyData.str)) = true := by
  unfold SeqAt.shaped
  rw [Bool.and_eq_true]
  refine ⟨?_, ?_⟩
  · exact canLay_strs ns h.nm
  · have : PyData.depth (.tuple (ns.map PyData.str)) ≤ 64 := by
      simp only [PyData.depth, depth_strs]
      omega
    exact decide_eq_true this
end Lw
namespace Lw
open PySem PySem.Spec PyProof.Rows L2
theorem idx_at {z : Str} {ns : List Str} (h : z ∈ ns) : ns[ns.idxOf z]? = some z := by
  have h1 := List.idxOf_lt_length_of_mem h
  rw [List.getElem?_eq_getElem h1, List.getElem_idxOf h1]
theorem idx_first {z : Str} {ns : List Str} : ∀ m, m < ns.idxOf z → ns[m]? ≠ some z := by
  induction ns with
  | nil => intro m h; simp at h
  | cons a r ih =>
    intro m h e
    rw [List.idxOf_cons] at h
    by_cases q : a = z
    · subst q
      simp at h
    · have q' : (a == z) = false := by simpa using q
      rw [q'] at h
      cases m with
      | zero =>
        simp at e
        exact q e
      | succ m =>
        simp at e
        simp only [cond_false] at h
        exact ih m (by omega) (by simpa using e)
theorem sum_names {ns : List Str} (h : ∀ z ∈ ns, nameB z = true) : (ns.map fun y => y.length).sum ≤ ns.length * 8 := by
  induction ns with
  | nil => simp
  | cons a r ih =>
    have h1 := name_len (h a List.mem_cons_self)
    have h2 := ih fun z hz => h z (List.mem_cons_of_mem _ hz)
    simp only [List.map_cons, List.sum_cons, List.length_cons]
    omega
theorem join_fits {ns : List Str} (h : Nms ns) : (ns.map fun y => y.length).sum + ns.length * (" " : Str).length ≤ 16777216 := by
  have h1 := sum_names h.nm
  have h2 := h.hi
  have h3 : (" " : Str).length = 1 := by decide +kernel
  rw [h3]
  omega
theorem small_strs {n : Nat} {ns : List Str} (h : ∀ z ∈ ns, Bytes z ∧ z.length ≤ n) : Small (2 + ns.length * (10 * n + 4)) (.list (ns.map PyData.str)) := by
  have q := small_list (n := 10 * n + 2) (ds := ns.map PyData.str) fun d hd => by
    obtain ⟨z, hz, rfl⟩ := List.mem_map.mp hd
    obtain ⟨h1, h2⟩ := h z hz
    exact ⟨small_text h1 h2, by simp [PyData.depth]⟩
  rw [List.length_map] at q
  exact q.mono (by
    have : 10 * n + 2 + 2 = 10 * n + 4 := by omega
    rw [this]
    exact Nat.le_refl _)
theorem strs_small {ns : List Str} (h : Nms ns) : (PyData.list (ns.map PyData.str)).showable = true ∧ (PyData.list (ns.map PyData.str)).shown.length ≤ sizeLine ∧ (PyData.list (ns.map PyData.str)).depth ≤ 60 := by
  refine (small_strs (n := 8) fun z hz => ⟨name_bytes (h.nm z hz), (name_len (h.nm z hz)).2⟩).line ?_
  have := h.hi
  omega
end Lw

set_option Elab.async false
set_option linter.all false
set_option maxRecDepth 100000
set_option maxHeartbeats 4000000
namespace Lw
open PySem PySem.Spec PyProof.Rows L2
/-! ## tuples whose methods are called: the object is known -/
section
variable {X : Cx}
def rTupF (K : PySem.W.Frag) : List V → Hp → VK → Prop := fun xs H Q => ∃ p ys, xs = [.ref p] ∧ ((SqL K H p ys ∧ ∀ l o, H l = none → o.dict = none → Q (.ref l) (upd H l (.frz o (.tup ys)))) ∨ (SqT K H p ys ∧ Q (.ref p) H))
theorem call_tupleF : CallR X (.type "tuple") (rTupF X.K) := by
  intro pins s σ H xs us Q I r h
  obtain ⟨p, ys, rfl, h⟩ := h
  obtain ⟨u, rfl, rx⟩ := vals1 r
  cases rx
  rcases h with ⟨hq, q⟩ | ⟨hq, q⟩
  · obtain ⟨its, r', pl, hz⟩ := I.list hq
    have hlen := r'.length
    refine call_tuple_list pl.isList (fun h' kp => ?_) (by simp only [List.size_toArray] <;> omega)
    have I1 : Inv X pins σ H { s with heap := h' } := I.kept (t' := s.toks) kp
    have I2 : Inv X pins σ (upd H h'.objs.size (.frz { cls := .type "tuple", data := .seq its.toArray } (.tup ys))) { s with heap := h'.push { cls := .type "tuple", data := .seq its.toArray } } :=
      I1.laid (t' := s.toks) (fun b o e => Heap.get?_push_of_some _ e) (Nat.le_refl _) (show ObjOk X.prog X.w _ _ _ (.frz { cls := .type "tuple", data := .seq its.toArray } (.tup ys)) from ⟨Heap.get?_push_size _ rfl, hz, its, r', IsTup.new _ _⟩)
    exact ⟨.ref h'.objs.size, _, I2, rfl, q _ _ (I1.hok.fresh (Nat.le_refl _)) rfl⟩
  · obtain ⟨its, r', pl, hz⟩ := I.tuple hq
    exact call_tuple_same pl ⟨.ref p, H, I, rfl, q⟩
/-- t.m(..), t such a tuple -/
def tBMT (r : V → List V → Hp → VK → Prop) (to : TE) (t : TA) : TE := fun σ H Q => to σ H fun x H1 => (∃ p o xs, x = .ref p ∧ H1 p = some (.frz o (.tup xs)) ∧ o.dict = none) ∧ t σ H1 fun vs H2 => r x vs H2 Q
theorem pe_bmT {id : String} {name : Str} {r : V → List V → Hp → VK → Prop} {o e : Expr} {es : List Expr} {to : TE} {t : TA} {apos cpos : Pos} (pa : PlainAttrs "tuple") (slot : Slot "tuple" name id) (hty : typeOf (.builtin id) = pure (.type "method_descriptor")) (hm : MtR X id r) (ho : PE X o to) (ha : PA X (e :: es) t)
    (hbase : attributeBase o name X.env (eval o X.env) = eval o X.env := by rfl)
    (hfew : ((backTo cpos (starEach (e :: es) X.env)).all (fun x => !x.1) && (backToKw cpos (keywordEach [] X.env)).all (fun x => x.1.isSome)
      && decide ((e :: es).length + ([] : List Keyword).length + (if ([] : List Keyword).isEmpty then 0 else 1) < 30)) = true := by rfl)
    (hline : (apos.endLine == cpos.line) = true := by rfl) (hs : starEach (e :: es) X.env = (false, eval e X.env) :: starEach es X.env := by rfl) (hplain : (backTo cpos (starEach es X.env)).any (fun q => q.1) = false := by rfl) :
    PE X (.Call (.Attribute o name apos) (e :: es) [] cpos) (tBMT r to t) := by
  refine ⟨fun pins s σ H Q I h => ?_⟩
  refine wpAny_Call_method_late hbase hfew hline rfl (thn (ho.run pins s σ H _ I h) fun v s1 hh => ?_)
  obtain ⟨x, H1, I1, r1, ⟨p, ob, xs, rfl, hp, hd⟩, q1⟩ := hh
  obtain rfl : v = Value.ref p := r1
  obtain ⟨e1, _, its, rv, o2, h1, h2, n, h3⟩ := (show ObjOk X.prog X.w H1 s1.heap p (.frz ob (.tup xs)) from I1.hok p _ hp)
  refine ⟨"tuple", id, pa, slot, hty, ⟨o2, h1, h2⟩, fun a ea => ?_, ?_⟩
  · cases ea
    exact ⟨ob, e1, hd⟩
  have hA := ha.run cpos pins s1 σ H1 _ I1 q1
  rw [hs] at hA ⊢
  refine Calls.callWith_builtin (by show (false || (backTo cpos (starEach es X.env)).any (fun q => q.1)) = false; rw [hplain] <;> rfl) (Calls.evalArgs_plain ?_)
  exact thn hA fun us s2 hh => by
    obtain ⟨vs, H2, I2, r2, q2⟩ := hh
    exact hm pins s2 σ H2 (.ref p) vs _ us Q I2 rfl r2 q2
end
/-- a sheet whose fields' tuple is known -/
def ShP (K : PySem.W.Frag) (C : Addr) (H : Hp) (a : Addr) (ns : List Str) : Prop := ∃ dx t o, H a = some (.ins C dx [("listed", .ref t)]) ∧ H t = some (.frz o (.tup (ns.map V.str))) ∧ o.dict = none ∧ Nms ns
theorem ShP.at_ {K : PySem.W.Frag} {C : Addr} {H : Hp} {a : Addr} {ns : List Str} (h : ShP K C H a ns) : ShAt K C H a ns := by
  obtain ⟨dx, t, o, h1, h2, _, h3⟩ := h
  exact ⟨dx, t, h1, .inl (.inr ⟨o, h2⟩), h3⟩
theorem ShP.same {K : PySem.W.Frag} {C : Addr} {H H' : Hp} {a : Addr} {ns : List Str} (h : ShP K C H a ns) (s : Same H H') : ShP K C H' a ns := by
  obtain ⟨dx, t, o, h1, h2, h3, h4⟩ := h
  exact ⟨dx, t, o, s _ _ h1, s _ _ h2, h3, h4⟩
theorem ShP.off {K : PySem.W.Frag} {C : Addr} {H : Hp} {a x : Addr} {ns : List Str} (h : ShP K C H x ns) (p : PotAt H a) : ShP K C (off H a) x ns := by
  obtain ⟨dx, t, o, h1, h2, h3⟩ := h
  obtain ⟨x', y, e, _⟩ := p
  have n1 : x ≠ a := fun q => by
    rw [q, e] at h1
    cases h1
  have n2 : t ≠ a := fun q => by
    rw [q, e] at h2
    cases h2
  exact ⟨dx, t, o, by rw [off_ne n1]; exact h1, by rw [off_ne n2]; exact h2, h3⟩
theorem ShP.keep {K : PySem.W.Frag} {C : Addr} {H H' : Hp} {a x : Addr} {ns : List Str} (h : ShP K C H x ns) (p : PotAt H a) (o : Off a H H') : ShP K C H' x ns := ((h.off p).same o).same off_under
def sp_shInit (K : PySem.W.Frag) (C CF : Addr) : Sp := fun vs H Q E => ∃ (a dx : Addr) (v : V) (d : PyData), vs = [.ref a, v] ∧ H a = some (.ins C dx []) ∧ Dq K (Lw.off H a) v d ∧ Sh d ∧ (∀ i, fwD d = some i → OutI "index" CF H i E) ∧
  (∀ ns H' t, d = .tuple (ns.map PyData.str) → Nms ns → Off a H H' → H' a = some (.ins C dx [("listed", .ref t)]) → SqT K H' t (ns.map V.str) → Q .non H') ∧
  ∀ ns H' t o, d = .list (ns.map PyData.str) → Nms ns → Off a H H' → H' a = some (.ins C dx [("listed", .ref t)]) → H' t = some (.frz o (.tup (ns.map V.str))) → o.dict = none → Q .non H'
/-- what C(x) asks -/
theorem mk_sheet {K : PySem.W.Frag} {C CF : Addr} {H : Hp} {v : V} {d : PyData} {R : Addr → Hp → Prop} {E : XK} (hd : Dq K H v d) (hs : Sh d) (ho : ∀ i, fwD d = some i → OutI "index" CF H i E)
    (hq : ∀ ns x H', d = .tuple (ns.map PyData.str) → Nms ns → Same H H' → H x = none → ShAt K C H' x ns → R x H')
    (hp : ∀ ns x H', d = .list (ns.map PyData.str) → Nms ns → Same H H' → H x = none → ShP K C H' x ns → R x H') :
    ∀ x dx, H x = none → H dx = none → dx ≠ x → sp_shInit K C CF [.ref x, v] (upd (upd H dx (.own x)) x (.ins C dx [])) (fun v H2 => v = .non ∧ R x H2) E := by
  intro x dx nx nd ne
  have s1 : Same H (upd H dx (.own x)) := same_upd nd
  have nx1 : upd H dx (.own x) x = none := by rw [upd_ne ne.symm]; exact nx
  have s2 : Same H (upd (upd H dx (.own x)) x (.ins C dx [])) := s1.trans (same_upd nx1)
  have s3 : Same H (Lw.off (upd (upd H dx (.own x)) x (.ins C dx [])) x) := fun b o e => by
    have nb : b ≠ x := ne_of_none e nx
    rw [off_ne nb]
    exact s2 _ _ e
  refine ⟨x, dx, v, d, rfl, upd_same, hd.same s3, hs, fun i e => (ho i e).later s2, fun ns H' t h1 h2 o h3 h4 => ⟨rfl, hq ns x H' h1 h2 ?_ nx ⟨dx, t, h3, h4, h2⟩⟩, fun ns H' t ob h1 h2 o h3 h4 h5 => ⟨rfl, hp ns x H' h1 h2 ?_ nx ⟨dx, t, ob, h3, h4, h5, h2⟩⟩⟩
  · exact (s3.trans o).trans off_under
  · exact (s3.trans o).trans off_under
/-- a list of names -/
theorem mk_sheetL {K : PySem.W.Frag} {C CF : Addr} {H : Hp} {l : Addr} {ns : List Str} {R : Addr → Hp → Prop} {E : XK} (hl : SqL K H l (ns.map V.str)) (nm : Nms ns) (hp : ∀ x H', Same H H' → H x = none → ShP K C H' x ns → R x H') :
    ∀ x dx, H x = none → H dx = none → dx ≠ x → sp_shInit K C CF [.ref x, .ref l] (upd (upd H dx (.own x)) x (.ins C dx [])) (fun v H2 => v = .non ∧ R x H2) E := by
  refine mk_sheet (d := .list (ns.map PyData.str)) (.lst hl (strs_dq ns)) ?_ ?_ (fun ms x H' h => nomatch h) ?_
  · intro ds h
    rcases h with h | h
    · cases h
      refine ⟨by rw [List.length_map]; have := nm.hi; omega, fun x hx => ?_⟩
      obtain ⟨z, hz, rfl⟩ := List.mem_map.mp hx
      intro y hy
      cases hy
      have := name_len (nm.nm z hz)
      omega
    · cases h
  · intro i e
    have : fwD (.list (ns.map PyData.str)) = none := fwL_names nm
    rw [this] at e
    cases e
  · intro ms x H' h h2 h3 h4 h5
    have e : ms = ns := by
      have h' : ns.map PyData.str = ms.map PyData.str := by injection h
      have inj : ∀ {a b : List Str}, a.map PyData.str = b.map PyData.str → a = b := by
        intro a
        induction a with
        | nil => intro b hb; cases b with
          | nil => rfl
          | cons _ _ => cases hb
        | cons y r ih => intro b hb; cases b with
          | nil => cases hb
          | cons y' r' =>
            simp only [List.map_cons, List.cons.injEq, PyData.str.injEq] at hb
            rw [hb.1, ih hb.2]
      exact (inj h').symm
    subst e
    exact hp x H' h3 h4 h5
def sp_place (K : PySem.W.Frag) (C CU : Addr) : Sp := fun vs H Q E => ∃ (a : Addr) (ns : List Str) (v : V) (d : PyData), vs = [.ref a, v] ∧ ShP K C H a ns ∧ Dq K H v d ∧ (hasD ns d = false → d.depth ≤ 5 ∧ slim d = true ∧ OutV K CU H d E) ∧
  ∀ z, d = .str z → z ∈ ns → Q (.int (ns.idxOf z : Nat)) H
end Lw
namespace Lw
open PySem PySem.Spec PyProof.Rows L2
theorem strs_len {ns : List Str} (h : Nms ns) : (PyData.list (ns.map PyData.str)).shown.length ≤ 2000 := by
  have q := (small_strs (n := 8) fun z hz => ⟨name_bytes (h.nm z hz), (name_len (h.nm z hz)).2⟩).ln
  have := h.hi
  omega
def sp_read (K : PySem.W.Frag) (C CT : Addr) : Sp := fun vs H Q E => ∃ (v : V) (d : PyData), vs = [.ref C, v] ∧ Dq K H v d ∧ (isS d = false → OutI "line" CT H 0 E) ∧
  ∀ z, d = .str z → z.length ≤ 800 ∧ (fwL ((Txt.split z " ").map PyData.str) ≠ none → OutI "line" CT H 1 E) ∧ (fwL ((Txt.split z " ").map PyData.str) = none → ∀ x H', Same H H' → H x = none → ShP K C H' x (Txt.split z " ") → Q (.ref x) H')
end Lw
namespace Lw
open PySem PySem.Spec PyProof.Rows L2
theorem sp_tl : TL.tl (" " : Str) = [32] := by decide +kernel
theorem sp_ok : ((" " : Str).cps.all (· < 256)) = true := by decide +kernel
theorem wsplit_len (z : Str) : (Txt.split z (" " : Str)).length ≤ z.length + 1 := by
  have e := TL.split_spl z (" " : Str) (by rw [sp_tl]; simp) (TL.kind_ok sp_ok)
  have l : (Txt.split z (" " : Str)).length = ((Txt.split z (" " : Str)).map TL.tl).length := by rw [List.length_map]
  rw [l, e, TL.len_tl, sp_tl]
  have key : ∀ (l acc : List Nat), (TL.spl [32] 0 acc l).length ≤ l.length + 1 := by
    intro l
    induction l with
    | nil => intro acc; rw [TL.spl_nil]; exact Nat.le_refl _
    | cons c r ih =>
      intro acc
      cases p : TL.pre [32] (c :: r) with
      | true =>
        rw [TL.spl_hit p, List.length_cons, List.length_cons]
        exact Nat.succ_le_succ (ih [])
      | false =>
        rw [TL.spl_miss p, List.length_cons]
        have := ih (acc ++ [c])
        omega
  exact key _ _
theorem wsplit_part {z x : Str} (h : x ∈ Txt.split z (" " : Str)) : x.length ≤ z.length := by
  have e := StrLaws.join_split z (" " : Str)
  have := join_len (y := (" " : Str)) h
  rw [e] at this
  exact this
theorem wsplit_sh {z : Str} (h : z.length ≤ 800) : Sh (.list ((Txt.split z (" " : Str)).map PyData.str)) := by
  intro ds hd
  rcases hd with hd | hd
  · cases hd
    refine ⟨by rw [List.length_map]; have := wsplit_len z; omega, fun x hx => ?_⟩
    obtain ⟨y, hy, rfl⟩ := List.mem_map.mp hx
    intro w hw
    cases hw
    have := wsplit_part hy
    omega
  · cases hd
end Lw
namespace Lw
open PySem PySem.Spec PyProof.Rows L2
theorem strs_inj : ∀ {a b : List Str}, a.map PyData.str = b.map PyData.str → a = b
  | [], [], _ => rfl
  | [], _ :: _, h => nomatch h
  | _ :: _, [], h => nomatch h
  | y :: r, y' :: r', h => by
    simp only [List.map_cons, List.cons.injEq, PyData.str.injEq] at h
    rw [h.1, strs_inj h.2]
end Lw

set_option Elab.async false
set_option linter.all false
set_option maxRecDepth 100000
set_option maxHeartbeats 4000000
namespace Lw
open PySem PySem.Spec PyProof.Rows L2
/-! ## what laws draw -/
def odds1 : List PyData := [.none, .int 0, .int 1, .bool true, .bool false, .str "", .str "A", .str "nineletters", .tuple [], .list [], .dict [], .tuple [.int 1, .int 2], .tuple [.int 2, .int 4], .tuple [.int 3, .int 1], .tuple [.int 1, .int 0], .tuple [.int 1, .int (-2)]]
def odds2 : List PyData := [.tuple [.bool true, .int 2], .list [.int 1, .int 2], .tuple [.int 1, .int 2, .int 3], .tuple [.str "1", .int 2], .tuple [.int 0, .int 2], .tuple [.int (-3), .int 6], .int (-5), .str "a", .str "ab", .str "a b", .str "1", .tuple [.str "a"]]
def odds3 : List PyData := [.tuple [.int 1, .bool true]]
def odds : List PyData := odds1 ++ odds2 ++ odds3
def sp_odd (K : PySem.W.Frag) : Sp := fun vs H Q _ => ∃ a : Addr, vs = [.ref a] ∧ PotAt H a ∧ ∀ v d H', d ∈ odds → Dq K (off H' a) v d → PotAt H' a → Off a H H' → Q v H'
theorem erase_perm {α : Type} : ∀ {zs : List α} {j : Nat} {y : α}, zs[j]? = some y → ([y] ++ zs.eraseIdx j).Perm zs
  | [], _, _, h => by simp at h
  | z :: zs, 0, y, h => by
    cases (show some z = some y from h)
    exact List.Perm.refl _
  | z :: zs, j + 1, y, h => by
    have ih := erase_perm (zs := zs) (j := j) (y := y) (by simpa using h)
    exact (List.Perm.swap z y _).trans (ih.cons z)
def sp_mixed (K : PySem.W.Frag) : Sp := fun vs H Q _ => ∃ (a l : Addr) (xs : List V), vs = [.ref a, .ref l] ∧ PotAt H a ∧ SqL K H l xs ∧ SqL K (off H a) l xs ∧ xs.length ≤ 100 ∧ ∀ m ys H', PotAt H' a → Off a H H' → H m = none → H' m = some (.lst ys) → ys.Perm xs → Q (.ref m) H'
def sp_word (K : PySem.W.Frag) : Sp := fun vs H Q _ => ∃ (a l : Addr) (ns : List Str), vs = [.ref a, .ref l] ∧ PotAt H a ∧ SqL K (off H a) l (ns.map V.str) ∧ ns.length ≤ 20 ∧ ∀ z H', nameB z = true → z ∉ ns → PotAt H' a → Off a H H' → Q (.str z) H'
def sp_words : Sp := fun vs H Q _ => ∃ (a : Addr) (n : Nat), vs = [.ref a, .int n] ∧ PotAt H a ∧ n ≤ 20 ∧ ∀ (l : Addr) (ns : List Str) H', ns.length = n → ns.Nodup → (∀ z ∈ ns, nameB z = true) → PotAt H' a → Off a H H' → H l = none → H' l = some (.lst (ns.map V.str)) → Q (.ref l) H'
def sp_labels : Sp := fun vs H Q _ => ∃ (a : Addr) (n : Nat), vs = [.ref a, .int n] ∧ PotAt H a ∧ 1 ≤ n ∧ n ≤ 12 ∧ ∀ (l : Addr) (ns : List Str) H', Nms ns → PotAt H' a → Off a H H' → H l = none → H' l = some (.lst (ns.map V.str)) → Q (.ref l) H'
theorem ofc_sign {c : Nat} (h : c ∈ abc.cps.toList) : nameB ⟨#[c]⟩ = true := by
  unfold nameB
  have h1 : ((⟨#[c]⟩ : Str).length : Int) = 1 := rfl
  rw [h1]
  have h' : c ∈ abc.cps := by simpa using h
  simp [h']
theorem name_join {ys : List Str} (h0 : 1 ≤ ys.length) (h1 : ys.length ≤ 8) (h : ∀ y ∈ ys, ∃ c, c ∈ abc.cps.toList ∧ y = ⟨#[c]⟩) : nameB (Str.join "" ys) = true := by
  have hb := bytes_join ys fun y hy => by
    obtain ⟨c, hc, rfl⟩ := h y hy
    exact one_sign (abc_bytes c hc)
  have hc : ∀ {ys : List Str}, (∀ y ∈ ys, ∃ c, c ∈ abc.cps.toList ∧ y = ⟨#[c]⟩) → ∀ c ∈ (Str.join "" ys).cps.toList, c ∈ abc.cps.toList := by
    intro ys
    induction ys with
    | nil => intro _ c hc; cases hc
    | cons x r ih =>
      intro h c hc
      cases r with
      | nil =>
        obtain ⟨e, he, rfl⟩ := h x (by simp)
        have : c = e := by
          have hc' : c ∈ ([e] : List Nat) := hc
          simpa using hc'
        rw [this]
        exact he
      | cons y r =>
        have e : (Str.join "" (x :: y :: r)).cps.toList = x.cps.toList ++ ([] : List Nat) ++ (Str.join "" (y :: r)).cps.toList := by
          show ((x.cps ++ #[]) ++ (Str.join "" (y :: r)).cps).toList = _
          simp
        rw [e] at hc
        simp only [List.append_nil, List.mem_append] at hc
        rcases hc with q | q
        · obtain ⟨e3, he, rfl⟩ := h x (by simp)
          have : c = e3 := by
            have hc' : c ∈ ([e3] : List Nat) := q
            simpa using hc'
          rw [this]
          exact he
        · exact ih (fun z hz => h z (List.mem_cons_of_mem _ hz)) c q
  unfold nameB
  rw [hb.1]
  simp only [Bool.and_eq_true, List.all_eq_true, decide_eq_true_eq]
  refine ⟨⟨by omega, by omega⟩, hc h⟩
theorem nodup_sub {α : Type} [BEq α] [LawfulBEq α] : ∀ {l m : List α}, l.Nodup → (∀ x ∈ l, x ∈ m) → l.length ≤ m.length
  | [], _, _, _ => Nat.zero_le _
  | a :: r, m, h, hs => by
    rw [List.nodup_cons] at h
    have ha := hs a List.mem_cons_self
    have := nodup_sub (l := r) (m := m.erase a) h.2 fun x hx => by
      have ne : x ≠ a := fun e => h.1 (e ▸ hx)
      exact (List.mem_erase_of_ne ne).mpr (hs x (List.mem_cons_of_mem _ hx))
    rw [List.length_erase_of_mem ha] at this
    have : 1 ≤ m.length := List.length_pos_of_mem ha
    rw [List.length_cons]
    omega
/-- of 26 letters one is not among 20 words -/
theorem letter_left {ns : List Str} (h : ns.length ≤ 20) : (abc.cps.toList.filter fun c => !(ns.contains (⟨#[c]⟩ : Str))) ≠ [] := by
  intro e
  have h1 : ∀ c ∈ abc.cps.toList, (⟨#[c]⟩ : Str) ∈ ns := fun c hc => by
    refine Classical.byContradiction fun n => ?_
    have : c ∈ (abc.cps.toList.filter fun c => !(ns.contains (⟨#[c]⟩ : Str))) := by
      rw [List.mem_filter]
      refine ⟨hc, ?_⟩
      have : ns.contains (⟨#[c]⟩ : Str) = false := by simpa using n
      rw [this]
      rfl
    rw [e] at this
    cases this
  have nd : (abc.cps.toList.map fun c => (⟨#[c]⟩ : Str)).Nodup := by decide +kernel
  have sub : ∀ x ∈ (abc.cps.toList.map fun c => (⟨#[c]⟩ : Str)), x ∈ ns := fun x hx => by
    obtain ⟨c, hc, rfl⟩ := List.mem_map.mp hx
    exact h1 c hc
  have l26 : (abc.cps.toList.map fun c => (⟨#[c]⟩ : Str)).length = 26 := by decide +kernel
  have := nodup_sub nd sub
  omega
end Lw
namespace Lw
open PySem PySem.Spec PyProof.Rows L2
section
variable {X : Cx}
/-- x is not True -/
def rNotB : R2 := fun x y H Q => ∃ b c : Bool, x = .bl b ∧ y = .bl c ∧ Q (.bl (!(b == c))) H
theorem op_notB : OpR X (compareOp .IsNot) rNotB := by
  intro pins s σ H x y v u Q I rx ry h
  obtain ⟨b, c, rfl, rfl, q⟩ := h
  cases rx
  cases ry
  exact isnot_bool ⟨.bl _, H, I, rfl, q⟩
end
theorem small_bools3 (a b c : Bool) : (PyData.list [.bool a, .bool b, .bool c]).showable = true ∧ (PyData.list [.bool a, .bool b, .bool c]).shown.length ≤ sizeLine ∧ (PyData.list [.bool a, .bool b, .bool c]).depth ≤ 60 := by
  cases a <;> cases b <;> cases c <;> exact ⟨by decide +kernel, by decide +kernel, by decide +kernel⟩
end Lw
namespace Lw
open PySem PySem.Spec PyProof.Rows L2
theorem idx_nodup {ns : List Str} {i : Nat} {z : Str} (nd : ns.Nodup) (h : ns[i]? = some z) : ns.idxOf z = i := by
  have hz : z ∈ ns := List.mem_of_getElem? h
  have h1 := List.idxOf_lt_length_of_mem hz
  have h2 : ns[ns.idxOf z]? = some z := idx_at hz
  obtain ⟨h3, e3⟩ := List.getElem?_eq_some_iff.mp h
  obtain ⟨h4, e4⟩ := List.getElem?_eq_some_iff.mp h2
  exact (List.getElem_inj nd).mp (e4.trans e3.symm)
theorem dq_ints {K : PySem.W.Frag} {H : Hp} : ∀ is : List Int, DqAll K H (is.map V.int) (is.map PyData.int)
  | [] => .nil
  | i :: is => .cons (.int i) (dq_ints is)
theorem small_ints {is : List Int} (h : ∀ i ∈ is, i.natAbs < 2 ^ 1000) (hl : is.length ≤ 40) : Small 90000 (.list (is.map PyData.int)) := by
  have q := small_list (n := 2000) (ds := is.map PyData.int) fun d hd => by
    obtain ⟨z, hz, rfl⟩ := List.mem_map.mp hd
    exact ⟨small_int (h z hz), by simp [PyData.depth]⟩
  rw [List.length_map] at q
  exact q.mono (by omega)
theorem bytes_sjoin : ∀ {ns : List Str}, (∀ z ∈ ns, Bytes z) → Bytes (Str.join " " ns)
  | [], _ => fun c hc => by cases hc
  | [x], h => h x (by simp)
  | x :: y :: r, h => by
    have e : Str.join " " (x :: y :: r) = x ++ (" " : Str) ++ Str.join " " (y :: r) := rfl
    rw [e]
    refine bytes_app (bytes_app (h x (by simp)) ?_) (bytes_sjoin fun z hz => h z (List.mem_cons_of_mem _ hz))
    intro c hc
    have : c ∈ ([32] : List Nat) := by
      have e : (" " : Str).cps.toList = [32] := by decide +kernel
      rw [e] at hc
      exact hc
    simp at this
    omega
theorem len_sjoin : ∀ {ns : List Str} {n : Nat}, (∀ z ∈ ns, z.length ≤ n) → (Str.join " " ns).length ≤ ns.length * (n + 1)
  | [], _, _ => Nat.zero_le _
  | [x], n, h => by
    have := h x (by simp)
    show x.length ≤ 1 * (n + 1)
    omega
  | x :: y :: r, n, h => by
    have e : Str.join " " (x :: y :: r) = x ++ (" " : Str) ++ Str.join " " (y :: r) := rfl
    have h1 := h x (by simp)
    have h2 := len_sjoin (ns := y :: r) (n := n) fun z hz => h z (List.mem_cons_of_mem _ hz)
    have h3 : (" " : Str).length = 1 := by decide +kernel
    rw [e, strLen_append, strLen_append, h3, List.length_cons (a := x), Nat.succ_mul]
    omega
theorem small_words {ns : List Str} (h : Nms ns) : Small 2000 (.str (Txt.join " " ns)) := by
  have h1 : Bytes (Str.join " " ns) := bytes_sjoin fun z hz => name_bytes (h.nm z hz)
  have h2 := len_sjoin (ns := ns) (n := 8) fun z hz => (name_len (h.nm z hz)).2
  have := h.hi
  have e : Txt.join " " ns = Str.join " " ns := TL.join_eq _ _
  rw [e]
  exact (small_text (n := 108) h1 (by omega)).mono (by omega)
theorem small_names {ns : List Str} (h : Nms ns) : Small 2000 (.list (ns.map PyData.str)) := by
  have q := small_strs (n := 8) fun z hz => ⟨name_bytes (h.nm z hz), (name_len (h.nm z hz)).2⟩
  have := h.hi
  exact q.mono (by omega)
theorem odds_small : ∀ d ∈ odds, Small 200 d ∧ d.depth ≤ 5 ∧ slim d = true ∧ Short d := by
  intro d hd
  simp only [odds, odds1, odds2, odds3, List.cons_append, List.nil_append, List.mem_cons, List.not_mem_nil, or_false] at hd
  rcases hd with rfl | rfl | rfl | rfl | rfl | rfl | rfl | rfl | rfl | rfl | rfl | rfl | rfl | rfl | rfl | rfl | rfl | rfl | rfl | rfl | rfl | rfl | rfl | rfl | rfl | rfl | rfl | rfl | rfl
  all_goals
    refine ⟨⟨by decide +kernel, by decide +kernel, by decide +kernel⟩, by decide +kernel, by decide +kernel, fun z hz => ?_⟩
    first
      | (cases hz; decide)
      | (exact PyData.noConfusion hz)
theorem rg_ints (n : Nat) : rgV 0 (n : Int) = ((List.range n).map fun i : Nat => (i : Int)).map V.int := by
  unfold rgV
  rw [List.map_map]
  have : ((n : Int) - 0).toNat = n := by omega
  rw [this]
  apply List.map_congr_left
  intro i _
  show V.int (0 + (i : Int)) = V.int i
  rw [Int.zero_add]
end Lw
namespace Lw
open PySem PySem.Spec PyProof.Rows L2
/-- isinstance(x, str) and x in l -/
theorem e_there {K : PySem.W.Frag} {i j : Nat} {v : V} {d : PyData} {l : Addr} {ns : List Str} {σ : L2.St} {H : Hp} {Q : VK} (hi : σ[i]? = some (some v)) (hj : σ[j]? = some (some (.ref l))) (hd : Dq K H v d) (hl : SqL K H l (ns.map V.str)) (q : Q (.bl (hasD ns d)) H) :
    tAndV (tCB (rIsi K) (tCons (tVar i) (tCons (tC (.ty "str")) tNil))) (tOp (rIn K false) (tVar i) (tVar j)) σ H Q := by
  refine ⟨v, hi, v, .ty "str", _, _, _, rfl, .ty _, hd.ty, kit_ty (kit_str d), _, rfl, ?_⟩
  cases hd with
  | str z =>
    refine ⟨.str z, hi, .ref l, hj, l, _, rfl, .inl hl, rfl, Lw.flat_strs _, ?_⟩
    rw [if_neg (by decide), in_strs]
    exact q
  | _ => exact q
theorem last_of {ns : List Str} (h : 1 ≤ ns.length) : ∃ z, z ∈ ns ∧ atI (ns.map V.str) (-1) = some (.str z) := by
  have hne : ns ≠ [] := fun e => by
    rw [e] at h
    exact absurd h (by decide)
  refine ⟨ns.getLast hne, List.getLast_mem hne, ?_⟩
  have e : ns.map V.str = (ns.dropLast.map V.str) ++ [V.str (ns.getLast hne)] := by
    rw [← List.map_singleton, ← List.map_append, List.dropLast_concat_getLast hne]
  rw [e]
  exact atI_last _ _
end Lw
namespace Lw
open PySem PySem.Spec PyProof.Rows L2
theorem small_bool (b : Bool) : (PyData.bool b).showable = true ∧ (PyData.bool b).shown.length ≤ sizeLine ∧ (PyData.bool b).depth ≤ 60 := by
  cases b <;> exact ⟨by decide +kernel, by decide +kernel, by decide +kernel⟩
end Lw
namespace Lw
open PySem PySem.Spec PyProof.Rows L2
theorem mk_sheet2 {K : PySem.W.Frag} {C CF x dx : Addr} {H : Hp} {v : V} {d : PyData} {Q : VK} {E : XK} (hd : Dq K H v d) (hs : Sh d) (nx : H x = none) (nd : H dx = none) (ne : dx ≠ x) (ho : ∀ i, fwD d = some i → OutI "index" CF H i E)
    (hq : ∀ ns H', d = .tuple (ns.map PyData.str) → Nms ns → Same H H' → ShAt K C H' x ns → Q .non H') (hp : ∀ ns H', d = .list (ns.map PyData.str) → Nms ns → Same H H' → ShP K C H' x ns → Q .non H') :
    sp_shInit K C CF [.ref x, v] (upd (upd H dx (.own x)) x (.ins C dx [])) Q E := by
  obtain ⟨a, dx', v', d', e, h⟩ := mk_sheet (K := K) (C := C) (CF := CF) (R := fun y H' => y = x → Q .non H') hd hs ho (fun ns y H' h1 h2 h3 _ h4 e => by subst e; exact hq ns H' h1 h2 h3 h4) (fun ns y H' h1 h2 h3 _ h4 e => by subst e; exact hp ns H' h1 h2 h3 h4) x dx nx nd ne
  cases e
  obtain ⟨h1, h2, h3, h4, h5, h6⟩ := h
  exact ⟨x, dx', v, d', rfl, h1, h2, h3, h4, fun ns H' t g1 g2 g3 g4 g5 => (h5 ns H' t g1 g2 g3 g4 g5).2 rfl, fun ns H' t o g1 g2 g3 g4 g5 g6 => (h6 ns H' t o g1 g2 g3 g4 g5 g6).2 rfl⟩
theorem sh_names {ns : List Str} (nm : Nms ns) {d : PyData} (h : d = .list (ns.map PyData.str) ∨ d = .tuple (ns.map PyData.str)) : Sh d := by
  intro ds h'
  have e : ds = ns.map PyData.str := by
    rcases h with rfl | rfl <;> rcases h' with h' | h' <;> first | (cases h'; rfl) | cases h'
  subst e
  refine ⟨by rw [List.length_map]; have := nm.hi; omega, fun x hx => ?_⟩
  obtain ⟨z, hz, rfl⟩ := List.mem_map.mp hx
  intro y hy
  cases hy
  have := name_len (nm.nm z hz)
  omega
theorem mk_sheetL2 {K : PySem.W.Frag} {C CF x dx : Addr} {H : Hp} {l : Addr} {ns : List Str} {Q : VK} {E : XK} (hl : SqL K H l (ns.map V.str)) (nm : Nms ns) (nx : H x = none) (nd : H dx = none) (ne : dx ≠ x) (hp : ∀ H', Same H H' → ShP K C H' x ns → Q .non H') :
    sp_shInit K C CF [.ref x, .ref l] (upd (upd H dx (.own x)) x (.ins C dx [])) Q E := by
  refine mk_sheet2 (d := .list (ns.map PyData.str)) (.lst hl (strs_dq ns)) (sh_names nm (.inl rfl)) nx nd ne (fun i e => ?_) (fun ms H' h => nomatch h) (fun ms H' h _ h3 h4 => ?_)
  · have : fwD (.list (ns.map PyData.str)) = none := fwL_names nm
    rw [this] at e
    cases e
  · have e : ns = ms := strs_inj (by injection h)
    subst e
    exact hp H' h3 h4
theorem mk_sheetT2 {K : PySem.W.Frag} {C CF x dx : Addr} {H : Hp} {l : Addr} {ns : List Str} {Q : VK} {E : XK} (hl : SqT K H l (ns.map V.str)) (nm : Nms ns) (nx : H x = none) (nd : H dx = none) (ne : dx ≠ x) (hp : ∀ H', Same H H' → ShAt K C H' x ns → Q .non H') :
    sp_shInit K C CF [.ref x, .ref l] (upd (upd H dx (.own x)) x (.ins C dx [])) Q E := by
  refine mk_sheet2 (d := .tuple (ns.map PyData.str)) (.tup hl (strs_dq ns)) (sh_names nm (.inr rfl)) nx nd ne (fun i e => ?_) (fun ms H' h _ h3 h4 => ?_) (fun ms H' h => nomatch h)
  · have : fwD (.tuple (ns.map PyData.str)) = none := fwL_names nm
    rw [this] at e
    cases e
  · have e : ns = ms := strs_inj (by injection h)
    subst e
    exact hp H' h3 h4
theorem split_names {ns : List Str} (nm : Nms ns) : Txt.split (Txt.join " " ns) " " = ns := by
  have hne : ns ≠ [] := fun e => by
    have := nm.lo
    rw [e] at this
    exact absurd this (by decide)
  refine TL.split_join sp_tl sp_ok hne fun p hp hm => ?_
  have := name_abc (nm.nm p hp) 32 hm
  exact absurd this (by decide +kernel)
theorem perm_names {ns : List Str} {ys : List V} (nm : Nms ns) (h : ys.Perm (ns.map V.str)) : ∃ ms : List Str, ys = ms.map V.str ∧ Nms ms := by
  have : ∃ ms : List Str, ys = ms.map V.str := by
    have h1 : ∀ y ∈ ys, ∃ z, y = V.str z := fun y hy => by
      obtain ⟨z, _, rfl⟩ := List.mem_map.mp (h.mem_iff.mp hy)
      exact ⟨z, rfl⟩
    clear h
    induction ys with
    | nil => exact ⟨[], rfl⟩
    | cons y r ih =>
      obtain ⟨z, rfl⟩ := h1 y List.mem_cons_self
      obtain ⟨ms, rfl⟩ := ih fun y hy => h1 y (List.mem_cons_of_mem _ hy)
      exact ⟨z :: ms, rfl⟩
  obtain ⟨ms, rfl⟩ := this
  have hl := h.length_eq
  rw [List.length_map, List.length_map] at hl
  have inj : ∀ {a b : List Str}, (a.map V.str).Nodup ↔ a.Nodup := fun {a b} => by
    unfold List.Nodup
    rw [List.pairwise_map]
    constructor
    · intro q
      exact q.imp fun n e => n (by rw [e])
    · intro q
      exact q.imp fun n e => n (V.str.inj e)
  refine ⟨ms, rfl, by have := nm.lo; omega, by have := nm.hi; omega, ?_, fun z hz => ?_⟩
  · exact (inj (b := [])).mp ((h.nodup_iff).mpr ((inj (b := [])).mpr nm.nd))
  · obtain ⟨y, hy, e⟩ := List.mem_map.mp (h.mem_iff.mp (List.mem_map.mpr ⟨z, hz, rfl⟩))
    cases V.str.inj e
    exact nm.nm _ hy
theorem one_name {ns : List Str} (nm : Nms ns) {z : Str} (h : z ∈ ns) : Nms [z] := ⟨by show 1 ≤ 1; decide, by show 1 ≤ 12; decide, by simp, fun y hy => by
  cases List.mem_singleton.mp hy
  exact nm.nm _ h⟩
theorem shapedL_strs {ns : List Str} (h : Nms ns) : SeqAt.shaped (.list (ns.map PyData.str)) = true := by
  unfold SeqAt.shaped
  rw [Bool.and_eq_true]
  refine ⟨?_, ?_⟩
  · exact canLay_strs ns h.nm
  · have : PyData.depth (.list (ns.map PyData.str)) ≤ 64 := by
      simp only [PyData.depth, depth_strs]
      omega
    exact decide_eq_true this
end Lw

set_option Elab.async false
set_option linter.all false
set_option maxRecDepth 100000
set_option maxHeartbeats 4000000
namespace Lw
open PySem PySem.Spec PyProof.Rows L2
/-! ## defs in which a token is out -/
theorem pst_set {X : Cx} {i : Nat} {x : Str} {e : Expr} {te : TE} {pos pos' : Pos} (hN : X.N.Nodup) (hi : X.N[i]? = some x) (hx : Loc X.env.scope x) (he : PET X e te) (hs : swapsWith e (some (.Name x pos')) pos.line X.env = pure false := by rfl)
    (hf : X.fn x = true ∨ X.env.scope.names.lookup x = some .local := by first | exact .inl rfl | exact .inr rfl | assumption) : PST X (.Assign [.Name x pos'] e pos) (tAsg te (gName i)) := by
  intro pins s σ H D h0 I h
  refine wpAny_Assign_Name (thn (he pins s σ H _ h0 I h) fun v s1 hh => ?_) hs
  obtain ⟨y, H1, I1, r1, q1⟩ := hh
  exact store_ok I1 hN hi hx r1 (fun s2 I2 => ⟨_, H1, I2, q1⟩) hf
/-- a def's body keeps its promise; a token is out when it begins; no repr is under way -/
theorem fn_gT {CX : CXT} {P : Program} {w : World} {K : PySem.W.Frag} {mg : Str → Option Value} {base : Heap} {k : Nat} {f : Addr} {fd : FuncData} {name qual : Str} {params : Arguments} {body : List Stmt} {scope : Scope} {dvs : List V} {kws : List (Str × V)}
    {N ps : List Str} {sp : Sp} (F : FunD K name qual params body scope dvs kws f fd) (S : FnScope N ps scope)
    (hnc : ∀ y ∈ scope.names, y.2 ≠ .cell) (hps : 1 ≤ ps.length) (len : ∀ vs H Q E, sp vs H Q E → vs.length = ps.length)
    (hbody : ∀ (cdv : Value) (A : Around) (outer : List Env) (s : Shared) (H : Hp) (vs : List V) (Q : VK) (E : XK), A.guards = some [] → Room k (A.deeper (envOfC qual scope s.heap.objs.size f cdv)) → sp vs H Q E →
      ∃ t, PSsT (cxOf CX P w K mg base N qual scope f cdv A outer s H E) body t ∧ t { nx := fun _ H' => Q .non H', rt := Q } (start N vs) H) :
    FnG P w K mg base CX (k + 1) f fd ps sp := by
  obtain ⟨oc, od, dV, kV, doc, pm, an, cdv, ct, osl, rfl, lk, hcd, _, _⟩ := F.ex
  refine ⟨len, fun A outer s H args us vs Q E hg hr e0 hb r hsp => ?_⟩
  have hl := len _ _ _ _ hsp
  have hul : us.length = ps.length := by rw [← r.length, hl]
  have KX : K.In s.heap := e0.mod.kin.keeps fun b o e => (e0.bs b o e).1
  have lim : s.heap.NoLimit := e0.mod.nolimit.keeps fun b o e => (e0.bs b o e).1
  have hloc : ∀ y ∈ ps.zip us, scope.names.lookup y.1 = some .local := fun ⟨n, v⟩ hy => by
    rcases S.par n (List.of_mem_zip hy).1 with q | q
    · exact q
    · exact absurd rfl (hnc _ (PySem.mem_of_lookup q))
  refine codeAny_call_function hr.depth (KX _ _ lk) rfl S.co S.gen rfl (PySem.W.codeRec_of KX hcd) (hb _ _ _ _ ?_)
  refine wpAny_newFunctionEnv hnc hloc (fun h1 hns hsb => ?_) S.kind
  have hz : (ps.zip us).length = ps.length := by rw [List.length_zip, hul, Nat.min_self]
  have keep : ∀ b o, s.heap.get? b = some o → h1.get? b = some o := fun b o e => hsb.extBut b o (Nat.ne_of_lt (Heap.lt_size e)) (Heap.get?_push_of_some _ e)
  have hcl : cellsFrom (s.heap.objs.size + 1) scope.names [] = [] := cells_none _ _ _ hnc
  have hkl : ∀ y ∈ ps.zip us, (envOfC qual scope s.heap.objs.size f cdv).kindOf y.1 = some .local := fun y hy => by
    first
    | exact hloc y hy
    | (simp only [Env.kindOf]; exact hloc y hy)
    | (unfold Env.kindOf; rw [if_pos S.kind]; exact hloc y hy)
    | simpa [Env.kindOf, envOfC, newEnv, S.kind] using hloc y hy
  have hm : (bindL (envOfC qual scope s.heap.objs.size f cdv).kindOf (ps.zip us) fun _ => none) = fun x => (ps.zip us).reverse.lookup x := by
    funext y
    rw [bindL_loc _ _ hkl y]
    cases (ps.zip us).reverse.lookup y <;> rfl
  have x : InCallC s s.heap.objs.size (bindL (envOfC qual scope s.heap.objs.size f cdv).kindOf (ps.zip us) fun _ => none) (cellsFrom (s.heap.objs.size + 1) scope.names [])
      (bindC (envOfC qual scope s.heap.objs.size f cdv).kindOf (ps.zip us) fun _ => none) ({ s with heap := h1, toks := s.toks + (ps.zip us).length } : Shared) := by
    rw [hm, hcl]
    exact ⟨⟨⟨_, _, rfl⟩, hns, keep, Nat.le_refl _⟩, fun n c hc => absurd hc (by simp), .nil, fun n c hc => absurd hc (by simp)⟩
  have henv : newEnv scope s.heap.objs.size mainGlobals [] (qual ++ ".<locals>.") (some f) cdv none builtinsNs = envOfC qual scope s.heap.objs.size f cdv := by
    unfold envOfC
    rw [hcl] <;> rfl
  have hto : 1 ≤ ({ s with heap := h1, toks := s.toks + (ps.zip us).length } : Shared).toks := by
    show 1 ≤ s.toks + (ps.zip us).length
    omega
  show ({ s with heap := h1, toks := s.toks + (ps.zip us).length } : Shared).heap.NoLimit ∧ codeAny (model P w) A (.func body (newEnv scope s.heap.objs.size mainGlobals [] (qual ++ ".<locals>.") (some f) cdv none builtinsNs)) _ ({ s with heap := h1, toks := s.toks + (ps.zip us).length } : Shared)
  rw [henv]
  generalize ({ s with heap := h1, toks := s.toks + (ps.zip us).length } : Shared) = s1 at x hto ⊢
  refine ⟨lim.keeps x.toInCall.keep, codeAny_func ?_⟩
  obtain ⟨t, ht, hq⟩ := hbody cdv A outer s H vs Q E hg (hr.deeper _) hsp
  have I : Inv (cxOf CX P w K mg base N qual scope f cdv A outer s H E) [] (start N vs) H s1 := inv_start S hr.hd e0 hl r x
  refine wpAny_mono (ht [] s1 (start N vs) H _ hto I hq) (fun fl s' hs => ?_) fun e s' hs => hs
  cases fl with
  | ret u =>
    obtain ⟨v, σ', H', J, rv, q⟩ := hs
    exact ⟨v, H', J.os, J.bare, J.base, J.hok, rv, q⟩
  | next =>
    obtain ⟨σ', H', J, q⟩ := hs
    exact ⟨V.non, H', J.os, J.bare, J.base, J.hok, rfl, q⟩
  | brk => exact hs.elim fun _ z => z.elim fun _ z => z.2.elim
  | cont => exact hs.elim fun _ z => z.elim fun _ z => z.2.elim
end Lw
namespace Lw
open PySem PySem.Spec PyProof.Rows L2
theorem psst_nox {X : Cx} {st : List Stmt} {t : TS} (h : PSsT X.nox st t) : PSsT X st t := fun pins s σ H D h0 I hw =>
  wpAny_mono (h pins s σ H D h0 (I.wish _) hw) (fun _ _ q => q.unwish) fun _ _ z => False.elim z
/-- things that a law puts into lists -/
structure OkD (d : PyData) : Prop where
  sm : Small 200 d
  dp : d.depth ≤ 5
  sh : Short d
  tx : ∀ z, d = .str z → z.length ≤ 11
theorem okD_name {z : Str} (h : nameB z = true) : OkD (.str z) := by
  have h1 := name_len h
  have h2 := name_bytes h
  refine ⟨(small_text (n := 8) h2 h1.2).mono (by decide), by simp [PyData.depth], fun y hy => ?_, fun y hy => ?_⟩
  · cases hy
    omega
  · cases hy
    omega
theorem okD_odd : ∀ d ∈ odds, OkD d := by
  intro d hd
  obtain ⟨h1, h2, _, h4⟩ := odds_small d hd
  refine ⟨h1, h2, h4, ?_⟩
  simp only [odds, odds1, odds2, odds3, List.cons_append, List.nil_append, List.mem_cons, List.not_mem_nil, or_false] at hd
  rcases hd with rfl | rfl | rfl | rfl | rfl | rfl | rfl | rfl | rfl | rfl | rfl | rfl | rfl | rfl | rfl | rfl | rfl | rfl | rfl | rfl | rfl | rfl | rfl | rfl | rfl | rfl | rfl | rfl | rfl
  all_goals
    intro z hz
    first
      | (cases hz; decide +kernel)
      | (exact PyData.noConfusion hz)
theorem okD_list {ds : List PyData} (h : ∀ d ∈ ds, OkD d) (hl : ds.length ≤ 20) : Small 5000 (.list ds) := by
  refine (small_list (n := 200) fun d hd => ⟨(h d hd).sm, Nat.le_trans (h d hd).dp (by decide)⟩).mono ?_
  omega
theorem join_shl : ∀ ts : List Str, (Str.join ", " ts).length ≤ shl ts
  | [] => Nat.zero_le _
  | [x] => by
    show x.length ≤ x.length + 2 + 0
    omega
  | x :: y :: r => by
    have ih := join_shl (y :: r)
    show (x ++ (", " : Str) ++ Str.join ", " (y :: r)).length ≤ _
    have e2 : (", " : Str).length = 2 := by decide +kernel
    have e3 : shl (x :: y :: r) = x.length + 2 + shl (y :: r) := by
      unfold shl
      rw [List.map_cons, List.sum_cons]
    rw [strLen_append, strLen_append, e2, e3]
    omega
theorem small_tupN {n : Nat} {ds : List PyData} (h : ∀ d ∈ ds, Small n d ∧ d.depth ≤ 8) : Small (3 + ds.length * (n + 2)) (.tuple ds) := by
  have h1 : ∀ ds : List PyData, (∀ d ∈ ds, Small n d ∧ d.depth ≤ 8) → PyData.showableAll ds = true ∧ shl (ds.map PyData.shown) ≤ ds.length * (n + 2) ∧ PyData.depthAll ds ≤ 8 := by
    intro ds
    induction ds with
    | nil => exact fun _ => ⟨rfl, Nat.zero_le _, Nat.zero_le _⟩
    | cons d ds ih =>
      intro h
      obtain ⟨i1, i2, i3⟩ := ih fun x hx => h x (List.mem_cons_of_mem _ hx)
      obtain ⟨j1, j2⟩ := h d List.mem_cons_self
      refine ⟨?_, ?_, ?_⟩
      · show (d.showable && PyData.showableAll ds) = true
        rw [j1.sh, i1]
        rfl
      · have e : shl ((d :: ds).map PyData.shown) = d.shown.length + 2 + shl (ds.map PyData.shown) := by
          unfold shl
          rw [List.map_cons, List.map_cons, List.sum_cons]
        have := j1.ln
        rw [e, List.length_cons, Nat.succ_mul]
        omega
      · simp only [PyData.depthAll]
        omega
  obtain ⟨a, b, c⟩ := h1 ds h
  refine ⟨a, ?_, ?_⟩
  · show (tupleText (PyData.shownAll ds)).length ≤ _
    rw [shown_all]
    have j := join_shl (ds.map PyData.shown)
    unfold tupleText
    rw [strLen_append, strLen_append]
    have e1 : ("(" : Str).length = 1 := by decide +kernel
    have e2 : ((if ((ds.map PyData.shown).length == 1) = true then ",)" else ")" : String) : Str).length ≤ 2 := by
      split <;> decide +kernel
    rw [e1]
    omega
  · simp only [PyData.depth]
    omega
theorem okD_tuple {ds : List PyData} (h : ∀ d ∈ ds, OkD d) (hl : ds.length ≤ 20) : Small 5000 (.tuple ds) := by
  refine (small_tupN (n := 200) fun d hd => ⟨(h d hd).sm, Nat.le_trans (h d hd).dp (by decide)⟩).mono ?_
  omega
def lets : List Str := ["aq", "bq", "cq", "dq", "eq", "fq", "gq", "hq", "iq", "jq", "kq", "lq", "mq"]
def ab12 : PyData := .dict [(.str "a", .int 1), (.str "b", .int 2)]
theorem ab12_small : Small 200 ab12 := ⟨by decide +kernel, by decide +kernel, by decide +kernel⟩
theorem lets_small : Small 400 (.list (lets.map PyData.str)) := ⟨by decide +kernel, by decide +kernel, by decide +kernel⟩
/-- what a list of such things is for a sheet -/
theorem okD_sh {ds : List PyData} (h : ∀ d ∈ ds, OkD d) (hl : ds.length ≤ 20) {d : PyData} (hd : d = .list ds ∨ d = .tuple ds) : Sh d := by
  intro es he
  have e : es = ds := by
    rcases hd with rfl | rfl <;> rcases he with he | he <;> first | (cases he; rfl) | cases he
  subst e
  exact ⟨by omega, fun x hx => (h x hx).sh⟩
def shortB : PyData → Bool
  | .str z => decide (z.length ≤ 1000)
  | _ => true
theorem shortB_ok {d : PyData} (h : shortB d = true) : Short d := by
  intro z hz
  subst hz
  exact of_decide_eq_true h
def shB : PyData → Bool
  | .list ds => decide (ds.length ≤ 900) && ds.all shortB
  | .tuple ds => decide (ds.length ≤ 900) && ds.all shortB
  | _ => true
theorem shB_ok {d : PyData} (h : shB d = true) : Sh d := by
  intro ds hd
  have h' : (decide (ds.length ≤ 900) && ds.all shortB) = true := by
    rcases hd with rfl | rfl <;> exact h
  rw [Bool.and_eq_true] at h'
  exact ⟨of_decide_eq_true h'.1, fun x hx => shortB_ok (List.all_eq_true.mp h'.2 x hx)⟩
theorem sh_odd : ∀ d ∈ odds, Sh d := fun d hd => shB_ok (List.all_eq_true.mp (show odds.all shB = true by decide +kernel) d hd)
theorem sh_lets : Sh (.list (lets.map PyData.str)) := shB_ok (by decide +kernel)
theorem sh_ab : Sh ab12 := shB_ok rfl
def fwData (d : PyData) : PyData := match fwD d with
  | none => .none
  | some i => .int i
theorem fw_dq {K : PySem.W.Frag} {H : Hp} (d : PyData) : Dq K H (fwV d) (fwData d) := by
  unfold fwV fwData
  cases fwD d with
  | none => exact .non
  | some i => exact .int i
theorem fw_range {seen : List Str} : ∀ {ds : List PyData} {seen : List Str} {i j : Nat}, fwGo seen ds i = some j → j < i + ds.length
  | [], _, _, _, h => by cases h
  | d :: r, seen, i, j, h => by
    rw [List.length_cons]
    cases e : nameD d with
    | false =>
      rw [fwGo_bad e] at h
      cases h
      omega
    | true =>
      cases d with
      | str z =>
        by_cases hz : z ∈ seen
        · rw [fwGo_in hz] at h
          cases h
          omega
        · rw [fwGo_ok e hz] at h
          have := fw_range (seen := seen) h
          omega
      | _ => cases e
theorem fw_small (d : PyData) : (fwData d).showable = true ∧ (fwData d).shown.length ≤ sizeLine ∧ (fwData d).depth ≤ 60 := by
  have key : ∀ i, fwD d = some i → i.natAbs < 2 ^ 1000 := by
    have kl : ∀ ds i, fwL ds = some i → i.natAbs < 2 ^ 1000 := by
      intro ds i h
      unfold fwL at h
      split at h
      · rename_i hl
        cases e : fwGo [] ds 0 with
        | none =>
          rw [e] at h
          cases h
        | some j =>
          rw [e] at h
          cases h
          have := fw_range (seen := []) e
          show (Int.ofNat j).natAbs < _
          have e2 : (Int.ofNat j).natAbs = j := rfl
          rw [e2]
          exact Nat.lt_trans (show j < 13 by omega) (by decide)
      · cases h
        decide
    intro i h
    cases d with
    | list ds => exact kl ds i h
    | tuple ds => exact kl ds i h
    | _ =>
      cases h
      decide
  unfold fwData
  cases e : fwD d with
  | none => exact ⟨by decide +kernel, by decide +kernel, by decide +kernel⟩
  | some i => exact (small_int (key i e)).line (by decide)
def wordOf : PyData → Str
  | .str z => z
  | _ => "B"
theorem lets_at {i c : Nat} (h : ("abcdefghijklm" : Str).cps[i]? = some c) : lets[i]? = some ((⟨#[c]⟩ : Str) ++ ("q" : Str)) := by
  have key : ∀ j < 13, lets[j]? = (("abcdefghijklm" : Str).cps[j]?).map fun c => (⟨#[c]⟩ : Str) ++ ("q" : Str) := by decide +kernel
  have hi : i < 13 := by
    have := (Array.getElem?_eq_some_iff.mp h).1
    exact this
  rw [key i hi, h]
  rfl
end Lw

set_option Elab.async false
set_option linter.all false
set_option maxRecDepth 100000
set_option maxHeartbeats 4000000
namespace HT
open PySem PySem.Spec PyProof.Rows
section
variable {prog : Program} {w : World} {A : Around} {E : Value → Shared → Prop} {s : Shared}
theorem adjust_rev (n : Nat) : Builtin.Slice.sliceAdjust none none (-1) (n : Int) = ((n : Int) - 1, -1) := by
  unfold Builtin.Slice.sliceAdjust
  rfl
theorem places_rev (n : Nat) : Builtin.Slice.slicePlaces ((n : Int) - 1) (-1) (-1) = n := by
  unfold Builtin.Slice.slicePlaces
  have h1 : ¬ ((-1 : Int) > 0) := by omega
  rw [if_neg h1]
  have e : (-(-1 : Int)) = 1 := rfl
  rw [e, Int.ediv_one]
  split <;> omega
theorem pick_rev (xs : Array Value) : ((List.range xs.size).filterMap fun (m : Nat) => xs[(((xs.size : Int) - 1) + (m : Int) * (-1)).toNat]?).toArray = xs.toList.reverse.toArray := by
  have e : (fun (m : Nat) => xs[(((xs.size : Int) - 1) + (m : Int) * (-1)).toNat]?) = (fun k => xs[k]?) ∘ fun k => xs.size - 1 - k := by
    funext m
    have : (((xs.size : Int) - 1) + (m : Int) * (-1)).toNat = xs.size - 1 - m := by omega
    show _ = xs[xs.size - 1 - m]?
    rw [this]
  rw [e, ← List.filterMap_map, PySem.W.krv_range, List.filterMap_reverse, PySem.W.krv_all]
theorem getItem_tuple_rev {t sl : Addr} {items : Array Value} {vl vu vs : Value} {Q : Value → Shared → Prop} (ht : IsTup s.heap t items) (hs : s.heap.IsSliceOf sl vl vu vs) (pl : IsPart vl none) (pu : IsPart vu none) (ps : IsPart vs (some (-1)))
    (h : Q (.ref s.heap.objs.size) { s with heap := s.heap.push { cls := .type "tuple", data := .seq items.toList.reverse.toArray } })
    (hsz : items.size ≤ sizeLine) : wpAny (model prog w) A (getItem (.ref t) (.ref sl)) Q E s := by
  have htake : sizeOk (.seq items.toList.reverse.toArray) := by
    show items.toList.reverse.toArray.size ≤ sizeLine
    rw [List.size_toArray, List.length_reverse, Array.length_toList]
    exact hsz
  obtain ⟨os, hos, hcs, hds⟩ := id hs
  have hTs : s.TypeIs (.ref sl) "slice" := ⟨os, hos, hcs⟩
  unfold getItem
  try with_reducible refine wpAny_holding ?_
  first | refine wpAny_bind (wpAny_pure ?_) | skip
  refine wpAny_bind (wpAny_sequenceKey ht.typeIs (by decide) ?_)
  refine wpAny_bind (wpAny_callSpecial?_slot (name := Str.ofString "__getitem__") ht.typeIs PyProof.Rows.slot_tuple_getitem
    (wpAny_call_entry PyProof.Rows.slot_tuple_getitem ht.typeIs entry_tuple_getitem ?_ (args_tuple_getitem _ _)))
  show wpAny _ _ (Builtin.Tuple.tupleItemsOf (.ref t) >>= _) _ _ s
  refine wpAny_bind (tupleItemsOf_ ht ?_)
  refine wpAny_bind (wpAny_typeOf hTs ?_)
  rw [if_pos (by decide)]
  have hap : ∀ {A : Around} {R : Int × Int × Nat → Shared → Prop}, R ((items.size : Int) - 1, -1, items.size) s → wpAny (model prog w) A (Builtin.Slice.sliceApplied (.ref sl) (pure (items.size : Int))) R E s := by
    intro A R hR
    unfold Builtin.Slice.sliceApplied Builtin.Slice.sliceFields
    refine wpAny_bind (wpAny_bind (wpAny_field hos hds (x := vl) rfl (wpAny_bind (wpAny_field hos hds (x := vu) rfl (wpAny_bind (wpAny_field hos hds (x := vs) rfl (wpAny_pure ?_)))))))
    refine wpAny_bind (slicePart_ ps ?_)
    show wpAny _ _ (if ((-1 : Int) == 0) = true then _ else _) _ _ s
    rw [if_neg (by decide)]
    refine wpAny_bind (slicePart_ pl (wpAny_bind (slicePart_ pu (wpAny_bind (wpAny_pure ?_)))))
    show wpAny _ _ (match Builtin.Slice.sliceAdjust none none (-1) (items.size : Int) with | (lo, hi) => pure (lo, (-1 : Int), Builtin.Slice.slicePlaces lo hi (-1))) _ _ s
    rw [adjust_rev]
    show wpAny _ _ (pure ((items.size : Int) - 1, (-1 : Int), Builtin.Slice.slicePlaces ((items.size : Int) - 1) (-1) (-1))) _ _ s
    rw [places_rev]
    exact wpAny_pure hR
  refine wpAny_bind (hap ?_)
  have hno : ¬ ((((items.size : Int) - 1) == 0 && (-1 : Int) == 1 && items.size == items.size) = true) := by
    intro q
    rw [Bool.and_eq_true, Bool.and_eq_true] at q
    exact absurd q.1.2 (by decide)
  show wpAny _ _ (if (((items.size : Int) - 1) == 0 && (-1 : Int) == 1 && items.size == items.size) = true then _ else _) _ _ s
  rw [if_neg hno, pick_rev]
  first
    | exact wpAny_bind (m := Builtin.Tuple.tupleExact _) (wpAny_newObj_type (wpAny_pure ⟨_, rfl, wpAny_pure h⟩) htake)
    | exact wpAny_bind (m := Builtin.Tuple.tupleExact _) (wpAny_newObj_type (wpAny_bind (wpAny_pure (wpAny_pure ⟨_, rfl, wpAny_pure h⟩))) htake)
    | exact wpAny_bind (wpAny_bind (m := Builtin.Tuple.tupleExact _) (wpAny_newObj_type (wpAny_pure (wpAny_pure ⟨_, rfl, wpAny_pure h⟩)) htake))
    | exact wpAny_bind (wpAny_bind (m := Builtin.Tuple.tupleExact _) (wpAny_newObj_type (wpAny_pure ⟨_, rfl, wpAny_pure h⟩) htake))
end
end HT
namespace Lw
open PySem PySem.Spec PyProof.Rows L2
def tRevT (K : PySem.W.Frag) (te : TE) : TE := fun σ H Q => te σ H fun x H1 => ∃ a xs, x = .ref a ∧ SqT K H1 a xs ∧ ∀ p, H1 p = none → Q (.ref p) (upd H1 p (.tup xs.reverse))
theorem pe_revT {X : Cx} {e : Expr} {te : TE} {k : Nat} {p1 p2 p3 pos : Pos} (he : PE X e te) : PE X (.Subscript e (.Slice none none (some (.UnaryOp .USub (.Constant (.int 1) k p1) p2)) p3) pos) (tRevT X.K te) := by
  refine ⟨fun pins s σ H Q I h => ?_⟩
  refine Subscript_ (thn (he.run pins s σ H _ I h) fun v s1 ⟨x, H1, I1, r1, q1⟩ => ?_)
  obtain ⟨a, xs, ex, hx, q⟩ := q1
  subst ex
  cases r1
  have hst : PO X (some (.UnaryOp .USub (.Constant (.int 1) k p1) p2)) (tPart (tUn (rU fun i => .int (-i)) (tC (.int 1)))) := po_some (pe_un un_neg pe_int)
  refine wpAny_Slice (thn (po_none.run pins s1 σ H1 (fun o H2 => o = none ∧ H2 = H1) I1 ⟨rfl, rfl⟩) fun vl s2 ⟨l, H2, I2, pl, el, e2⟩ => ?_)
  subst el e2
  refine thn (po_none.run pins s2 σ H2 (fun o H3 => o = none ∧ H3 = H2) I2 ⟨rfl, rfl⟩) fun vu s3 ⟨u, H3, I3, pu, eu, e3⟩ => ?_
  subst eu e3
  refine thn (hst.run pins s3 σ H3 (fun o H4 => o = some (-1) ∧ H4 = H3) I3 ⟨1, rfl, -1, rfl, rfl, rfl⟩) fun vs s4 ⟨o, H4, I4, ps, eo, e4⟩ => ?_
  subst eo e4
  have I5 : Inv X pins σ H4 { s4 with heap := s4.heap.push { cls := .type "slice", data := .fields #[vl, vu, vs] } } := I4.kept (t' := s4.toks) fun b ob q => Heap.get?_push_of_some _ q
  obtain ⟨its, r, ht, hz⟩ := I5.tuple hx
  have hlen := r.length
  show wpAny (model X.prog X.w) X.A (subscriptTail e (.Slice none none (some (.UnaryOp .USub (.Constant (.int 1) k p1) p2)) p3) (.ref a) (.ref s4.heap.objs.size)) (EP X pins σ Q) X.xe { s4 with heap := s4.heap.push { cls := .type "slice", data := .fields #[vl, vu, vs] } }
  refine tail_any (ops := [.ref a, .ref s4.heap.objs.size]) ht.typeIs (PyProof.Rows.slot_tuple_getitem.lookup) ?_ (by with_unfolding_all rfl)
  refine HT.getItem_tuple_rev ht (Heap.IsSliceOf.new _ vl vu vs) pl pu ps ?_ (by rw [List.size_toArray]; omega)
  refine ⟨.ref _, _, I5.laid (t' := s4.toks) (o := .tup xs.reverse) (fun b ob q => Heap.get?_push_of_some _ q) (Nat.le_refl _) ?_, rfl, q _ (I5.hok.fresh (Nat.le_refl _))⟩
  exact ⟨by rw [List.length_reverse]; exact hz, _, r.reverse, IsTup.new _ _⟩
end Lw


set_option Elab.async false
set_option linter.all false
set_option maxRecDepth 100000
set_option maxHeartbeats 4000000
namespace K31
open PySem PySem.Spec PyProof.Rows L2 Lw

def topS (i : Nat) : Stmt := PySem.Challenge.pw_lastheld_k31_settings_judged.main.body.getD i (.Pass ⟨0, 0, 0, 0⟩)
abbrev s__wall : Stmt := topS 0
abbrev N__wall : List Str := ["k"]
theorem sc__wall : FnScope N__wall ["k"] (defScope s__wall) := ⟨rfl, rfl, rfl, by decide +kernel, rfl, by decide +kernel, by decide +kernel⟩
abbrev s_is_name : Stmt := topS 8
abbrev N_is_name : List Str := ["value", "sign"]
theorem sc_is_name : FnScope N_is_name ["value"] (defScope s_is_name) := ⟨rfl, rfl, rfl, by decide +kernel, rfl, by decide +kernel, by decide +kernel⟩
abbrev s_is_integer : Stmt := topS 9
abbrev N_is_integer : List Str := ["value"]
theorem sc_is_integer : FnScope N_is_integer ["value"] (defScope s_is_integer) := ⟨rfl, rfl, rfl, by decide +kernel, rfl, by decide +kernel, by decide +kernel⟩
abbrev s_common_divisor : Stmt := topS 11
abbrev N_common_divisor : List Str := ["first", "second"]
theorem sc_common_divisor : FnScope N_common_divisor ["first", "second"] (defScope s_common_divisor) := ⟨rfl, rfl, rfl, by decide +kernel, rfl, by decide +kernel, by decide +kernel⟩
abbrev s_is_number : Stmt := topS 12
abbrev N_is_number : List Str := ["value", "numerator", "denominator", "part"]
theorem sc_is_number : FnScope N_is_number ["value"] (defScope s_is_number) := ⟨rfl, rfl, rfl, by decide +kernel, rfl, by decide +kernel, by decide +kernel⟩
abbrev s_first_wrong_name : Stmt := topS 14
abbrev N_first_wrong_name : List Str := ["values", "most", "at", "value"]
theorem sc_first_wrong_name : FnScope N_first_wrong_name ["values", "most"] (defScope s_first_wrong_name) := ⟨rfl, rfl, rfl, by decide +kernel, rfl, by decide +kernel, by decide +kernel⟩
abbrev s_is_known_level : Stmt := topS 17
abbrev N_is_known_level : List Str := ["value"]
theorem sc_is_known_level : FnScope N_is_known_level ["value"] (defScope s_is_known_level) := ⟨rfl, rfl, rfl, by decide +kernel, rfl, by decide +kernel, by decide +kernel⟩
abbrev s_is_setting : Stmt := topS 18
abbrev N_is_setting : List Str := ["sheet", "value", "level", "time", "replica", "field", "worth"]
theorem sc_is_setting : FnScope N_is_setting ["sheet", "value"] (defScope s_is_setting) := ⟨rfl, rfl, rfl, by decide +kernel, rfl, by decide +kernel, by decide +kernel⟩
abbrev s_pot : Stmt := topS 22
abbrev N_pot : List Str := ["_law_script", "_law_k", "_law_digits"]
theorem sc_pot : FnScope N_pot ["_law_script", "_law_k"] (defScope s_pot) := ⟨rfl, rfl, rfl, by decide +kernel, rfl, by decide +kernel, by decide +kernel⟩
abbrev s_draw : Stmt := topS 23
abbrev N_draw : List Str := ["_law_pot_here", "_law_many", "_law_digit"]
theorem sc_draw : FnScope N_draw ["_law_pot_here", "_law_many"] (defScope s_draw) := ⟨rfl, rfl, rfl, by decide +kernel, rfl, by decide +kernel, by decide +kernel⟩
abbrev s_word : Stmt := topS 24
abbrev N_word : List Str := ["_law_pot_here", "_law_taken", "_law_letters", "_law_word_here", "_law_letter", "_law_k"]
theorem sc_word : FnScope N_word ["_law_pot_here", "_law_taken"] (defScope s_word) := ⟨rfl, rfl, rfl, by decide +kernel, rfl, by decide +kernel, by decide +kernel⟩
abbrev s_words : Stmt := topS 25
abbrev N_words : List Str := ["_law_pot_here", "_law_many", "_law_found", "_law_k"]
theorem sc_words : FnScope N_words ["_law_pot_here", "_law_many"] (defScope s_words) := ⟨rfl, rfl, rfl, by decide +kernel, rfl, by decide +kernel, by decide +kernel⟩
abbrev s_common : Stmt := topS 26
abbrev N_common : List Str := ["_law_a", "_law_b"]
theorem sc_common : FnScope N_common ["_law_a", "_law_b"] (defScope s_common) := ⟨rfl, rfl, rfl, by decide +kernel, rfl, by decide +kernel, by decide +kernel⟩
abbrev s_ratio : Stmt := topS 27
abbrev N_ratio : List Str := ["_law_top", "_law_low", "_law_part"]
theorem sc_ratio : FnScope N_ratio ["_law_top", "_law_low"] (defScope s_ratio) := ⟨rfl, rfl, rfl, by decide +kernel, rfl, by decide +kernel, by decide +kernel⟩
abbrev s_factor : Stmt := topS 28
abbrev N_factor : List Str := ["_law_pot_here", "_law_way"]
theorem sc_factor : FnScope N_factor ["_law_pot_here"] (defScope s_factor) := ⟨rfl, rfl, rfl, by decide +kernel, rfl, by decide +kernel, by decide +kernel⟩
abbrev s_worth : Stmt := topS 29
abbrev N_worth : List Str := ["_law_pot_here", "_law_way", "_law_top"]
theorem sc_worth : FnScope N_worth ["_law_pot_here"] (defScope s_worth) := ⟨rfl, rfl, rfl, by decide +kernel, rfl, by decide +kernel, by decide +kernel⟩
abbrev s_is_whole : Stmt := topS 30
abbrev N_is_whole : List Str := ["_law_thing"]
theorem sc_is_whole : FnScope N_is_whole ["_law_thing"] (defScope s_is_whole) := ⟨rfl, rfl, rfl, by decide +kernel, rfl, by decide +kernel, by decide +kernel⟩
abbrev s_is_word : Stmt := topS 31
abbrev N_is_word : List Str := ["_law_thing", "_law_letter"]
theorem sc_is_word : FnScope N_is_word ["_law_thing"] (defScope s_is_word) := ⟨rfl, rfl, rfl, by decide +kernel, rfl, by decide +kernel, by decide +kernel⟩
abbrev s_is_ratio : Stmt := topS 32
abbrev N_is_ratio : List Str := ["_law_thing"]
theorem sc_is_ratio : FnScope N_is_ratio ["_law_thing"] (defScope s_is_ratio) := ⟨rfl, rfl, rfl, by decide +kernel, rfl, by decide +kernel, by decide +kernel⟩
abbrev s_is_told : Stmt := topS 33
abbrev N_is_told : List Str := ["_law_labels", "_law_thing"]
theorem sc_is_told : FnScope N_is_told ["_law_labels", "_law_thing"] (defScope s_is_told) := ⟨rfl, rfl, rfl, by decide +kernel, rfl, by decide +kernel, by decide +kernel⟩
abbrev s_odd : Stmt := topS 34
abbrev N_odd : List Str := ["_law_pot_here", "_law_some"]
theorem sc_odd : FnScope N_odd ["_law_pot_here"] (defScope s_odd) := ⟨rfl, rfl, rfl, by decide +kernel, rfl, by decide +kernel, by decide +kernel⟩
abbrev s_spoilt : Stmt := topS 35
abbrev N_spoilt : List Str := ["_law_pot_here", "_law_row", "_law_at", "_law_way", "_law_odd_here"]
theorem sc_spoilt : FnScope N_spoilt ["_law_pot_here", "_law_row"] (defScope s_spoilt) := ⟨rfl, rfl, rfl, by decide +kernel, rfl, by decide +kernel, by decide +kernel⟩
abbrev s_case : Stmt := topS 36
abbrev N_case : List Str := ["_law_pot_here", "_law_wide", "_law_many", "_law_most", "_law_labels", "_law_lines_here", "_law_folk"]
theorem sc_case : FnScope N_case ["_law_pot_here", "_law_wide", "_law_many", "_law_most"] (defScope s_case) := ⟨rfl, rfl, rfl, by decide +kernel, rfl, by decide +kernel, by decide +kernel⟩
abbrev s_lines : Stmt := topS 37
abbrev N_lines : List Str := ["_law_pot_here", "_law_wide", "_law_many", "_law_found", "_law_k", "_law_way", "_law_spots", "_law_row", "_law_each", "_law_a", "_law_b", "_law_entry"]
theorem sc_lines : FnScope N_lines ["_law_pot_here", "_law_wide", "_law_many"] (defScope s_lines) := ⟨rfl, rfl, rfl, by decide +kernel, rfl, by decide +kernel, by decide +kernel⟩
abbrev s_told : Stmt := topS 38
abbrev N_told : List Str := ["_law_pot_here", "_law_labels", "_law_folk", "_law_many", "_law_found", "_law_k", "_law_grade", "_law_moment", "_law_far", "_law_who", "_law_label"]
theorem sc_told : FnScope N_told ["_law_pot_here", "_law_labels", "_law_folk", "_law_many"] (defScope s_told) := ⟨rfl, rfl, rfl, by decide +kernel, rfl, by decide +kernel, by decide +kernel⟩
abbrev s_right : Stmt := topS 39
abbrev N_right : List Str := ["_law_pot_here", "_law_labels", "_law_lines_here", "_law_folk", "_law_told_here", "_law_made", "_law_strange", "_law_row", "_law_thing", "_law_shown", "_law_results", "_law_due"]
theorem sc_right : FnScope N_right ["_law_pot_here"] (defScope s_right) := ⟨rfl, rfl, rfl, by decide +kernel, rfl, by decide +kernel, by decide +kernel⟩
abbrev s_law : Stmt := topS 40
abbrev N_law : List Str := ["_law_script", "_law_k"]
theorem sc_law : FnScope N_law ["_law_script"] (defScope s_law) := ⟨rfl, rfl, rfl, by decide +kernel, rfl, by decide +kernel, by decide +kernel⟩
abbrev s_Sheet_init : Stmt := inClass (topS 20) 1
abbrev N_Sheet_init : List Str := ["self", "fields", "wrong"]
theorem sc_Sheet_init : FnScope N_Sheet_init ["self", "fields"] (defScope s_Sheet_init) := ⟨rfl, rfl, rfl, by decide +kernel, rfl, by decide +kernel, by decide +kernel⟩
abbrev s_Sheet_read : Stmt := inClass (topS 20) 2
abbrev N_Sheet_read : List Str := ["cls", "text", "words"]
theorem sc_Sheet_read : FnScope N_Sheet_read ["cls", "text"] (defScope s_Sheet_read) := ⟨rfl, rfl, rfl, by decide +kernel, rfl, by decide +kernel, by decide +kernel⟩
abbrev s_Sheet_eq : Stmt := inClass (topS 20) 3
abbrev N_Sheet_eq : List Str := ["self", "other"]
theorem sc_Sheet_eq : FnScope N_Sheet_eq ["self", "other"] (defScope s_Sheet_eq) := ⟨rfl, rfl, rfl, by decide +kernel, rfl, by decide +kernel, by decide +kernel⟩
abbrev s_Sheet_len : Stmt := inClass (topS 20) 4
abbrev N_Sheet_len : List Str := ["self"]
theorem sc_Sheet_len : FnScope N_Sheet_len ["self"] (defScope s_Sheet_len) := ⟨rfl, rfl, rfl, by decide +kernel, rfl, by decide +kernel, by decide +kernel⟩
abbrev s_Sheet_str : Stmt := inClass (topS 20) 5
abbrev N_Sheet_str : List Str := ["self"]
theorem sc_Sheet_str : FnScope N_Sheet_str ["self"] (defScope s_Sheet_str) := ⟨rfl, rfl, rfl, by decide +kernel, rfl, by decide +kernel, by decide +kernel⟩
abbrev s_Sheet_repr : Stmt := inClass (topS 20) 6
abbrev N_Sheet_repr : List Str := ["self"]
theorem sc_Sheet_repr : FnScope N_Sheet_repr ["self"] (defScope s_Sheet_repr) := ⟨rfl, rfl, rfl, by decide +kernel, rfl, by decide +kernel, by decide +kernel⟩
abbrev s_Sheet_fields : Stmt := inClass (topS 20) 7
abbrev N_Sheet_fields : List Str := ["self"]
theorem sc_Sheet_fields : FnScope N_Sheet_fields ["self"] (defScope s_Sheet_fields) := ⟨rfl, rfl, rfl, by decide +kernel, rfl, by decide +kernel, by decide +kernel⟩
abbrev s_Sheet_width : Stmt := inClass (topS 20) 8
abbrev N_Sheet_width : List Str := ["self"]
theorem sc_Sheet_width : FnScope N_Sheet_width ["self"] (defScope s_Sheet_width) := ⟨rfl, rfl, rfl, by decide +kernel, rfl, by decide +kernel, by decide +kernel⟩
abbrev s_Sheet_has_field : Stmt := inClass (topS 20) 9
abbrev N_Sheet_has_field : List Str := ["self", "value"]
theorem sc_Sheet_has_field : FnScope N_Sheet_has_field ["self", "value"] (defScope s_Sheet_has_field) := ⟨rfl, rfl, rfl, by decide +kernel, rfl, by decide +kernel, by decide +kernel⟩
abbrev s_Sheet_place : Stmt := inClass (topS 20) 10
abbrev N_Sheet_place : List Str := ["self", "field"]
theorem sc_Sheet_place : FnScope N_Sheet_place ["self", "field"] (defScope s_Sheet_place) := ⟨rfl, rfl, rfl, by decide +kernel, rfl, by decide +kernel, by decide +kernel⟩
abbrev s_Sheet_is_equation : Stmt := inClass (topS 20) 11
abbrev N_Sheet_is_equation : List Str := ["self", "value"]
theorem sc_Sheet_is_equation : FnScope N_Sheet_is_equation ["self", "value"] (defScope s_Sheet_is_equation) := ⟨rfl, rfl, rfl, by decide +kernel, rfl, by decide +kernel, by decide +kernel⟩
abbrev s_Sheet_equation : Stmt := inClass (topS 20) 12
abbrev N_Sheet_equation : List Str := ["self", "coefficients"]
theorem sc_Sheet_equation : FnScope N_Sheet_equation ["self", "coefficients"] (defScope s_Sheet_equation) := ⟨rfl, rfl, rfl, by decide +kernel, rfl, by decide +kernel, by decide +kernel⟩
abbrev s_Sheet_equation_text : Stmt := inClass (topS 20) 13
abbrev N_Sheet_equation_text : List Str := ["self", "equation"]
theorem sc_Sheet_equation_text : FnScope N_Sheet_equation_text ["self", "equation"] (defScope s_Sheet_equation_text) := ⟨rfl, rfl, rfl, by decide +kernel, rfl, by decide +kernel, by decide +kernel⟩
abbrev s_Sheet_parse_equation : Stmt := inClass (topS 20) 14
abbrev N_Sheet_parse_equation : List Str := ["self", "text"]
theorem sc_Sheet_parse_equation : FnScope N_Sheet_parse_equation ["self", "text"] (defScope s_Sheet_parse_equation) := ⟨rfl, rfl, rfl, by decide +kernel, rfl, by decide +kernel, by decide +kernel⟩
abbrev FnP (K : PySem.W.Frag) (x : Str) (st : Stmt) (f : Addr) (fd : FuncData) : Prop := FunD K x x (defArgs st) (defBody st) (defScope st) [] [] f fd
structure Tz (mg : Str → Option Value) : Prop where
  z_isinstance : mg "isinstance" = none
  z_list : mg "list" = none
  z_tuple : mg "tuple" = none
  z_int : mg "int" = none
  z_bool : mg "bool" = none
  z_str : mg "str" = none
  z_len : mg "len" = none
  z_all : mg "all" = none
  z_repr : mg "repr" = none
  z_range : mg "range" = none
  z_enumerate : mg "enumerate" = none
  z_zip : mg "zip" = none
  z_max : mg "max" = none
  z_min : mg "min" = none
  z_abs : mg "abs" = none
  z_divmod : mg "divmod" = none
  z_ValueError : mg "ValueError" = none
  z_super : mg "super" = none
  c_LETTERS : ∃ t, mg "LETTERS" = some (.str abc t)
  c_LONGEST_NAME : ∃ t, mg "LONGEST_NAME" = some (.int 8 t)
  c_HIGHEST_LEVEL : ∃ t, mg "HIGHEST_LEVEL" = some (.int 2 t)
section
variable {P : Program} {w : World} {K : PySem.W.Frag} {mg : Str → Option Value} {base : Heap} {f : Addr} {fd : FuncData}
theorem ok_pot (F : FnP K "_law_pot" s_pot f fd) (T : Tz mg) : FnOk P w K mg base CX0 1 f fd ["_law_script", "_law_k"] (sp_pot K) := by
  refine F.ok sc_pot (fun vs H Q E h => ?_) (fun cdv A outer s H vs Q E hr h => ?_)
  · obtain ⟨a, ns, k, rfl, _⟩ := h
    rfl
  · obtain ⟨a, ns, k, rfl, hS, hk, q⟩ := h
    refine ⟨_, PSs.nox (pss_cons (ps_set (i := 2) sc_pot.nd rfl (Or.inl rfl) (pe_ifExp (pt_cmpR op_lt (pv 1) (pe_callB call_len_seq (by rfl) T.z_len (by decide +kernel) (pa_cons (pv 0) pa_nil)) (nomark _)) (pe_ix ix_list (pv 0) (pv 1) (fun _ _ => rfl)) pe_int))
      (pss_one (ps_ret (pe_lst (pa_cons (pe_callB (call_max2 rfl) (by rfl) T.z_max (by decide +kernel) (pa_cons pe_int (pa_cons (pe_op op_sub (pe_callB call_abs (by rfl) T.z_abs (by decide +kernel) (pa_cons (pv 2) pa_nil)) (pe_op op_pow pe_int pe_int)) pa_nil))) (pa_cons (pe_op op_mod (pe_op op_add (pe_op op_add (pe_op op_mul (pe_op op_mod (pe_callB call_abs (by rfl) T.z_abs (by decide +kernel) (pa_cons (pv 2) pa_nil)) pe_int) pe_int) (pe_op op_mul pe_int (pv 1))) pe_int) pe_int) pa_nil)))))), ?_⟩
    refine ⟨_, rfl, .ref a, rfl, a, _, rfl, .inl hS, _, _, rfl, rfl, _, rfl, ?_⟩
    refine ite2 (fun e => ?_) (fun e => ?_)
    · have e1 : (k : Int) < ((ns.map V.int).length : Nat) := of_decide_eq_true e
      have e2 : k < ns.length := by
        rw [List.length_map] at e1
        omega
      have e3 : (ns.map V.int)[k]? = some (.int ns[k]) := by
        rw [List.getElem?_map, List.getElem?_eq_getElem e2]
        rfl
      refine ⟨.ref a, rfl, .int k, rfl, a, _, _, .int ns[k], rfl, rfl, hS, atI_nat e3, ?_⟩
      refine ⟨.int ns[k], rfl, _, rfl, 10, 18, rfl, rfl, ⟨by decide, by decide, by decide⟩, _, _, rfl, rfl, _, _, rfl, ?_⟩
      refine ⟨.int ns[k], rfl, _, rfl, _, _, rfl, rfl, pos_c (by decide), _, _, rfl, rfl, .inr ⟨by decide, by decide⟩, .int k, rfl, _, _, rfl, rfl, .inl ⟨by decide, by decide⟩, _, _, rfl, rfl, _, _, rfl, rfl, _, _, rfl, rfl, pos_c (by decide), ?_⟩
      exact ⟨by show 2 ≤ sizeLine; decide, fun p np => q p _ _ np (Int.emod_nonneg _ (by decide)) (Int.lt_trans (Int.emod_lt_of_pos _ (by decide)) (by decide))⟩
    · refine ⟨.int 0, rfl, _, rfl, 10, 18, rfl, rfl, ⟨by decide, by decide, by decide⟩, _, _, rfl, rfl, _, _, rfl, ?_⟩
      refine ⟨.int 0, rfl, _, rfl, _, _, rfl, rfl, pos_c (by decide), _, _, rfl, rfl, .inr ⟨by decide, by decide⟩, .int k, rfl, _, _, rfl, rfl, .inl ⟨by decide, by decide⟩, _, _, rfl, rfl, _, _, rfl, rfl, _, _, rfl, rfl, pos_c (by decide), ?_⟩
      exact ⟨by show 2 ≤ sizeLine; decide, fun p np => q p _ _ np (Int.emod_nonneg _ (by decide)) (Int.lt_trans (Int.emod_lt_of_pos _ (by decide)) (by decide))⟩
theorem ok_draw (F : FnP K "_law_draw" s_draw f fd) (T : Tz mg) : FnOk P w K mg base CX0 1 f fd ["_law_pot_here", "_law_many"] sp_draw := by
  refine F.ok sc_draw (fun vs H Q E h => ?_) (fun cdv A outer s H vs Q E hr h => ?_)
  · obtain ⟨a, n, rfl, _⟩ := h
    rfl
  · obtain ⟨a, n, rfl, ⟨x, y, hp, y0, y1⟩, n0, n1, q⟩ := h
    refine ⟨_, PSs.nox (pss_cons (ps_if (pt_cmpR op_gt (pe_ix ix_list (pv 0) pe_int (fun _ _ => rfl)) pe_int (nomark _)) (pss_cons (ps_asg (pe_callB call_divmodW (by rfl) T.z_divmod (by decide +kernel) (pa_cons (pe_ix ix_list (pv 0) pe_int (fun _ _ => rfl)) (pa_cons (pv 1) pa_nil))) (pg_tup rfl (pgs_cons (pg_sub (pv 0) pe_int set_list) (pgs_cons (pg_name (i := 2) sc_draw.nd rfl (Or.inl rfl)) pgs_nil))))
      (pss_one (ps_ret (pv 2)))) pss_nil)
      (pss_cons (ps_asg (pe_op op_mod (pe_op op_add (pe_op op_mul (pe_ix ix_list (pv 0) pe_int (fun _ _ => rfl)) pe_int) pe_int) pe_int) (pg_sub (pv 0) pe_int set_list))
      (pss_one (ps_ret (pe_op op_mod (pe_op op_fdiv (pe_op op_mod (pe_op op_mul (pe_ix ix_list (pv 0) pe_int (fun _ _ => rfl)) (pe_ix ix_list (pv 0) pe_int (fun _ _ => rfl))) pe_int) pe_int) (pv 1)))))), ?_⟩
    refine ⟨.ref a, rfl, a, _, 0, .int x, rfl, rfl, .inl (.inl hp), rfl, _, _, rfl, rfl, _, rfl, ite2 (fun e => ?_) (fun e => ?_)⟩
    · have x0 : 0 < x := of_decide_eq_true e
      refine ⟨.ref a, rfl, a, _, 0, .int x, rfl, rfl, .inl (.inl hp), rfl, .int n, rfl, x, n, rfl, ⟨n0, PyProof.noPylong_of_log2 (Nat.lt_of_lt_of_le (PySem.Flt.log2_lt_of (k := 200) (by decide) (by omega)) (by decide))⟩, fun t nt => ?_⟩
      have ht : (upd H t (.tup [.int (x / n), .int (x % n)])) a = some (.lst [.int x, .int y]) := by
        rw [upd_ne (ne_of_none hp nt)]
        exact hp
      refine ⟨t, _, rfl, .inl (.inl upd_same), rfl, _, _, rfl, .ref a, rfl, a, _, 0, 0, rfl, rfl, ht, rfl, _, _, rfl, rfl, .int (x % n), rfl, ?_⟩
      exact q _ _ (Int.emod_nonneg _ (by omega)) (Int.emod_lt_of_pos _ n0) ⟨x / n, y, upd_same, y0, y1⟩ ((Off.new nt).trans Off.at)
    · refine ⟨.ref a, rfl, a, _, 1, .int y, rfl, rfl, .inl (.inl hp), rfl, _, _, rfl, rfl, .inr ⟨by decide, by decide⟩, _, _, rfl, rfl, _, _, rfl, rfl, pos_c (by decide), ?_⟩
      refine ⟨.ref a, rfl, a, _, 1, 1, rfl, rfl, hp, rfl, ?_⟩
      have z0 : 0 ≤ (y * 39373 + 12227) % 2147483629 := Int.emod_nonneg _ (by decide)
      have z1 : (y * 39373 + 12227) % 2147483629 < 2147483629 := Int.emod_lt_of_pos _ (by decide)
      refine ⟨.ref a, rfl, a, _, 1, _, rfl, rfl, .inl (.inl upd_same), rfl, .ref a, rfl, a, _, 1, _, rfl, rfl, .inl (.inl upd_same), rfl, _, _, rfl, rfl, .inl ⟨?_, ?_⟩, _, _, rfl, rfl, pos_c (by decide), _, _, rfl, rfl, ⟨by decide, by decide⟩, .int n, rfl, _, _, rfl, rfl, n0, ?_⟩
      · exact Int.lt_of_lt_of_le (by decide) z0
      · exact Int.lt_trans z1 (by decide)
      · exact q _ _ (Int.emod_nonneg _ (by omega)) (Int.emod_lt_of_pos _ n0) ⟨x, _, upd_same, z0, Int.lt_trans z1 (by decide)⟩ Off.at
end

end K31



set_option Elab.async false
set_option linter.all false
set_option maxRecDepth 100000
set_option maxHeartbeats 4000000
namespace K31
open PySem PySem.Spec PyProof.Rows L2 Lw

section
variable {P : Program} {w : World} {K : PySem.W.Frag} {mg : Str → Option Value} {base : Heap} {f : Addr} {fd : FuncData}
theorem ok_is_name (F : FnP K "is_name" s_is_name f fd) (T : Tz mg) : FnOk P w K mg base CX0 1 f fd ["value"] (sp_name K) := by
  refine F.ok sc_is_name (fun vs H Q E h => ?_) (fun cdv A outer s H vs Q E hr h => ?_)
  · obtain ⟨v, d, rfl, _⟩ := h
    rfl
  · obtain ⟨v, d, rfl, hd, hs, q⟩ := h
    refine ⟨_, PSs.nox (pss_cons (ps_if (pt_not (pt_val (pe_callB call_isi (by rfl) T.z_isinstance (by decide +kernel) (pa_cons (pv 0) (pa_cons (pe_bltn (v := .ty "str") (by rfl) T.z_str (by decide +kernel) rfl) pa_nil))))) (pss_one (ps_ret pe_bl)) pss_nil)
      (pss_one (ps_ret (pe_and (pe_chain op_le op_le pe_int (pe_callB call_len_str (by rfl) T.z_len (by decide +kernel) (pa_cons (pv 0) pa_nil)) (pe_gi T.c_LONGEST_NAME)) (pe_one (pe_callB (cr_all rfl) (by rfl) T.z_all (by decide +kernel) (pa_cons (pe_lc (own := [("sign", 1)]) (g := gName 1) (tt := tYes) rfl sc_is_name.nd (pi_str (pv 0)) (blkOk_by (own := [("sign", 1)]) (N := N_is_name) (sc := defScope s_is_name) (by decide +kernel)) (fun _ _ _ _ _ => pg_name (i := 1) sc_is_name.nd rfl (Or.inl rfl)) (fun _ _ _ _ _ => pts_nil) (fun _ _ _ _ _ => (pe_cmpR op_in_sign (pv 1) (pe_gs T.c_LETTERS) (by with_unfolding_all rfl)))) pa_nil))))))), ?_⟩
    refine ⟨v, rfl, v, .ty "str", _, _, _, rfl, .ty _, hd.ty, kit_ty (kit_str d), _, rfl, ?_⟩
    cases hd with
    | str z =>
      refine iteF ?_
      have lz := hs z rfl
      refine ⟨.str z, rfl, z, rfl, Nat.le_of_lt (small1000 lz), _, _, rfl, rfl, _, rfl, ite2 (fun e1 => ?_) (fun e1 => ?_)⟩
      · refine ⟨_, _, rfl, rfl, _, rfl, ite2 (fun e2 => ?_) (fun e2 => ?_)⟩
        · refine ⟨.str z, rfl, z, rfl, fun D nD => ?_⟩
          refine lc_it walk_str (fun i H2 => Same H H2 ∧ H2 D = some (.lst (((z.cps.toList.take i).map fun c => decide (c ∈ abc.cps.toList)).map V.bl))) ⟨same_upd nD, upd_same⟩ (fun _ _ _ _ => trivial) ?_ ?_
          · rintro i x H2 H3 hi ⟨s2, e3⟩ ⟨rfl, c, hc, rfl⟩
            refine ⟨rfl, _, rfl, c, abc, rfl, rfl, _, e3, ?_, fun b o e => ?_, ?_⟩
            · rw [List.length_map, List.length_map, List.length_take]
              refine small1000 (Nat.le_trans (Nat.min_le_left _ _) ?_)
              have : z.cps.size = z.length := rfl
              omega
            · rw [upd_ne (ne_of_none e nD)]
              exact s2 _ _ e
            · rw [upd_same, map_take hc, List.map_append]
              rfl
          · rintro H2 ⟨s2, e3⟩
            refine ⟨D, _, rfl, .inl (.inl e3), ?_⟩
            rw [all_id]
            have ez : z.cps.toList.take z.cps.size = z.cps.toList := List.take_of_length_le (Nat.le_of_eq (Array.length_toList))
            rw [ez]
            have en : nameD (.str z) = z.cps.toList.all fun c => decide (c ∈ abc.cps.toList) := by
              show nameB z = _
              unfold nameB
              rw [e1, e2]
              rfl
            rw [← en]
            exact q H2 s2
        · have en : nameD (.str z) = false := by
            show nameB z = _
            unfold nameB
            rw [show decide ((z.length : Int) ≤ 8) = false from Bool.eq_false_iff.mpr e2, Bool.and_false, Bool.false_and]
          rw [en] at q
          exact q H (Same.refl H)
      · have en : nameD (.str z) = false := by
          show nameB z = _
          unfold nameB
          rw [show decide ((1 : Int) ≤ (z.length : Int)) = false from Bool.eq_false_iff.mpr e1, Bool.false_and, Bool.false_and]
        rw [en] at q
        exact ⟨_, rfl, q H (Same.refl H)⟩
    | non => exact q H (Same.refl H)
    | bl b => exact q H (Same.refl H)
    | int i => exact q H (Same.refl H)
    | lst h g => exact q H (Same.refl H)
    | tup h g => exact q H (Same.refl H)
    | dic h => exact q H (Same.refl H)
    | dct h ne g => exact q H (Same.refl H)

end

section
variable {P : Program} {w : World} {K : PySem.W.Frag} {mg : Str → Option Value} {base : Heap} {f : Addr} {fd : FuncData}
theorem ok_is_word (F : FnP K "_law_is_word" s_is_word f fd) (T : Tz mg) : FnOk P w K mg base CX0 1 f fd ["_law_thing"] (sp_name K) := by
  refine F.ok sc_is_word (fun vs H Q E h => ?_) (fun cdv A outer s H vs Q E hr h => ?_)
  · obtain ⟨v, d, rfl, _⟩ := h
    rfl
  · obtain ⟨v, d, rfl, hd, hs, q⟩ := h
    refine ⟨_, PSs.nox (pss_cons (ps_if (PW.pt (pw_or (pt_not (pt_val (pe_callB call_isi (by rfl) T.z_isinstance (by decide +kernel) (pa_cons (pv 0) (pa_cons (pe_bltn (v := .ty "str") (by rfl) T.z_str (by decide +kernel) rfl) pa_nil))))) (pw_or (pt_cmpR op_lt (pe_callB call_len_str (by rfl) T.z_len (by decide +kernel) (pa_cons (pv 0) pa_nil)) pe_int (nomark _)) (pw_or1 (pt_cmpR op_gt (pe_callB call_len_str (by rfl) T.z_len (by decide +kernel) (pa_cons (pv 0) pa_nil)) pe_int (nomark _)))))) (pss_one (ps_ret pe_bl)) pss_nil)
      (pss_one (ps_ret (pe_callB (cr_all rfl) (by rfl) T.z_all (by decide +kernel) (pa_cons (pe_lc (own := [("_law_letter", 1)]) (g := gName 1) (tt := tYes) rfl sc_is_word.nd (pi_str (pv 0)) (blkOk_by (own := [("_law_letter", 1)]) (N := N_is_word) (sc := defScope s_is_word) (by decide +kernel)) (fun _ _ _ _ _ => pg_name (i := 1) sc_is_word.nd rfl (Or.inl rfl)) (fun _ _ _ _ _ => pts_nil) (fun _ _ _ _ _ => (pe_cmpR op_in_sign (pv 1) pe_str (by with_unfolding_all rfl)))) pa_nil))))), ?_⟩
    refine ⟨v, rfl, v, .ty "str", _, _, _, rfl, .ty _, hd.ty, kit_ty (kit_str d), _, rfl, ?_⟩
    cases hd with
    | str z =>
      refine iteF ?_
      have lz := hs z rfl
      refine ⟨.str z, rfl, z, rfl, Nat.le_of_lt (small1000 lz), _, _, rfl, rfl, _, rfl, ite2 (fun e1 => ?_) (fun e1 => ?_)⟩
      · have en : nameD (.str z) = false := by
          show nameB z = _
          unfold nameB
          have h1 : ((z.length : Int) < 1) := of_decide_eq_true e1
          rw [show decide ((1 : Int) ≤ (z.length : Int)) = false from decide_eq_false (by omega), Bool.false_and, Bool.false_and]
        rw [en] at q
        exact q H (Same.refl H)
      · have h1 : ¬ ((z.length : Int) < 1) := fun h => e1 (decide_eq_true h)
        have e1' : decide ((1 : Int) ≤ (z.length : Int)) = true := decide_eq_true (by omega)
        refine ⟨.str z, rfl, z, rfl, Nat.le_of_lt (small1000 lz), _, _, rfl, rfl, _, rfl, ite2 (fun e2 => ?_) (fun e2 => ?_)⟩
        · have h2 : (8 : Int) < z.length := of_decide_eq_true e2
          have en : nameD (.str z) = false := by
            show nameB z = _
            unfold nameB
            rw [show decide ((z.length : Int) ≤ 8) = false from decide_eq_false (by omega), Bool.and_false, Bool.false_and]
          rw [en] at q
          exact q H (Same.refl H)
        · have h2 : ¬ ((8 : Int) < z.length) := fun h => e2 (decide_eq_true h)
          have e2' : decide ((z.length : Int) ≤ 8) = true := decide_eq_true (by omega)
          refine ⟨.str z, rfl, z, rfl, fun D nD => ?_⟩
          refine lc_it walk_str (fun i H2 => Same H H2 ∧ H2 D = some (.lst (((z.cps.toList.take i).map fun c => decide (c ∈ abc.cps.toList)).map V.bl))) ⟨same_upd nD, upd_same⟩ (fun _ _ _ _ => trivial) ?_ ?_
          · rintro i x H2 H3 hi ⟨s2, e3⟩ ⟨rfl, c, hc, rfl⟩
            refine ⟨rfl, _, rfl, c, abc, rfl, rfl, _, e3, ?_, fun b o e => ?_, ?_⟩
            · rw [List.length_map, List.length_map, List.length_take]
              refine small1000 (Nat.le_trans (Nat.min_le_left _ _) ?_)
              have : z.cps.size = z.length := rfl
              omega
            · rw [upd_ne (ne_of_none e nD)]
              exact s2 _ _ e
            · rw [upd_same, map_take hc, List.map_append]
              rfl
          · rintro H2 ⟨s2, e3⟩
            refine ⟨D, _, rfl, .inl (.inl e3), ?_⟩
            rw [all_id]
            have ez : z.cps.toList.take z.cps.size = z.cps.toList := List.take_of_length_le (Nat.le_of_eq (Array.length_toList))
            rw [ez]
            have en : nameD (.str z) = z.cps.toList.all fun c => decide (c ∈ abc.cps.toList) := by
              show nameB z = _
              unfold nameB
              rw [e1', e2']
              rfl
            rw [← en]
            exact q H2 s2
    | non => exact q H (Same.refl H)
    | bl b => exact q H (Same.refl H)
    | int i => exact q H (Same.refl H)
    | lst h g => exact q H (Same.refl H)
    | tup h g => exact q H (Same.refl H)
    | dic h => exact q H (Same.refl H)
    | dct h ne g => exact q H (Same.refl H)

end

end K31



set_option Elab.async false
set_option linter.all false
set_option maxRecDepth 100000
set_option maxHeartbeats 4000000
namespace K31
open PySem PySem.Spec PyProof.Rows L2 Lw

section
variable {P : Program} {w : World} {K : PySem.W.Frag} {mg : Str → Option Value} {base : Heap} {f : Addr} {fd : FuncData} {fG : Addr} {fdG : FuncData}

/-! ### common_divisor -/
def sp_gcd : Sp := fun vs H Q _ => ∃ a b : Int, vs = [.int a, .int b] ∧ Q (.int (Int.gcd a b : Int)) H
theorem ok_common_divisor (F : FnP K "common_divisor" s_common_divisor f fd) (T : Tz mg) : FnOk P w K mg base CX0 1 f fd ["first", "second"] sp_gcd := by
  refine F.ok sc_common_divisor (fun vs H Q E h => ?_) (fun cdv A outer s H vs Q E hr h => ?_)
  · obtain ⟨a, b, rfl, _⟩ := h
    rfl
  · obtain ⟨a, b, rfl, q⟩ := h
    refine ⟨_, PSs.nox (pss_cons (ps_while PassesOwn.never (pt_cmpR op_ne (pv 1) pe_int (nomark _)) (pss_one (ps_par (i := 0) (j := 1) (by rfl) sc_common_divisor.nd rfl rfl (by decide) rfl rfl (pa_cons (pv 1) (pa_cons (pe_op op_modN (pv 0) (pv 1)) pa_nil)) (by rfl))))
      (pss_one (ps_ret (pe_callB call_abs (by rfl) T.z_abs (by decide +kernel) (pa_cons (pv 0) pa_nil))))), ?_⟩
    refine ⟨fun m σ H1 => ∃ x y : Int, σ = [some (.int x), some (.int y)] ∧ H1 = H ∧ Int.gcd x y = Int.gcd a b ∧ m = y.natAbs, ⟨_, a, b, rfl, rfl, rfl, rfl⟩, ?_⟩
    rintro m σ H1 ⟨x, y, rfl, rfl, e, rfl⟩
    refine ⟨.int y, rfl, rfl, _, rfl, ?_⟩
    by_cases hy : y = 0
    · subst hy
      refine iteF ⟨.int x, rfl, x, rfl, ?_⟩
      rw [abs_if]
      rw [Int.gcd_zero_right] at e
      rw [e]
      exact q
    · have hne : (!decide (V.int y = V.int 0)) = true := by
        rw [decide_eq_false (fun z => hy (V.int.inj z))]
        rfl
      rw [hne]
      refine ⟨fun σ' H' => ∃ u v : Int, σ' = [some (.int u), some (.int v)] ∧ H' = H1 ∧ Int.gcd u v = Int.gcd a b ∧ v.natAbs < y.natAbs, fun σ' H' hn => ?_, ?_⟩
      · obtain ⟨u, v, e1, e2, e3, e4⟩ := hn
        exact ⟨_, e4, u, v, e1, e2, e3, rfl⟩
      · refine ⟨.int y, rfl, .int x, rfl, .int y, rfl, _, _, rfl, rfl, hy, _, _, rfl, y, x.fmod y, rfl, rfl, ?_, fmod_fall x y hy⟩
        rw [gcd_step, e]
theorem ok_common (F : FnP K "_law_common" s_common f fd) (T : Tz mg) : FnOk P w K mg base CX0 1 f fd ["_law_a", "_law_b"] sp_gcd := by
  refine F.ok sc_common (fun vs H Q E h => ?_) (fun cdv A outer s H vs Q E hr h => ?_)
  · obtain ⟨a, b, rfl, _⟩ := h
    rfl
  · obtain ⟨a, b, rfl, q⟩ := h
    refine ⟨_, PSs.nox (pss_cons (ps_while PassesOwn.never (pt_cmpR op_ne (pv 1) pe_int (nomark _)) (pss_one (ps_par (i := 0) (j := 1) (by rfl) sc_common.nd rfl rfl (by decide) rfl rfl (pa_cons (pv 1) (pa_cons (pe_op op_modN (pv 0) (pv 1)) pa_nil)) (by rfl))))
      (pss_one (ps_ret (pe_callB call_abs (by rfl) T.z_abs (by decide +kernel) (pa_cons (pv 0) pa_nil))))), ?_⟩
    refine ⟨fun m σ H1 => ∃ x y : Int, σ = [some (.int x), some (.int y)] ∧ H1 = H ∧ Int.gcd x y = Int.gcd a b ∧ m = y.natAbs, ⟨_, a, b, rfl, rfl, rfl, rfl⟩, ?_⟩
    rintro m σ H1 ⟨x, y, rfl, rfl, e, rfl⟩
    refine ⟨.int y, rfl, rfl, _, rfl, ?_⟩
    by_cases hy : y = 0
    · subst hy
      refine iteF ⟨.int x, rfl, x, rfl, ?_⟩
      rw [abs_if]
      rw [Int.gcd_zero_right] at e
      rw [e]
      exact q
    · have hne : (!decide (V.int y = V.int 0)) = true := by
        rw [decide_eq_false (fun z => hy (V.int.inj z))]
        rfl
      rw [hne]
      refine ⟨fun σ' H' => ∃ u v : Int, σ' = [some (.int u), some (.int v)] ∧ H' = H1 ∧ Int.gcd u v = Int.gcd a b ∧ v.natAbs < y.natAbs, fun σ' H' hn => ?_, ?_⟩
      · obtain ⟨u, v, e1, e2, e3, e4⟩ := hn
        exact ⟨_, e4, u, v, e1, e2, e3, rfl⟩
      · refine ⟨.int y, rfl, .int x, rfl, .int y, rfl, _, _, rfl, rfl, hy, _, _, rfl, y, x.fmod y, rfl, rfl, ?_, fmod_fall x y hy⟩
        rw [gcd_step, e]

/-! ### lowest -/
def sp_lowest (K : PySem.W.Frag) : Sp := fun vs H Q _ => ∃ n d : Int, vs = [.int n, .int d] ∧ d ≠ 0 ∧ d.natAbs < 2 ^ 1000 ∧ ∀ v H', Same H H' → Fresh K H H' v (lowD n d) → Q v H'
theorem ok_ratio (F : FnP K "_law_ratio" s_ratio f fd) (T : Tz mg) (O_common : Own P w K mg base CX0 1 "_law_common" ["_law_a", "_law_b"] sp_gcd fG fdG) : FnOk P w K mg base CX0 2 f fd ["_law_top", "_law_low"] (sp_lowest K) := by
  refine F.ok sc_ratio (fun vs H Q E h => ?_) (fun cdv A outer s H vs Q E hr h => ?_)
  · obtain ⟨n, d, rfl, _⟩ := h
    rfl
  · obtain ⟨n, d, rfl, hd, hb, q⟩ := h
    refine ⟨_, PSs.nox (pss_cons (ps_if (pt_cmpR op_lt (pv 1) pe_int (nomark _)) (pss_one (ps_par (i := 0) (j := 1) (by rfl) sc_ratio.nd rfl rfl (by decide) rfl rfl (pa_cons (pe_un un_neg (pv 0)) (pa_cons (pe_un un_neg (pv 1)) pa_nil)) (by rfl))) pss_nil)
      (pss_cons (ps_set (i := 2) sc_ratio.nd rfl (Or.inl rfl) (pe_own O_common (hr.mono (by first | decide | omega)) (pa_cons (pv 0) (pa_cons (pv 1) pa_nil))))
      (pss_one (ps_ret (pe_ifExp (pt_cmpR op_eq (pv 1) (pv 2) (nomark _)) (pe_op op_fdivG (pv 0) (pv 2)) (pe_tup (pa_cons (pe_op op_fdivG (pv 0) (pv 2)) (pa_cons (pe_op op_fdivG (pv 1) (pv 2)) pa_nil)))))))), ?_⟩
    have hl0 : ratL d ≠ 0 := by
      unfold ratL
      split <;> omega
    have hlb : (ratL d).natAbs < 2 ^ 1000 := by
      unfold ratL
      split <;> omega
    have gp := gcd_pos (n := ratN n d) hl0
    have gl := gcd_le (n := ratN n d) hl0
    have g0 : (Int.gcd (ratN n d) (ratL d) : Int) ≠ 0 := by omega
    have gb : (Int.gcd (ratN n d) (ratL d) : Int).natAbs < 2 ^ 1000 := by omega
    have tail : ∀ x y : Int, x = ratN n d → y = ratL d → (tSeq (tAsg (tCall sp_gcd [] E0 (tCons (tVar 0) (tCons (tVar 1) tNil))) (gName 2)) (tRet (tIf (tTest (tOp rEq (tVar 1) (tVar 2))) (tOp (rI CDivG fun i j => .int (i.fdiv j)) (tVar 0) (tVar 2)) (tTup (tCons (tOp (rI CDivG fun i j => .int (i.fdiv j)) (tVar 0) (tVar 2)) (tCons (tOp (rI CDivG fun i j => .int (i.fdiv j)) (tVar 1) (tVar 2)) tNil)))))) { nx := fun _ H' => Q .non H', rt := Q } [some (.int x), some (.int y), none] H := by
      rintro x y rfl rfl
      refine ⟨_, rfl, _, rfl, ratN n d, ratL d, rfl, _, rfl, _, rfl, rfl, _, rfl, ?_⟩
      rw [← ratD_eq hd] at q
      by_cases h1 : ratL d = (Int.gcd (ratN n d) (ratL d) : Int)
      · rw [decide_eq_true (congrArg V.int h1)]
        refine iteT ⟨_, rfl, _, rfl, _, _, rfl, rfl, ⟨g0, gb⟩, q _ H (Same.refl H) ?_⟩
        unfold ratD
        rw [if_pos h1]
        exact Dq.int _
      · rw [decide_eq_false (fun z => h1 (V.int.inj z))]
        refine iteF ⟨_, rfl, _, rfl, _, _, rfl, rfl, ⟨g0, gb⟩, _, rfl, _, rfl, _, _, rfl, rfl, ⟨g0, gb⟩, by show 2 ≤ sizeLine; decide, fun t nt => q _ _ (same_upd nt) ?_⟩
        unfold ratD
        rw [if_neg h1]
        exact Dq.tup (.inl (.inl ((nw_at nt).trans upd_same))) (.cons (.int _) (.cons (.int _) .nil))
    refine ⟨.int d, rfl, _, _, rfl, rfl, _, rfl, ite2 (fun e => ?_) (fun e => ?_)⟩
    · have e1 : d < 0 := of_decide_eq_true e
      refine ⟨_, rfl, _, rfl, _, rfl, _, rfl, _, _, rfl, ?_⟩
      refine tail _ _ ?_ ?_
      · unfold ratN
        rw [if_pos e1]
      · unfold ratL
        rw [if_pos e1]
    · have e1 : ¬ d < 0 := fun z => e (decide_eq_true z)
      refine tail _ _ ?_ ?_
      · unfold ratN
        rw [if_neg e1]
      · unfold ratL
        rw [if_neg e1]
end

section
variable {P : Program} {w : World} {K : PySem.W.Frag} {mg : Str → Option Value} {base : Heap} {f : Addr} {fd : FuncData} {fD fG fI : Addr} {fdD fdG fdI : FuncData}
/-! ### is_integer, is_whole -/
def sp_int (K : PySem.W.Frag) : Sp := fun vs H Q _ => ∃ (v : V) (d : PyData), vs = [v] ∧ Dq K H v d ∧ Q (.bl (Lw.intD d)) H
theorem ok_is_integer (F : FnP K "is_integer" s_is_integer f fd) (T : Tz mg) : FnOk P w K mg base CX0 1 f fd ["value"] (sp_int K) := by
  refine F.ok sc_is_integer (fun vs H Q E h => ?_) (fun cdv A outer s H vs Q E hr h => ?_)
  · obtain ⟨v, d, rfl, _⟩ := h
    rfl
  · obtain ⟨v, d, rfl, hd, q⟩ := h
    refine ⟨_, PSs.nox (pss_one (ps_ret (pe_and (pe_callB call_isi (by rfl) T.z_isinstance (by decide +kernel) (pa_cons (pv 0) (pa_cons (pe_bltn (v := .ty "int") (by rfl) T.z_int (by decide +kernel) rfl) pa_nil))) (pe_one (pe_not (pe_callB call_isi (by rfl) T.z_isinstance (by decide +kernel) (pa_cons (pv 0) (pa_cons (pe_bltn (v := .ty "bool") (by rfl) T.z_bool (by decide +kernel) rfl) pa_nil)))))))), ?_⟩
    refine ⟨v, rfl, v, .ty "int", _, _, _, rfl, .ty _, hd.ty, kit_ty (kit_int d), _, rfl, ite2 (fun e => ?_) (fun e => ?_)⟩
    · refine ⟨v, rfl, v, .ty "bool", _, _, _, rfl, .ty _, hd.ty, kit_ty (kit_bool d), _, rfl, ?_⟩
      unfold Lw.intD at q
      rw [e, Bool.true_and] at q
      exact q
    · unfold Lw.intD at q
      rw [Bool.eq_false_iff.mpr e, Bool.false_and] at q
      exact q
/-! ### is_number -/
def ratioB : List PyData → Bool
  | [.int n, .int e] => decide (2 ≤ e) && decide (Int.gcd n e = 1)
  | _ => false
def numD : PyData → Bool
  | .tuple ds => ratioB ds
  | d => Lw.intD d
theorem ratio_len {ds : List PyData} (h : ds.length ≠ 2) : ratioB ds = false := by
  match ds with
  | [] => rfl
  | [a] => cases a <;> rfl
  | [a, b] => exact absurd rfl h
  | a :: b :: c :: r => cases a <;> cases b <;> rfl
theorem ratio_all {ds : List PyData} (h : ds.all Lw.intD = false) : ratioB ds = false := by
  match ds with
  | [] => rfl
  | [a] => cases a <;> rfl
  | [a, b] =>
    cases a <;> cases b <;> first | rfl | (exact Bool.noConfusion (show true = false from h))
  | a :: b :: c :: r => cases a <;> cases b <;> rfl
theorem two_ints {K : PySem.W.Frag} {H : Hp} {vs : List V} {ds : List PyData} (g : DqAll K H vs ds) (hl : ds.length = 2) (ha : ds.all Lw.intD = true) : ∃ n e : Int, ds = [.int n, .int e] ∧ vs = [.int n, .int e] := by
  match ds, hl with
  | [a, b], _ =>
    simp only [List.all_cons, List.all_nil, Bool.and_true, Bool.and_eq_true] at ha
    obtain ⟨n, rfl⟩ := intD_int ha.1
    obtain ⟨e, rfl⟩ := intD_int ha.2
    cases g with
    | cons h1 g =>
      cases g with
      | cons h2 g =>
        cases g
        cases h1
        cases h2
        exact ⟨n, e, rfl, rfl⟩
theorem take_map {ds : List PyData} {i : Nat} {d : PyData} {g : PyData → Bool} (h : ds[i]? = some d) : ((ds.take (i + 1)).map g) = ((ds.take i).map g) ++ [g d] := by
  rw [List.take_add_one, h, List.map_append]
  rfl
def Lean_ (d : PyData) : Prop := ∀ ds, d = .tuple ds → ds.length ≤ 900
def sp_num (K : PySem.W.Frag) : Sp := fun vs H Q _ => ∃ (v : V) (d : PyData), vs = [v] ∧ Dq K H v d ∧ Lean_ d ∧ ∀ H', Same H H' → Q (.bl (numD d)) H'
theorem ok_is_number (F : FnP K "is_number" s_is_number f fd) (T : Tz mg) (O_is_integer : Own P w K mg base CX0 1 "is_integer" ["value"] (sp_int K) fI fdI) (O_common_divisor : Own P w K mg base CX0 1 "common_divisor" ["first", "second"] sp_gcd fG fdG) :
    FnOk P w K mg base CX0 2 f fd ["value"] (sp_num K) := by
  refine F.ok sc_is_number (fun vs H Q E h => ?_) (fun cdv A outer s H vs Q E hr h => ?_)
  · obtain ⟨v, d, rfl, _⟩ := h
    rfl
  · obtain ⟨v, d, rfl, hd, hn, q⟩ := h
    refine ⟨_, PSs.nox (pss_cons (ps_if (pt_not (pt_val (pe_callB call_isi (by rfl) T.z_isinstance (by decide +kernel) (pa_cons (pv 0) (pa_cons (pe_bltn (v := .ty "tuple") (by rfl) T.z_tuple (by decide +kernel) rfl) pa_nil))))) (pss_one (ps_ret (pe_own O_is_integer (hr.mono (by first | decide | omega)) (pa_cons (pv 0) pa_nil)))) pss_nil)
      (pss_cons (ps_if (PW.pt (pw_or (pt_cmpR op_ne (pe_callB call_len_seq (by rfl) T.z_len (by decide +kernel) (pa_cons (pv 0) pa_nil)) pe_int (nomark _)) (pw_or1 (pt_not (pt_val (pe_callB (cr_all rfl) (by rfl) T.z_all (by decide +kernel) (pa_cons (pe_lc (own := [("part", 3)]) (g := gName 3) (tt := tYes) rfl sc_is_number.nd (pi_tup (pv 0)) (blkOk_by (own := [("part", 3)]) (N := N_is_number) (sc := defScope s_is_number) (by decide +kernel)) (fun _ _ _ _ _ => pg_name (i := 3) sc_is_number.nd rfl (Or.inl rfl)) (fun _ _ _ _ _ => pts_nil) (fun _ _ _ _ _ => (pe_own O_is_integer (hr.mono (by first | decide | omega)) (pa_cons (pv 3) pa_nil)))) pa_nil))))))) (pss_one (ps_ret pe_bl)) pss_nil)
      (pss_cons (ps_asg (pv 0) (pg_tup rfl (pgs_cons (pg_name (i := 1) sc_is_number.nd rfl (Or.inl rfl)) (pgs_cons (pg_name (i := 2) sc_is_number.nd rfl (Or.inl rfl)) pgs_nil))))
      (pss_one (ps_ret (pe_and (pe_cmpR op_ge (pv 2) pe_int (nomark _)) (pe_one (pe_cmpR op_eq (pe_own O_common_divisor (hr.mono (by first | decide | omega)) (pa_cons (pv 1) (pa_cons (pv 2) pa_nil))) pe_int (nomark _))))))))), ?_⟩
    refine ⟨v, rfl, v, .ty "tuple", _, _, _, rfl, .ty _, hd.ty, kit_ty (kit_tuple d), _, rfl, ?_⟩
    cases hd with
    | @tup a xs ds h g =>
      refine iteF ?_
      have le := dq_len g
      have l9 := hn ds rfl
      refine ⟨.ref a, rfl, a, xs, rfl, .inr h, rfl, _, rfl, ite2 (fun e => ?_) (fun e => ?_)⟩
      · have e2 : ds.length ≠ 2 := fun z => by
          rw [le, z] at e
          exact absurd e (by decide)
        have en : numD (.tuple ds) = false := ratio_len e2
        rw [en] at q
        exact q H (Same.refl H)
      · have e2 : ds.length = 2 := by
          rw [le] at e
          refine Classical.byContradiction fun z => e ?_
          rw [decide_eq_false (fun y => z (by have := V.int.inj y; omega))]
          rfl
        refine ⟨.ref a, rfl, a, rfl, ⟨_, h⟩, fun D nD => ?_⟩
        refine lc_tup (K := K) (a := a) (xs := xs) (fun i H2 => Same H H2 ∧ H2 D = some (.lst (((ds.take i).map Lw.intD).map V.bl))) ⟨same_upd nD, upd_same⟩ (fun i H2 _ hp => same_t hp.1 h) ?_ ?_
        · rintro i x H2 hx ⟨s2, e3⟩
          obtain ⟨dx, hdx, dqx⟩ := dq_get g hx
          refine ⟨rfl, x, rfl, x, dx, rfl, dqx.same s2, _, e3, ?_, fun b o eb => ?_, ?_⟩
          · rw [List.length_map, List.length_map, List.length_take]
            exact small1000 (by omega)
          · rw [upd_ne (ne_of_none eb nD)]
            exact s2 _ _ eb
          · rw [upd_same, take_map hdx, List.map_append]
            rfl
        · rintro H2 ⟨s2, e3⟩
          refine ⟨D, _, rfl, .inl (.inl e3), _, rfl, ?_⟩
          rw [List.all_map, List.take_of_length_le (Nat.le_of_eq le.symm)]
          have ei : (ds.all (id ∘ Lw.intD)) = ds.all Lw.intD := rfl
          rw [ei]
          by_cases ha : ds.all Lw.intD = true
          · rw [ha]
            refine iteF ?_
            obtain ⟨n, m, rfl, rfl⟩ := two_ints g e2 ha
            refine ⟨.ref a, rfl, a, _, rfl, same_t s2 h, rfl, _, _, rfl, _, _, rfl, rfl, ?_⟩
            refine ⟨.int m, rfl, _, _, rfl, rfl, _, rfl, ite2 (fun e4 => ?_) (fun e4 => ?_)⟩
            · refine ⟨.int n, rfl, .int m, rfl, n, m, rfl, rfl, ?_⟩
              have en : numD (.tuple [.int n, .int m]) = decide (V.int (Int.gcd n m : Int) = V.int 1) := by
                show (decide (2 ≤ m) && decide (Int.gcd n m = 1)) = _
                rw [e4, Bool.true_and]
                by_cases h1 : Int.gcd n m = 1
                · rw [decide_eq_true h1, decide_eq_true (by rw [h1]; rfl)]
                · rw [decide_eq_false h1, decide_eq_false (fun z => h1 (by have := V.int.inj z; omega))]
              rw [← en]
              exact q H2 s2
            · have en : numD (.tuple [.int n, .int m]) = false := by
                show (decide (2 ≤ m) && decide (Int.gcd n m = 1)) = _
                rw [Bool.eq_false_iff.mpr e4, Bool.false_and]
              rw [en] at q
              exact q H2 s2
          · rw [Bool.eq_false_iff.mpr ha]
            have en : numD (.tuple ds) = false := ratio_all (Bool.eq_false_iff.mpr ha)
            rw [en] at q
            exact iteT (q H2 s2)
    | non => exact ⟨_, rfl, _, _, rfl, .non, q H (Same.refl H)⟩
    | bl b => exact ⟨_, rfl, _, _, rfl, .bl b, q H (Same.refl H)⟩
    | int i => exact ⟨_, rfl, _, _, rfl, .int i, q H (Same.refl H)⟩
    | str z => exact ⟨_, rfl, _, _, rfl, .str z, q H (Same.refl H)⟩
    | lst h g => exact ⟨_, rfl, _, _, rfl, .lst h g, q H (Same.refl H)⟩
    | dic h => exact ⟨_, rfl, _, _, rfl, .dic h, q H (Same.refl H)⟩
    | dct h ne g => exact ⟨_, rfl, _, _, rfl, .dct h ne g, q H (Same.refl H)⟩
end

end K31



set_option Elab.async false
set_option linter.all false
set_option maxRecDepth 100000
set_option maxHeartbeats 4000000
namespace K31
open PySem PySem.Spec PyProof.Rows L2 Lw

section
variable {P : Program} {w : World} {K : PySem.W.Frag} {mg : Str → Option Value} {base : Heap} {f : Addr} {fd : FuncData} {fN : Addr} {fdN : FuncData}
theorem ok_first_wrong_name (F : FnP K "first_wrong_name" s_first_wrong_name f fd) (T : Tz mg) (O_is_name : Own P w K mg base CX0 1 "is_name" ["value"] (sp_name K) fN fdN) : FnOk P w K mg base CX0 2 f fd ["values","most"] (sp_fwn K) := by
  refine F.ok sc_first_wrong_name (fun vs H Q E h => ?_) (fun cdv A outer s H vs Q E hr h => ?_)
  · obtain ⟨v, d, rfl, _⟩ := h
    rfl
  · obtain ⟨v, d, rfl, hd, hs, q⟩ := h
    refine ⟨_, PSs.nox (pss_cons (ps_if (PW.pt (pw_or (pt_not (pt_val (pe_callB call_isiT (by rfl) T.z_isinstance (by decide +kernel) (pa_cons (pv 0) (pa_cons (pe_tup (pa_cons (pe_bltn (v := .ty "list") (by rfl) T.z_list (by decide +kernel) rfl) (pa_cons (pe_bltn (v := .ty "tuple") (by rfl) T.z_tuple (by decide +kernel) rfl) pa_nil))) pa_nil))))) (pw_or1 (pt_not (pt_chain op_le op_le pe_int (pe_callB call_len_seq (by rfl) T.z_len (by decide +kernel) (pa_cons (pv 0) pa_nil)) (pv 1)))))) (pss_one (ps_ret (pe_un un_neg pe_int))) pss_nil)
      (pss_cons (ps_for PassesOwn.never rfl (pi_enumB (by rfl) T.z_enumerate (pa_cons (pv 0) pa_nil)) (pg_tup rfl (pgs_cons (pg_name (i := 2) sc_first_wrong_name.nd rfl (Or.inl rfl)) (pgs_cons (pg_name (i := 3) sc_first_wrong_name.nd rfl (Or.inl rfl)) pgs_nil))) (pss_one (ps_if (PW.pt (pw_or (pt_not (pt_val (pe_own O_is_name (hr.mono (by first | decide | omega)) (pa_cons (pv 3) pa_nil)))) (pw_or1 (pt_cmpR op_in_seq (pv 3) (pe_slice sl_both (pv 0) po_none (po_some (pv 2))) (by with_unfolding_all rfl))))) (pss_one (ps_ret (pv 2))) pss_nil)))
      (pss_one (ps_ret pe_non)))), ?_⟩
    refine ⟨v, rfl, by show 2 ≤ sizeLine; decide, fun tp ntp => ⟨v, tp, [.ty "list", .ty "tuple"], _, [.type "list", .type "tuple"], isL d || isT d, rfl, upd_same, .cons (.ty _) (.cons (.ty _) .nil), (hd.same (same_upd ntp)).ty, ?_, _, rfl, ?_⟩⟩
    · exact kit_any2 (kit_ty (kit_list d)) (kit_ty (kit_tuple d))
    have s0 : Same H (upd H tp (.tup [.ty "list", .ty "tuple"])) := same_upd ntp
    revert s0
    generalize upd H tp (.tup [.ty "list", .ty "tuple"]) = H0
    intro s0
    by_cases hk : (isL d || isT d) = true
    case neg =>
      rw [Bool.eq_false_iff.mpr hk]
      have e : fwV d = .int (-1) := by
        cases d <;> first | rfl | exact absurd rfl hk
      rw [e] at q
      exact iteT (iteT ⟨1, rfl, q H0 s0⟩)
    rw [hk]
    refine iteF ?_
    have key : ∃ (b : Bool) (a : Addr) (xs : List V) (ds : List PyData), v = .ref a ∧ SqB K b H a xs ∧ DqAll K H xs ds ∧ fwD d = fwL ds ∧ ds.length ≤ 900 ∧ ∀ x ∈ ds, Short x := by
      cases hd with
      | lst h g => exact ⟨false, _, _, _, rfl, h, g, rfl, hs _ (.inl rfl)⟩
      | tup h g => exact ⟨true, _, _, _, rfl, h, g, rfl, hs _ (.inr rfl)⟩
      | _ => cases hk
    obtain ⟨b, a, xs, ds, rfl, hx, g, ef, l9, sh⟩ := key
    have le := dq_len g
    have qn : fwL ds = none → ∀ H', Same H H' → Q .non H' := fun e H' s' => by
      have := q H' s'
      unfold fwV at this
      rw [ef, e] at this
      exact this
    have qs : ∀ i, fwL ds = some i → ∀ H', Same H H' → Q (.int i) H' := fun i e H' s' => by
      have := q H' s'
      unfold fwV at this
      rw [ef, e] at this
      exact this
    refine ⟨.ref a, rfl, a, xs, rfl, (hx.same s0).any, _, _, rfl, rfl, _, rfl, ?_⟩
    by_cases l1 : 1 ≤ ds.length
    case neg =>
      have e1 : decide ((1 : Int) ≤ (xs.length : Nat)) = false := decide_eq_false (by rw [le]; omega)
      rw [e1]
      refine ⟨_, rfl, iteT ⟨1, rfl, qs (-1) ?_ H0 s0⟩⟩
      unfold fwL
      rw [if_neg (by omega)]
    have e1 : decide ((1 : Int) ≤ (xs.length : Nat)) = true := decide_eq_true (by rw [le]; omega)
    rw [e1]
    refine ⟨.int 12, rfl, _, _, rfl, rfl, _, rfl, ?_⟩
    by_cases l2 : ds.length ≤ 12
    case neg =>
      have e2 : decide (((xs.length : Nat) : Int) ≤ 12) = false := decide_eq_false (by rw [le]; omega)
      rw [e2]
      refine iteT ⟨1, rfl, qs (-1) ?_ H0 s0⟩
      unfold fwL
      rw [if_neg (by omega)]
    have e2 : decide (((xs.length : Nat) : Int) ≤ 12) = true := decide_eq_true (by rw [le]; omega)
    rw [e2]
    refine iteF ?_
    have ew : fwL ds = (fwGo [] ds 0).map Int.ofNat := by
      unfold fwL
      rw [if_pos ⟨l1, l2⟩]
    refine ⟨.ref a, rfl, b, a, xs, rfl, hx.same s0, ?_⟩
    refine for_it walk_enumB (fun i σ H1 => Same H H1 ∧ (∃ y z, σ = [some (.ref a),some (.int 12),y,z]) ∧ ∃ seen : List Str, ds.take i = seen.map PyData.str ∧ fwGo [] ds 0 = fwGo seen (ds.drop i) i) ⟨s0, ⟨_, _, rfl⟩, [], rfl, rfl⟩ (fun i σ H1 _ hp => hx.same hp.1) ?_ ?_
    · rintro i x σ H1 H2 hi ⟨s1, ⟨y, z, rfl⟩, seen, t1, w1⟩ ⟨tq, u1, u2, rfl, ntq, rfl, hu1, hu2⟩
      cases hu1
      obtain ⟨dx, hdx, dqx⟩ := dq_get g hu2
      have s2 : Same H (upd H1 tq (.tup [.int (i : Nat), u2])) := s1.trans (same_upd ntq)
      refine ⟨tq, _, rfl, .inl (.inl upd_same), rfl, _, _, rfl, _, _, rfl, rfl, u2, rfl, u2, dx, rfl, dqx.same s2, sh dx (List.mem_of_getElem? hdx), fun H3 s3 => ⟨_, rfl, ?_⟩⟩
      have hlt : i < ds.length := (List.getElem?_eq_some_iff.mp hdx).1
      have dr : ds.drop i = dx :: ds.drop (i + 1) := by
        rw [List.drop_eq_getElem_cons hlt]
        congr 1
        have := (List.getElem?_eq_some_iff.mp hdx).2
        exact this
      rw [dr] at w1
      cases en : nameD dx with
      | false =>
        rw [fwGo_bad en] at w1
        refine iteT ⟨_, rfl, qs (i : Nat) ?_ H3 (s2.trans s3)⟩
        rw [ew, w1]
        rfl
      | true =>
        cases dx with
        | str zz =>
          cases dqx
          have hb := (hx.same (s2.trans s3))
          have xt : xs.take i = seen.map V.str := by
            have g1 := dq_take (n := i) g
            rw [t1] at g1
            exact dq_strs g1
          have slice : ∀ (R : V → Hp → Prop), (∀ p, H3 p = none → ∀ o, (o = HO.lst (seen.map V.str) ∨ o = HO.tup (seen.map V.str)) → R (.ref p) (upd H3 p o)) → rSlB K (.ref a) none (some (i : Nat)) H3 R := by
            intro R hR
            cases b with
            | false =>
              refine .inl ⟨a, xs, rfl, hb, fun p np => ?_⟩
              rw [cut_take, xt]
              exact hR p np _ (.inl rfl)
            | true =>
              refine .inr ⟨a, xs, rfl, hb, cut_part (by omega), fun p np => ?_⟩
              rw [cut_take, xt]
              exact hR p np _ (.inr rfl)
          refine iteF ⟨_, rfl, _, rfl, _, rfl, _, rfl, slice _ fun p np o ho => ?_⟩
          have hq : SqL K (upd H3 p o) p (seen.map V.str) ∨ SqT K (upd H3 p o) p (seen.map V.str) := by
            rcases ho with rfl | rfl
            · exact .inl (.inl (.inl upd_same))
            · exact .inr (.inl (.inl upd_same))
          refine ⟨p, _, rfl, hq, rfl, Lw.flat_strs _, _, rfl, ?_⟩
          rw [in_strs]
          have s4 : Same H (upd H3 p o) := (s2.trans s3).trans (same_upd np)
          by_cases hz : zz ∈ seen
          · rw [fwGo_in hz] at w1
            rw [decide_eq_true hz]
            refine iteT ⟨_, rfl, qs (i : Nat) ?_ _ s4⟩
            rw [ew, w1]
            rfl
          · rw [fwGo_ok en hz] at w1
            rw [decide_eq_false hz]
            refine iteF ⟨s4, ⟨_, _, rfl⟩, seen ++ [zz], ?_, w1⟩
            rw [List.take_add_one, hdx, t1, List.map_append]
            rfl
        | _ => cases en
    · rintro σ H1 ⟨s1, ⟨y, z, rfl⟩, seen, t1, w1⟩
      refine qn ?_ H1 s1
      rw [ew, w1, List.drop_of_length_le (by omega)]
      rfl
end

abbrev s_iniInvalidFields : Stmt := inClass (topS 3) 0
abbrev W_iniInvalidFields : IniW := ⟨"__init__", "InvalidFields.__init__", defArgs s_iniInvalidFields, defBody s_iniInvalidFields, defScope s_iniInvalidFields⟩
abbrev N_iniInvalidFields : List Str := ["self", "index", "__class__"]
theorem sc_iniInvalidFields : NdefX.NScope N_iniInvalidFields ["self", "index"] ["__class__"] (defScope s_iniInvalidFields) := NdefX.nscope_by (by decide +kernel)
theorem ok_iniInvalidFields {P : Program} {w : World} {K : PySem.W.Frag} {mg : Str → Option Value} {base : Heap} {f : Addr} {fd : FuncData} {C cc cda : Addr} (T : ExcK K C (tlOf "ValueError") "ValueError.__new__") (S : IniK P K mg W_iniInvalidFields f cc cda C "ValueError" "ValueError.__init__") (hno : PySem.W.findIn K (.ref C) "index" = some none)
    (hfd : ∃ (oc : Value) (od : Option Addr) (osl : Array (Option Value)), K.lookup f = some ⟨oc, od, .func fd, osl⟩) : FnOk P w K mg base CX0 1 f fd ["self", "index"] (sp_iniI "index" C) := by
  refine ini_ok (N := N_iniInvalidFields) exb_V T S rfl sc_iniInvalidFields rfl (fun vs H Q E h => ?_) (fun vs H Q E h => ?_) (fun L => ⟨_, rfl⟩) (fun A outer s H vs Q E hr h => ?_) hfd
  · obtain ⟨a, v, rfl, _⟩ := h
    rfl
  · obtain ⟨a, v, rfl, ha, _⟩ := h
    exact ⟨a, rfl, ha⟩
  · obtain ⟨a, v, rfl, ha, q⟩ := h
    refine ⟨_, pss_one (ps_ostB exb_V (pv 0) (pv 1)), ?_⟩
    exact ⟨v, rfl, .ref a, rfl, a, C, rfl, T, hno, ha, fun dx nd ne => q dx nd ne⟩

abbrev FnM (K : PySem.W.Frag) (q x : Str) (st : Stmt) (f : Addr) (fd : FuncData) : Prop := FunD K x q (defArgs st) (defBody st) (defScope st) [] [] f fd
section
variable {P : Program} {w : World} {K : PySem.W.Frag} {mg : Str → Option Value} {base : Heap} {f : Addr} {fd : FuncData} {C CF CT CU fN fI fC : Addr} {fdN fdI : FuncData}
theorem ok_Sheet_has_field (F : FnM K "Sheet.has_field" "has_field" s_Sheet_has_field f fd) (T : Tz mg) (SC : ShC K C) : FnOk P w K mg base CX0 1 f fd ["self", "value"] (sp_has K C) := by
  refine F.ok sc_Sheet_has_field (fun vs H Q E h => ?_) (fun cdv A outer s H vs Q E hr h => ?_)
  · obtain ⟨a, ns, v, d, rfl, _⟩ := h
    rfl
  · obtain ⟨a, ns, v, d, rfl, ⟨dx, t, h1, h2, nm⟩, hd, q⟩ := h
    refine ⟨_, PSs.nox (pss_one (ps_ret (pe_and (pe_callB call_isi (by rfl) T.z_isinstance (by decide +kernel) (pa_cons (pv 1) (pa_cons (pe_bltn (v := .ty "str") (by rfl) T.z_str (by decide +kernel) rfl) pa_nil))) (pe_one (pe_cmpR op_in_seq (pv 1) (pe_fld (pv 0) rfl) (by with_unfolding_all rfl)))))), ?_⟩
    refine ⟨v, rfl, v, .ty "str", _, _, _, rfl, .ty _, hd.ty, kit_ty (kit_str d), _, rfl, ?_⟩
    cases hd with
    | str z =>
      refine ⟨_, rfl, .ref a, rfl, a, C, dx, _, .ref t, rfl, h1, SC.c, SC.no, rfl, t, _, rfl, .inr h2, rfl, Lw.flat_strs _, ?_⟩
      rw [if_neg (by decide), in_strs]
      exact q
    | _ => exact q
theorem ok_Sheet_fields (F : FnM K "Sheet.fields" "fields" s_Sheet_fields f fd) (T : Tz mg) (SC : ShC K C) : FnOk P w K mg base CX0 1 f fd ["self"] (sp_fields K C) := by
  refine F.ok sc_Sheet_fields (fun vs H Q E h => ?_) (fun cdv A outer s H vs Q E hr h => ?_)
  · obtain ⟨a, ns, rfl, _⟩ := h
    rfl
  · obtain ⟨a, ns, rfl, ⟨dx, t, h1, h2, nm⟩, q⟩ := h
    refine ⟨_, PSs.nox (pss_one (ps_ret (pe_callTy call_list_of (by rfl) T.z_list (by decide +kernel) (pa_cons (pe_fld (pv 0) rfl) pa_nil)))), ?_⟩
    exact ⟨.ref a, rfl, a, C, dx, _, .ref t, rfl, h1, SC.c, SC.no, rfl, t, _, rfl, .inr h2, fun p np => q p np⟩
theorem ok_Sheet_eq (F : FnM K "Sheet.__eq__" "__eq__" s_Sheet_eq f fd) (T : Tz mg) (SC : ShC K C) (IC : IsC K C) (mC_Sheet : mg "Sheet" = some (.ref C)) : FnOk P w K mg base CX0 1 f fd ["self", "other"] (sp_shEq K C) := by
  refine F.ok sc_Sheet_eq (fun vs H Q E h => ?_) (fun cdv A outer s H vs Q E hr h => ?_)
  · obtain ⟨a, ns, y, rfl, _⟩ := h
    rfl
  · obtain ⟨a, ns, y, rfl, ⟨dx, t, h1, h2, nm⟩, q⟩ := h
    refine ⟨_, PSs.nox (pss_cons (ps_if (pt_not (pt_val (pe_callB call_isi (by rfl) T.z_isinstance (by decide +kernel) (pa_cons (pv 1) (pa_cons (pe_cls mC_Sheet) pa_nil))))) (pss_one (ps_ret pe_bl)) pss_nil)
      (pss_one (ps_ret (pe_cmpR (op_eqD hr.units) (pe_fld (pv 0) rfl) (pe_fld (pv 1) rfl) (nomark _))))), ?_⟩
    rcases q with ⟨b, ms, rfl, ⟨dy, u, k1, k2, nm'⟩, q⟩ | ⟨d, hd, q⟩
    · refine ⟨.ref b, rfl, .ref b, .ref C, _, _, _, rfl, .own _, IC.ty SC.c k1, IC.own, _, rfl, ?_⟩
      refine iteF ⟨.ref a, rfl, a, C, dx, _, .ref t, rfl, h1, SC.c, SC.no, rfl, .ref b, rfl, b, C, dy, _, .ref u, rfl, k1, SC.c, SC.no, rfl, ?_⟩
      refine ⟨.tuple (ns.map PyData.str), .tuple (ms.map PyData.str), .tup h2 (dp_strs ns), .tup k2 (dp_strs ms), shaped_strs nm, shaped_strs nm', ?_⟩
      have e : PyData.eqv (.tuple (ns.map PyData.str)) (.tuple (ms.map PyData.str)) = decide (ns = ms) := eqv_strs ns ms
      rw [e]
      exact q
    · refine ⟨y, rfl, y, .ref C, _, _, _, rfl, .own _, hd.ty, IC.dat _ (tyD_mem d), _, rfl, iteT q⟩
end

section
variable {P : Program} {w : World} {K : PySem.W.Frag} {mg : Str → Option Value} {base : Heap} {f : Addr} {fd : FuncData} {C CF CT CU fN fI fC : Addr} {fdN fdI : FuncData}
theorem ok_Sheet_init (F : FnM K "Sheet.__init__" "__init__" s_Sheet_init f fd) (T : Tz mg) (SC : ShC K C) (mC_Sheet : mg "Sheet" = some (.ref C)) (CR : ClX.CRead K C (.type "type")) (CN : ConI K C "MAX_FIELDS" 12)
    (E_InvalidFields : OwnE P w K mg base 1 "InvalidFields" ["self", "index"] (sp_iniI "index" CF) CF fI fdI (tlOf "ValueError") "ValueError.__new__") (O_first_wrong_name : Own P w K mg base CX0 2 "first_wrong_name" ["values", "most"] (sp_fwn K) fN fdN) :
    FnOk P w K mg base (L2.CX P w) 3 f fd ["self", "fields"] (sp_shInit K C CF) := by
  refine F.ok sc_Sheet_init (fun vs H Q E h => ?_) (fun cdv A outer s H vs Q E hr h => ?_)
  · obtain ⟨a, dx, v, d, rfl, _⟩ := h
    rfl
  · obtain ⟨a, dx, v, d, rfl, ha, hd, hs, ho, qq, qp⟩ := h
    refine ⟨_, (pss_cons (ps_set (i := 2) sc_Sheet_init.nd rfl (Or.inl rfl) (pe_own O_first_wrong_name (hr.mono (by first | decide | omega)) (pa_cons (pv 1) (pa_cons (ClX.pe_cval (pe_cls mC_Sheet)) pa_nil))))
      (pss_cons (ps_if (pt_cmpR op_notN (pv 2) pe_non (nomark _)) (pss_one (ps_raise rfl (takes_of rfl rfl rfl rfl) (pmk_e exb_V E_InvalidFields (hr.mono (by first | decide | omega)) (pa_cons (pv 2) pa_nil)))) pss_nil)
      (pss_one (ps_fld (pv 0) (pe_callTy call_tupleF (by rfl) T.z_tuple (by decide +kernel) (pa_cons (pv 1) pa_nil)) rfl)))), ?_⟩
    obtain ⟨u, hu⟩ := CN.c
    refine ⟨v, rfl, C, .type "type", .int 12, u, rfl, CR, hu, v, d, rfl, hd.same off_under, hs, fun H1 s1 => ?_⟩
    have ha1 := s1 _ _ ha
    cases e : fwD d with
    | some i =>
      have ev : fwV d = .int i := by unfold fwV; rw [e]
      rw [ev]
      refine ⟨_, rfl, rfl, _, rfl, iteT ⟨_, rfl, raise_I ((ho i e).later s1)⟩⟩
    | none =>
      have ev : fwV d = .non := by unfold fwV; rw [e]
      rw [ev]
      refine ⟨_, rfl, rfl, _, rfl, iteF ⟨v, rfl, ?_⟩⟩
      cases hd with
      | lst h g =>
        obtain ⟨ns, rfl, nm⟩ := fwL_none e
        cases dq_strs g
        refine ⟨_, _, rfl, .inl ⟨(s1.seq (off_under.seq h)), fun t ob nt od => ?_⟩⟩
        have nta : t ≠ a := (ne_of_none ha1 nt).symm
        refine ⟨.ref a, rfl, a, C, dx, [], rfl, by rw [upd_ne nta.symm]; exact ha1, SC.c, SC.no, by show 0 < 1000; decide, ?_⟩
        refine qp ns _ t ob rfl nm ?_ upd_same (by rw [upd_ne nta, upd_same]) od
        exact ((Off.same s1).trans (Off.new nt)).trans Off.at
      | @tup t xs ds h g =>
        obtain ⟨ns, rfl, nm⟩ := fwL_none e
        cases dq_strs g
        refine ⟨_, _, rfl, .inr ⟨same_t s1 (same_t off_under h), ?_⟩⟩
        refine ⟨.ref a, rfl, a, C, dx, [], rfl, ha1, SC.c, SC.no, by show 0 < 1000; decide, ?_⟩
        refine qq ns _ t rfl nm ((Off.same s1).trans Off.at) upd_same ?_
        have o : Off a H (upd H1 a (.ins C dx (putF "listed" (.ref t) []))) := (Off.same s1).trans Off.at
        exact same_t off_under (same_t o h)
      | _ => cases e
end

end K31



set_option Elab.async false
set_option linter.all false
set_option maxRecDepth 100000
set_option maxHeartbeats 4000000
namespace K31
open PySem PySem.Spec PyProof.Rows L2 Lw

def lvD : PyData → Bool
  | .int l => decide (0 ≤ l) && decide (l ≤ 2)
  | _ => false
def tmD : PyData → Bool
  | .int t => decide (1 ≤ t)
  | _ => false
def setL (ns : List Str) : List PyData → Bool
  | [l, t, r, f, w] => lvD l && (tmD t && (nameD r && (hasD ns f && numD w)))
  | _ => false
theorem dq_five {K : PySem.W.Frag} {H : Hp} {vs : List V} {ds : List PyData} (g : DqAll K H vs ds) (h : ds.length = 5) : ∃ v1 v2 v3 v4 v5 d1 d2 d3 d4 d5, vs = [v1, v2, v3, v4, v5] ∧ ds = [d1, d2, d3, d4, d5] ∧ Dq K H v1 d1 ∧ Dq K H v2 d2 ∧ Dq K H v3 d3 ∧ Dq K H v4 d4 ∧ Dq K H v5 d5 := by
  match ds, h with
  | [d1, d2, d3, d4, d5], _ =>
    cases g with
    | cons h1 g =>
      cases g with
      | cons h2 g =>
        cases g with
        | cons h3 g =>
          cases g with
          | cons h4 g =>
            cases g with
            | cons h5 g =>
              cases g
              exact ⟨_, _, _, _, _, _, _, _, _, _, rfl, rfl, h1, h2, h3, h4, h5⟩
theorem lv_int {d : PyData} (h : Lw.intD d = false) : lvD d = false := by
  cases d <;> first | rfl | cases h
theorem tm_int {d : PyData} (h : Lw.intD d = false) : tmD d = false := by
  cases d <;> first | rfl | cases h
def setD (ns : List Str) : PyData → Bool
  | .tuple ds => setL ns ds
  | _ => false
theorem set_len {ns : List Str} {ds : List PyData} (h : ds.length ≠ 5) : setD ns (.tuple ds) = false := by
  show setL ns ds = false
  match ds, h with
  | [], _ => rfl
  | [_], _ => rfl
  | [_, _], _ => rfl
  | [_, _, _], _ => rfl
  | [_, _, _, _], _ => rfl
  | [_, _, _, _, _], z => exact absurd rfl z
  | _ :: _ :: _ :: _ :: _ :: _ :: _, _ => rfl
def OkT (d : PyData) : Prop := ∀ ds, d = .tuple ds → ds.length ≤ 900 ∧ ∀ x ∈ ds, Short x ∧ Lean_ x
def sp_set (K : PySem.W.Frag) (C : Addr) : Sp := fun vs H Q _ => ∃ (a : Addr) (ns : List Str) (v : V) (d : PyData), vs = [.ref a, v] ∧ ShAt K C H a ns ∧ Dq K H v d ∧ OkT d ∧ ∀ H', Same H H' → Q (.bl (setD ns d)) H'
section
variable {P : Program} {w : World} {K : PySem.W.Frag} {mg : Str → Option Value} {base : Heap} {f : Addr} {fd : FuncData} {C fI fN fW : Addr} {fdI fdN fdW : FuncData}
def sp_level (K : PySem.W.Frag) : Sp := fun vs H Q _ => ∃ (v : V) (d : PyData), vs = [v] ∧ Dq K H v d ∧ Q (.bl (lvD d)) H
theorem ok_is_known_level (F : FnP K "is_known_level" s_is_known_level f fd) (T : Tz mg) (O_is_integer : Own P w K mg base CX0 1 "is_integer" ["value"] (sp_int K) fI fdI) : FnOk P w K mg base CX0 2 f fd ["value"] (sp_level K) := by
  refine F.ok sc_is_known_level (fun vs H Q E h => ?_) (fun cdv A outer s H vs Q E hr h => ?_)
  · obtain ⟨v, d, rfl, _⟩ := h
    rfl
  · obtain ⟨v, d, rfl, hd, q⟩ := h
    refine ⟨_, PSs.nox (pss_one (ps_ret (pe_and (pe_own O_is_integer (hr.mono (by first | decide | omega)) (pa_cons (pv 0) pa_nil)) (pe_one (pe_chain op_le op_le pe_int (pv 0) (pe_gi T.c_HIGHEST_LEVEL)))))), ?_⟩
    refine ⟨v, rfl, v, d, rfl, hd, _, rfl, ?_⟩
    cases i1 : Lw.intD d with
    | false =>
      rw [lv_int i1] at q
      exact q
    | true =>
      obtain ⟨l, rfl⟩ := intD_int i1
      cases hd
      have q : Q (.bl (decide (0 ≤ l) && decide (l ≤ 2))) H := q
      refine ⟨.int l, rfl, _, _, rfl, rfl, _, rfl, ?_⟩
      by_cases h0 : 0 ≤ l
      · rw [decide_eq_true h0, Bool.true_and] at q
        rw [decide_eq_true h0]
        exact ⟨_, _, rfl, rfl, q⟩
      · rw [decide_eq_false h0, Bool.false_and] at q
        rw [decide_eq_false h0]
        exact q
theorem ok_is_setting (F : FnP K "is_setting" s_is_setting f fd) (T : Tz mg) (O_is_integer : Own P w K mg base CX0 1 "is_integer" ["value"] (sp_int K) fI fdI) (O_is_name : Own P w K mg base CX0 1 "is_name" ["value"] (sp_name K) fN fdN)
    (M_Sheet_has_field : OwnM P w K mg base CX0 1 C "has_field" (sp_has K C)) (O_is_number : Own P w K mg base CX0 2 "is_number" ["value"] (sp_num K) fW fdW) {fL : Addr} {fdL : FuncData} (O_is_known_level : Own P w K mg base CX0 2 "is_known_level" ["value"] (sp_level K) fL fdL) : FnOk P w K mg base CX0 3 f fd ["sheet", "value"] (sp_set K C) := by
  refine F.ok sc_is_setting (fun vs H Q E h => ?_) (fun cdv A outer s H vs Q E hr h => ?_)
  · obtain ⟨a, ns, v, d, rfl, _⟩ := h
    rfl
  · obtain ⟨a, ns, v, d, rfl, sh, hd, hk, q⟩ := h
    refine ⟨_, PSs.nox (pss_cons (ps_if (PW.pt (pw_or (pt_not (pt_val (pe_callB call_isi (by rfl) T.z_isinstance (by decide +kernel) (pa_cons (pv 1) (pa_cons (pe_bltn (v := .ty "tuple") (by rfl) T.z_tuple (by decide +kernel) rfl) pa_nil))))) (pw_or1 (pt_cmpR op_ne (pe_callB call_len_seq (by rfl) T.z_len (by decide +kernel) (pa_cons (pv 1) pa_nil)) pe_int (nomark _))))) (pss_one (ps_ret pe_bl)) pss_nil)
      (pss_cons (ps_asg (pv 1) (pg_tup rfl (pgs_cons (pg_name (i := 2) sc_is_setting.nd rfl (Or.inl rfl)) (pgs_cons (pg_name (i := 3) sc_is_setting.nd rfl (Or.inl rfl)) (pgs_cons (pg_name (i := 4) sc_is_setting.nd rfl (Or.inl rfl)) (pgs_cons (pg_name (i := 5) sc_is_setting.nd rfl (Or.inl rfl)) (pgs_cons (pg_name (i := 6) sc_is_setting.nd rfl (Or.inl rfl)) pgs_nil)))))))
      (pss_cons (ps_if (PW.pt (pw_or (pt_not (pt_val (pe_own O_is_known_level (hr.mono (by first | decide | omega)) (pa_cons (pv 2) pa_nil)))) (pw_or (pt_not (pt_val (pe_own O_is_integer (hr.mono (by first | decide | omega)) (pa_cons (pv 3) pa_nil)))) (pw_or1 (pt_cmpR op_lt (pv 3) pe_int (nomark _)))))) (pss_one (ps_ret pe_bl)) pss_nil)
      (pss_one (ps_ret (pe_and (pe_own O_is_name (hr.mono (by first | decide | omega)) (pa_cons (pv 4) pa_nil)) (pe_and (pe_omA M_Sheet_has_field passes0 (hr.mono (by first | decide | omega)) (pv 0) (pa_cons (pv 5) pa_nil)) (pe_one (pe_own O_is_number (hr.mono (by first | decide | omega)) (pa_cons (pv 6) pa_nil)))))))))), ?_⟩
    refine ⟨v, rfl, v, .ty "tuple", _, _, _, rfl, .ty _, hd.ty, kit_ty (kit_tuple d), _, rfl, ?_⟩
    cases hd with
    | @tup t xs ds h g =>
      refine iteF ?_
      have le := dq_len g
      obtain ⟨l9, hk⟩ := hk ds rfl
      refine ⟨.ref t, rfl, t, xs, rfl, .inr h, rfl, _, rfl, ite2 (fun e => ?_) (fun e => ?_)⟩
      · have e2 : ds.length ≠ 5 := fun z => by
          rw [le, z] at e
          exact absurd e (by decide)
        have en : setD ns (.tuple ds) = false := by
          show setL ns ds = false
          match ds, e2 with
          | [], _ => rfl
          | [_], _ => rfl
          | [_, _], _ => rfl
          | [_, _, _], _ => rfl
          | [_, _, _, _], _ => rfl
          | [_, _, _, _, _], z => exact absurd rfl z
          | _ :: _ :: _ :: _ :: _ :: _ :: _, _ => rfl
        rw [en] at q
        exact q H (Same.refl H)
      · have e5 : ds.length = 5 := by
          rw [le] at e
          refine Classical.byContradiction fun z => e ?_
          rw [decide_eq_false (fun y => z (by have := V.int.inj y; omega))]
          rfl
        obtain ⟨v1, v2, v3, v4, v5, d1, d2, d3, d4, d5, rfl, rfl, g1, g2, g3, g4, g5⟩ := dq_five g e5
        have q' : ∀ H', Same H H' → Q (.bl (lvD d1 && (tmD d2 && (nameD d3 && (hasD ns d4 && numD d5))))) H' := q
        refine ⟨.ref t, rfl, t, _, rfl, h, rfl, _, _, rfl, _, _, rfl, _, _, rfl, _, _, rfl, _, _, rfl, rfl, ?_⟩
        refine ⟨v1, rfl, v1, d1, rfl, g1, _, rfl, ?_⟩
        cases l1 : lvD d1 with
        | false =>
          rw [l1, Bool.false_and] at q'
          exact q' H (Same.refl H)
        | true =>
          rw [l1, Bool.true_and] at q'
          refine ⟨v2, rfl, v2, d2, rfl, g2, _, rfl, ?_⟩
          cases i2 : Lw.intD d2 with
          | false =>
            rw [tm_int i2, Bool.false_and] at q'
            exact q' H (Same.refl H)
          | true =>
            obtain ⟨tt, rfl⟩ := intD_int i2
            cases g2
            refine iteF ?_
            refine ⟨.int tt, rfl, _, _, rfl, rfl, _, rfl, ite2 (fun e3 => ?_) (fun e3 => ?_)⟩
            · have h3 : tt < 1 := of_decide_eq_true e3
              have e4 : tmD (.int tt) = false := decide_eq_false (by omega)
              rw [e4, Bool.false_and] at q'
              exact q' H (Same.refl H)
            · have h3 : ¬ tt < 1 := fun h => e3 (decide_eq_true h)
              have e4 : tmD (.int tt) = true := decide_eq_true (by omega)
              rw [e4, Bool.true_and] at q'
              refine ⟨v3, rfl, v3, d3, rfl, g3, (hk d3 (by simp)).1, fun H1 s1 => ⟨_, rfl, ?_⟩⟩
              cases n3 : nameD d3 with
              | false =>
                rw [n3, Bool.false_and] at q'
                exact q' H1 s1
              | true =>
                rw [n3, Bool.true_and] at q'
                refine iteT ?_
                obtain ⟨dx, t0, k1, _⟩ := id (sh.same s1)
                refine ⟨.ref a, rfl, a, dx, _, rfl, k1, rfl, v4, rfl, a, ns, v4, d4, rfl, sh.same s1, g4.same s1, _, rfl, ?_⟩
                cases n4 : hasD ns d4 with
                | false =>
                  rw [n4, Bool.false_and] at q'
                  exact q' H1 s1
                | true =>
                  rw [n4, Bool.true_and] at q'
                  exact iteT ⟨v5, rfl, v5, d5, rfl, g5.same s1, (hk d5 (by simp)).2, fun H2 s2 => q' H2 (s1.trans s2)⟩
    | _ => exact q H (Same.refl H)
end
end K31



set_option Elab.async false
set_option linter.all false
set_option maxRecDepth 100000
set_option maxHeartbeats 4000000
namespace K31
open PySem PySem.Spec PyProof.Rows L2 Lw

section
variable {P : Program} {w : World} {K : PySem.W.Frag} {mg : Str → Option Value} {base : Heap} {f : Addr} {fd : FuncData} {fI fG fN fW : Addr} {fdI fdG fdN fdW : FuncData}
theorem ok_is_whole (F : FnP K "_law_is_whole" s_is_whole f fd) (T : Tz mg) : FnOk P w K mg base CX0 1 f fd ["_law_thing"] (sp_int K) := by
  refine F.ok sc_is_whole (fun vs H Q E h => ?_) (fun cdv A outer s H vs Q E hr h => ?_)
  · obtain ⟨v, d, rfl, _⟩ := h
    rfl
  · obtain ⟨v, d, rfl, hd, q⟩ := h
    refine ⟨_, PSs.nox (pss_one (ps_ret (pe_and (pe_callB call_isi (by rfl) T.z_isinstance (by decide +kernel) (pa_cons (pv 0) (pa_cons (pe_bltn (v := .ty "int") (by rfl) T.z_int (by decide +kernel) rfl) pa_nil))) (pe_one (pe_not (pe_callB call_isi (by rfl) T.z_isinstance (by decide +kernel) (pa_cons (pv 0) (pa_cons (pe_bltn (v := .ty "bool") (by rfl) T.z_bool (by decide +kernel) rfl) pa_nil)))))))), ?_⟩
    refine ⟨v, rfl, v, .ty "int", _, _, _, rfl, .ty _, hd.ty, kit_ty (kit_int d), _, rfl, ite2 (fun e => ?_) (fun e => ?_)⟩
    · refine ⟨v, rfl, v, .ty "bool", _, _, _, rfl, .ty _, hd.ty, kit_ty (kit_bool d), _, rfl, ?_⟩
      unfold Lw.intD at q
      rw [e, Bool.true_and] at q
      exact q
    · unfold Lw.intD at q
      rw [Bool.eq_false_iff.mpr e, Bool.false_and] at q
      exact q

theorem ok_is_ratio (F : FnP K "_law_is_ratio" s_is_ratio f fd) (T : Tz mg) (O_is_whole : Own P w K mg base CX0 1 "_law_is_whole" ["_law_thing"] (sp_int K) fI fdI) (O_common : Own P w K mg base CX0 1 "_law_common" ["_law_a", "_law_b"] sp_gcd fG fdG) : FnOk P w K mg base CX0 2 f fd ["_law_thing"] (sp_num K) := by
  refine F.ok sc_is_ratio (fun vs H Q E h => ?_) (fun cdv A outer s H vs Q E hr h => ?_)
  · obtain ⟨v, d, rfl, _⟩ := h
    rfl
  · obtain ⟨v, d, rfl, hd, hn, q⟩ := h
    refine ⟨_, PSs.nox (pss_cons (ps_if (pt_not (pt_val (pe_callB call_isi (by rfl) T.z_isinstance (by decide +kernel) (pa_cons (pv 0) (pa_cons (pe_bltn (v := .ty "tuple") (by rfl) T.z_tuple (by decide +kernel) rfl) pa_nil))))) (pss_one (ps_ret (pe_own O_is_whole (hr.mono (by first | decide | omega)) (pa_cons (pv 0) pa_nil)))) pss_nil)
      (pss_cons (ps_if (PW.pt (pw_or (pt_cmpR op_ne (pe_callB call_len_seq (by rfl) T.z_len (by decide +kernel) (pa_cons (pv 0) pa_nil)) pe_int (nomark _)) (pw_or (pt_not (pt_val (pe_own O_is_whole (hr.mono (by first | decide | omega)) (pa_cons (pe_ix ix_tup (pv 0) pe_int (fun _ _ => rfl)) pa_nil)))) (pw_or (pt_not (pt_val (pe_own O_is_whole (hr.mono (by first | decide | omega)) (pa_cons (pe_ix ix_tup (pv 0) pe_int (fun _ _ => rfl)) pa_nil)))) (pw_or1 (pt_cmpR op_lt (pe_ix ix_tup (pv 0) pe_int (fun _ _ => rfl)) pe_int (nomark _))))))) (pss_one (ps_ret pe_bl)) pss_nil)
      (pss_one (ps_ret (pe_cmpR op_eq (pe_own O_common (hr.mono (by first | decide | omega)) (pa_cons (pe_ix ix_tup (pv 0) pe_int (fun _ _ => rfl)) (pa_cons (pe_ix ix_tup (pv 0) pe_int (fun _ _ => rfl)) pa_nil))) pe_int (nomark _)))))), ?_⟩
    refine ⟨v, rfl, v, .ty "tuple", _, _, _, rfl, .ty _, hd.ty, kit_ty (kit_tuple d), _, rfl, ?_⟩
    cases hd with
    | @tup a xs ds h g =>
      refine iteF ?_
      have le := dq_len g
      refine ⟨.ref a, rfl, a, xs, rfl, .inr h, rfl, _, rfl, ite2 (fun e => ?_) (fun e => ?_)⟩
      · have e2 : ds.length ≠ 2 := fun z => by
          rw [le, z] at e
          exact absurd e (by decide)
        have en : numD (.tuple ds) = false := ratio_len e2
        rw [en] at q
        exact q H (Same.refl H)
      · have e2 : ds.length = 2 := by
          rw [le] at e
          refine Classical.byContradiction fun z => e ?_
          rw [decide_eq_false (fun y => z (by have := V.int.inj y; omega))]
          rfl
        match ds, e2 with
        | [d1, d2], _ =>
          cases g with
          | @cons v1 _ _ _ g1 g =>
            cases g with
            | @cons v2 _ _ _ g2 g =>
              cases g
              refine ⟨.ref a, rfl, a, _, 0, v1, rfl, rfl, h, rfl, v1, d1, rfl, g1, _, rfl, ?_⟩
              cases i1 : Lw.intD d1 with
              | false =>
                have en : numD (.tuple [d1, d2]) = false := by
                  show ratioB [d1, d2] = false
                  cases d1 <;> first | rfl | cases i1
                rw [en] at q
                exact q H (Same.refl H)
              | true =>
                obtain ⟨n, rfl⟩ := intD_int i1
                cases g1
                refine iteF ?_
                refine ⟨.ref a, rfl, a, _, 1, v2, rfl, rfl, h, rfl, v2, d2, rfl, g2, _, rfl, ?_⟩
                cases i2 : Lw.intD d2 with
                | false =>
                  have en : numD (.tuple [.int n, d2]) = false := by
                    show ratioB [.int n, d2] = false
                    cases d2 <;> first | rfl | cases i2
                  rw [en] at q
                  exact q H (Same.refl H)
                | true =>
                  obtain ⟨m, rfl⟩ := intD_int i2
                  cases g2
                  have en : numD (.tuple [.int n, .int m]) = (decide (2 ≤ m) && decide (Int.gcd n m = 1)) := rfl
                  refine iteF ?_
                  refine ⟨.ref a, rfl, a, _, 1, .int m, rfl, rfl, h, rfl, _, _, rfl, rfl, _, rfl, ite2 (fun e3 => ?_) (fun e3 => ?_)⟩
                  · have h3 : m < 2 := of_decide_eq_true e3
                    rw [en, decide_eq_false (by omega), Bool.false_and] at q
                    exact q H (Same.refl H)
                  · have h3 : ¬ m < 2 := fun h => e3 (decide_eq_true h)
                    have e9 : decide (Int.gcd n m = 1) = decide (V.int (Int.gcd n m : Int) = V.int 1) := by
                      refine decide_eq_decide.mpr ⟨fun h => by rw [h]; rfl, fun h => ?_⟩
                      have := V.int.inj h
                      omega
                    rw [en, show decide (2 ≤ m) = true from decide_eq_true (by omega), Bool.true_and, e9] at q
                    exact ⟨.ref a, rfl, a, _, 0, .int n, rfl, rfl, h, rfl, .ref a, rfl, a, _, 1, .int m, rfl, rfl, h, rfl, n, m, rfl, rfl, q H (Same.refl H)⟩
    | non => exact ⟨_, rfl, _, _, rfl, .non, q H (Same.refl H)⟩
    | bl b => exact ⟨_, rfl, _, _, rfl, .bl b, q H (Same.refl H)⟩
    | int i => exact ⟨_, rfl, _, _, rfl, .int i, q H (Same.refl H)⟩
    | str z => exact ⟨_, rfl, _, _, rfl, .str z, q H (Same.refl H)⟩
    | lst h g => exact ⟨_, rfl, _, _, rfl, .lst h g, q H (Same.refl H)⟩
    | dic h => exact ⟨_, rfl, _, _, rfl, .dic h, q H (Same.refl H)⟩
    | dct h ne g => exact ⟨_, rfl, _, _, rfl, .dct h ne g, q H (Same.refl H)⟩
def sp_told (K : PySem.W.Frag) : Sp := fun vs H Q _ => ∃ (l : Addr) (ns : List Str) (v : V) (d : PyData), vs = [.ref l, v] ∧ SqL K H l (ns.map V.str) ∧ Dq K H v d ∧ OkT d ∧ ∀ H', Same H H' → Q (.bl (setD ns d)) H'
theorem ok_is_told (F : FnP K "_law_is_told" s_is_told f fd) (T : Tz mg) (O_is_whole : Own P w K mg base CX0 1 "_law_is_whole" ["_law_thing"] (sp_int K) fI fdI) (O_is_word : Own P w K mg base CX0 1 "_law_is_word" ["_law_thing"] (sp_name K) fN fdN)
    (O_is_ratio : Own P w K mg base CX0 2 "_law_is_ratio" ["_law_thing"] (sp_num K) fW fdW) : FnOk P w K mg base CX0 3 f fd ["_law_labels", "_law_thing"] (sp_told K) := by
  refine F.ok sc_is_told (fun vs H Q E h => ?_) (fun cdv A outer s H vs Q E hr h => ?_)
  · obtain ⟨a, ns, v, d, rfl, _⟩ := h
    rfl
  · obtain ⟨a, ns, v, d, rfl, hl, hd, hk, q⟩ := h
    refine ⟨_, PSs.nox (pss_cons (ps_if (PW.pt (pw_or (pt_not (pt_val (pe_callB call_isi (by rfl) T.z_isinstance (by decide +kernel) (pa_cons (pv 1) (pa_cons (pe_bltn (v := .ty "tuple") (by rfl) T.z_tuple (by decide +kernel) rfl) pa_nil))))) (pw_or (pt_cmpR op_ne (pe_callB call_len_seq (by rfl) T.z_len (by decide +kernel) (pa_cons (pv 1) pa_nil)) pe_int (nomark _)) (pw_or (pt_not (pt_val (pe_own O_is_whole (hr.mono (by first | decide | omega)) (pa_cons (pe_ix ix_tup (pv 1) pe_int (fun _ _ => rfl)) pa_nil)))) (pw_or1 (pt_not (pt_val (pe_own O_is_whole (hr.mono (by first | decide | omega)) (pa_cons (pe_ix ix_tup (pv 1) pe_int (fun _ _ => rfl)) pa_nil))))))))) (pss_one (ps_ret pe_bl)) pss_nil)
      (pss_cons (ps_if (PW.pt (pw_or (pt_cmpR op_lt (pe_ix ix_tup (pv 1) pe_int (fun _ _ => rfl)) pe_int (nomark _)) (pw_or (pt_cmpR op_gt (pe_ix ix_tup (pv 1) pe_int (fun _ _ => rfl)) pe_int (nomark _)) (pw_or (pt_cmpR op_lt (pe_ix ix_tup (pv 1) pe_int (fun _ _ => rfl)) pe_int (nomark _)) (pw_or (pt_not (pt_val (pe_own O_is_word (hr.mono (by first | decide | omega)) (pa_cons (pe_ix ix_tup (pv 1) pe_int (fun _ _ => rfl)) pa_nil)))) (pw_or1 (pt_not (pt_val (pe_callB call_isi (by rfl) T.z_isinstance (by decide +kernel) (pa_cons (pe_ix ix_tup (pv 1) pe_int (fun _ _ => rfl)) (pa_cons (pe_bltn (v := .ty "str") (by rfl) T.z_str (by decide +kernel) rfl) pa_nil))))))))))) (pss_one (ps_ret pe_bl)) pss_nil)
      (pss_one (ps_ret (pe_and (pe_cmpR op_in_seq (pe_ix ix_tup (pv 1) pe_int (fun _ _ => rfl)) (pv 0) (by with_unfolding_all rfl)) (pe_one (pe_own O_is_ratio (hr.mono (by first | decide | omega)) (pa_cons (pe_ix ix_tup (pv 1) pe_int (fun _ _ => rfl)) pa_nil)))))))), ?_⟩
    refine ⟨v, rfl, v, .ty "tuple", _, _, _, rfl, .ty _, hd.ty, kit_ty (kit_tuple d), _, rfl, ?_⟩
    cases hd with
    | @tup t xs ds h g =>
      refine iteF ?_
      have le := dq_len g
      obtain ⟨l9, hk⟩ := hk ds rfl
      refine ⟨.ref t, rfl, t, xs, rfl, .inr h, rfl, _, rfl, ite2 (fun e => ?_) (fun e => ?_)⟩
      · have e2 : ds.length ≠ 5 := fun z => by
          rw [le, z] at e
          exact absurd e (by decide)
        rw [set_len e2] at q
        exact q H (Same.refl H)
      · have e5 : ds.length = 5 := by
          rw [le] at e
          refine Classical.byContradiction fun z => e ?_
          rw [decide_eq_false (fun y => z (by have := V.int.inj y; omega))]
          rfl
        obtain ⟨v1, v2, v3, v4, v5, d1, d2, d3, d4, d5, rfl, rfl, g1, g2, g3, g4, g5⟩ := dq_five g e5
        have q' : ∀ H', Same H H' → Q (.bl (lvD d1 && (tmD d2 && (nameD d3 && (hasD ns d4 && numD d5))))) H' := q
        refine ⟨.ref t, rfl, t, _, 0, v1, rfl, rfl, h, rfl, v1, d1, rfl, g1, _, rfl, ?_⟩
        cases i1 : Lw.intD d1 with
        | false =>
          rw [lv_int i1, Bool.false_and] at q'
          exact q' H (Same.refl H)
        | true =>
          obtain ⟨l, rfl⟩ := intD_int i1
          cases g1
          refine iteF ?_
          refine ⟨.ref t, rfl, t, _, 1, v2, rfl, rfl, h, rfl, v2, d2, rfl, g2, _, rfl, ?_⟩
          cases i2 : Lw.intD d2 with
          | false =>
            rw [tm_int i2, Bool.false_and, Bool.and_false] at q'
            exact q' H (Same.refl H)
          | true =>
            obtain ⟨m, rfl⟩ := intD_int i2
            cases g2
            refine iteF ?_
            refine ⟨.ref t, rfl, t, _, 0, .int l, rfl, rfl, h, rfl, _, _, rfl, rfl, _, rfl, ite2 (fun e1 => ?_) (fun e1 => ?_)⟩
            · have h1 : l < 0 := of_decide_eq_true e1
              rw [show lvD (.int l) = false from by show (decide (0 ≤ l) && decide (l ≤ 2)) = false; rw [decide_eq_false (by omega), Bool.false_and], Bool.false_and] at q'
              exact q' H (Same.refl H)
            have h1 : ¬ l < 0 := fun h => e1 (decide_eq_true h)
            refine ⟨.ref t, rfl, t, _, 0, .int l, rfl, rfl, h, rfl, _, _, rfl, rfl, _, rfl, ite2 (fun e2 => ?_) (fun e2 => ?_)⟩
            · have h2 : 2 < l := of_decide_eq_true e2
              rw [show lvD (.int l) = false from by show (decide (0 ≤ l) && decide (l ≤ 2)) = false; rw [show decide (l ≤ 2) = false from decide_eq_false (by omega), Bool.and_false], Bool.false_and] at q'
              exact q' H (Same.refl H)
            have h2 : ¬ 2 < l := fun h => e2 (decide_eq_true h)
            rw [show lvD (.int l) = true from by show (decide (0 ≤ l) && decide (l ≤ 2)) = true; rw [show decide (l ≤ 2) = true from decide_eq_true (by omega), show decide (0 ≤ l) = true from decide_eq_true (by omega)]; rfl, Bool.true_and] at q'
            refine ⟨.ref t, rfl, t, _, 1, .int m, rfl, rfl, h, rfl, _, _, rfl, rfl, _, rfl, ite2 (fun e3 => ?_) (fun e3 => ?_)⟩
            · have h3 : m < 1 := of_decide_eq_true e3
              rw [show tmD (.int m) = false from decide_eq_false (by omega), Bool.false_and] at q'
              exact q' H (Same.refl H)
            have h3 : ¬ m < 1 := fun h => e3 (decide_eq_true h)
            rw [show tmD (.int m) = true from decide_eq_true (by omega), Bool.true_and] at q'
            refine ⟨.ref t, rfl, t, _, 2, v3, rfl, rfl, h, rfl, v3, d3, rfl, g3, (hk d3 (by simp)).1, fun H1 s1 => ⟨_, rfl, ?_⟩⟩
            cases n3 : nameD d3 with
            | false =>
              rw [n3, Bool.false_and] at q'
              exact q' H1 s1
            | true =>
              rw [n3, Bool.true_and] at q'
              refine iteF ?_
              have t1 := same_t s1 h
              refine ⟨.ref t, rfl, t, _, 3, v4, rfl, rfl, t1, rfl, v4, .ty "str", _, _, _, rfl, .ty _, (g4.same s1).ty, kit_ty (kit_str d4), _, rfl, ?_⟩
              cases g4 with
              | str z =>
                refine iteF ?_
                have l1 := s1.seq hl
                refine ⟨.ref t, rfl, t, _, 3, .str z, rfl, rfl, t1, rfl, .ref a, rfl, a, _, rfl, .inl l1, rfl, Lw.flat_strs _, ?_⟩
                rw [if_neg (by decide), in_strs]
                refine ⟨_, rfl, ?_⟩
                have eh : hasD ns (.str z) = decide (z ∈ ns) := rfl
                rw [eh] at q'
                cases n4 : decide (z ∈ ns) with
                | false =>
                  rw [n4, Bool.false_and] at q'
                  exact q' H1 s1
                | true =>
                  rw [n4, Bool.true_and] at q'
                  exact iteT ⟨.ref t, rfl, t, _, 4, v5, rfl, rfl, t1, rfl, v5, d5, rfl, g5.same s1, (hk d5 (by simp)).2, fun H2 s2 => q' H2 (s1.trans s2)⟩
              | _ => exact q' H1 s1
    | _ => exact q H (Same.refl H)
end
end K31



set_option Elab.async false
set_option linter.all false
set_option maxRecDepth 100000
set_option maxHeartbeats 4000000
namespace K31
open PySem PySem.Spec PyProof.Rows L2 Lw

/-! ### numbers as rationals -/
theorem rz {e : Int} (h : e ≠ 0) : (e : Rat) ≠ 0 := fun z => h (Rat.intCast_inj.mp z)
def ofR (q : Rat) : PyData := if q.den = 1 then .int q.num else .tuple [.int q.num, .int (q.den : Int)]
theorem ofR_num (q : Rat) : numD (ofR q) = true := by
  unfold ofR
  split
  · rfl
  · rename_i h
    have h1 := q.reduced
    have h2 := q.den_nz
    show (decide (2 ≤ (q.den : Int)) && decide (Int.gcd q.num (q.den : Int) = 1)) = true
    rw [Bool.and_eq_true, decide_eq_true_eq, decide_eq_true_eq]
    exact ⟨by omega, h1⟩
theorem den_pos (q : Rat) : (0 : Int) < q.den := by
  have := q.den_nz
  omega
theorem den_ne (q : Rat) : (q.den : Int) ≠ 0 := by
  have := q.den_nz
  omega
theorem q_eq (q : Rat) : q = (q.num : Rat) / ((q.den : Int) : Rat) := by
  have e : q = mkRat q.num q.den := by
    conv => lhs; rw [show q = ⟨q.num, q.den, q.den_nz, q.reduced⟩ from rfl]
    exact Rat.mk_eq_mkRat q.num q.den q.den_nz q.reduced
  have e2 := Rat.mkRat_eq_div q.num q.den
  rw [← e] at e2
  exact e2
theorem q_of {n e : Int} (h : 0 < e) (c : Int.gcd n e = 1) : ((n : Rat) / (e : Rat)).num = n ∧ (((n : Rat) / (e : Rat)).den : Int) = e := by
  have h1 : e.toNat ≠ 0 := by omega
  have h2 : n.natAbs.Coprime e.toNat := by
    have : e.natAbs = e.toNat := by omega
    unfold Nat.Coprime
    rw [← this]
    exact c
  have e1 := (Rat.mk_eq_mkRat n e.toNat h1 h2).trans (Rat.mkRat_eq_div n e.toNat)
  have e2 : ((e.toNat : Nat) : Rat) = (e : Rat) := by
    have : ((e.toNat : Int) : Rat) = (e : Rat) := by rw [Int.toNat_of_nonneg (by omega)]
    exact this
  rw [e2] at e1
  rw [← e1]
  exact ⟨rfl, Int.toNat_of_nonneg (by omega)⟩
theorem ofR_div {n e : Int} (h : 0 < e) (c : Int.gcd n e = 1) : ofR ((n : Rat) / (e : Rat)) = if e = 1 then .int n else .tuple [.int n, .int e] := by
  obtain ⟨h1, h2⟩ := q_of h c
  unfold ofR
  by_cases z : e = 1
  · rw [if_pos (by omega), if_pos z, h1]
  · rw [if_neg (by omega), if_neg z, h1, h2]
theorem low_parts {n d : Int} (h : d ≠ 0) : ∃ x y c : Int, c ≠ 0 ∧ 0 < y ∧ Int.gcd x y = 1 ∧ n = c * x ∧ d = c * y ∧ n.fdiv (lowC n d) = x ∧ d.fdiv (lowC n d) = y := by
  have hp := gcd_pos (n := n) h
  obtain ⟨x, hx⟩ := Int.gcd_dvd_left n d
  obtain ⟨y, hy⟩ := Int.gcd_dvd_right n d
  generalize hG : (Int.gcd n d : Int) = G at hx hy
  have hg : Int.gcd x y = 1 := by
    have e : Int.gcd n d = Int.gcd (G * x) (G * y) := by rw [← hx, ← hy]
    rw [Int.gcd_mul_left] at e
    have e2 : G.natAbs = Int.gcd n d := by omega
    have e3 : Int.gcd n d * 1 = Int.gcd n d * Int.gcd x y := by
      rw [Nat.mul_one]
      conv => lhs; rw [e]
      rw [e2]
    exact (Nat.eq_of_mul_eq_mul_left (by omega) e3).symm
  have hy0 : y ≠ 0 := by
    rintro rfl
    rw [Int.mul_zero] at hy
    exact h hy
  by_cases hd : d < 0
  · have yn : y < 0 := by
      rcases Int.lt_trichotomy y 0 with q | q | q
      · exact q
      · exact absurd q hy0
      · have := Int.mul_pos (show 0 < G by omega) q
        omega
    have eC : lowC n d = -G := by
      unfold lowC
      rw [if_pos hd, hG]
    refine ⟨-x, -y, -G, by omega, by omega, by rw [Int.gcd_neg, Int.neg_gcd]; exact hg, by rw [hx]; grind, by rw [hy]; grind, ?_, ?_⟩
    · rw [eC, show n = (-G) * (-x) by rw [hx]; grind]
      exact Int.mul_fdiv_cancel_left _ (by omega)
    · rw [eC, show d = (-G) * (-y) by rw [hy]; grind]
      exact Int.mul_fdiv_cancel_left _ (by omega)
  · have yp : 0 < y := by
      rcases Int.lt_trichotomy y 0 with q | q | q
      · have := Int.mul_neg_of_pos_of_neg (show 0 < G by omega) q
        omega
      · exact absurd q hy0
      · exact q
    have eC : lowC n d = G := by
      unfold lowC
      rw [if_neg hd, hG]
    refine ⟨x, y, G, by omega, yp, hg, hx, hy, ?_, ?_⟩
    · rw [eC]
      conv => lhs; rw [hx]
      exact Int.mul_fdiv_cancel_left _ (by omega)
    · rw [eC]
      conv => lhs; rw [hy]
      exact Int.mul_fdiv_cancel_left _ (by omega)
theorem low_ofR {n d : Int} (h : d ≠ 0) : lowD n d = ofR ((n : Rat) / (d : Rat)) := by
  obtain ⟨x, y, c, hc, hy, hg, e1, e2, f1, f2⟩ := low_parts (n := n) h
  have e : (n : Rat) / (d : Rat) = (x : Rat) / (y : Rat) := by
    rw [e1, e2, Rat.intCast_mul, Rat.intCast_mul]
    have := rz hc
    have : (y : Rat) ≠ 0 := rz (by omega)
    grind
  rw [e, ofR_div hy hg]
  unfold lowD
  rw [f1, f2]
def vr : PyData → Rat
  | .int i => (i : Rat)
  | .tuple [.int n, .int e] => (n : Rat) / (e : Rat)
  | _ => 0
theorem ofR_int (i : Int) : ofR (i : Rat) = .int i := by
  unfold ofR
  rw [Rat.den_intCast, Rat.num_intCast, if_pos rfl]
theorem ofR_vr {d : PyData} (h : numD d = true) : ofR (vr d) = d := by
  match d, h with
  | .int i, _ => exact ofR_int i
  | .tuple [.int n, .int e], h =>
    have h' : (decide (2 ≤ e) && decide (Int.gcd n e = 1)) = true := h
    rw [Bool.and_eq_true, decide_eq_true_eq, decide_eq_true_eq] at h'
    show ofR ((n : Rat) / (e : Rat)) = _
    rw [ofR_div (by omega) h'.2, if_neg (by omega)]
/-- what the code and the law work out -/
theorem l_add (q r : Rat) : lowD (q.num * r.den + r.num * q.den) (q.den * r.den) = ofR (q + r) := by
  rw [low_ofR (Int.mul_ne_zero (den_ne q) (den_ne r))]
  congr 1
  have h1 := rz (den_ne q)
  have h2 := rz (den_ne r)
  conv => rhs; rw [q_eq q, q_eq r]
  rw [Rat.intCast_add, Rat.intCast_mul, Rat.intCast_mul, Rat.intCast_mul]
  grind
theorem l_mul (q r : Rat) : lowD (q.num * r.num) (q.den * r.den) = ofR (q * r) := by
  rw [low_ofR (Int.mul_ne_zero (den_ne q) (den_ne r))]
  congr 1
  have h1 := rz (den_ne q)
  have h2 := rz (den_ne r)
  conv => rhs; rw [q_eq q, q_eq r]
  rw [Rat.intCast_mul, Rat.intCast_mul]
  grind
theorem num_ne {r : Rat} (h : r ≠ 0) : r.num ≠ 0 := fun z => h (by
  rw [q_eq r, z]
  grind)
theorem l_div (q : Rat) {r : Rat} (h : r ≠ 0) : lowD (q.num * r.den) (q.den * r.num) = ofR (q / r) := by
  rw [low_ofR (Int.mul_ne_zero (den_ne q) (num_ne h))]
  congr 1
  have h1 := rz (den_ne q)
  have h2 := rz (den_ne r)
  have h3 := rz (num_ne h)
  conv => rhs; rw [q_eq q, q_eq r]
  rw [Rat.intCast_mul, Rat.intCast_mul]
  grind
theorem l_inv {r : Rat} (h : r ≠ 0) : lowD r.den r.num = ofR (r⁻¹) := by
  rw [low_ofR (num_ne h)]
  congr 1
  have h2 := rz (den_ne r)
  have h3 := rz (num_ne h)
  conv => rhs; rw [q_eq r]
  grind
/-! ### sizes -/
def Bq (k : Nat) (q : Rat) : Prop := q.num.natAbs < 2 ^ k ∧ q.den < 2 ^ k
theorem Bq.mono {j k : Nat} {q : Rat} (h : Bq j q) (e : j ≤ k) : Bq k q := ⟨Nat.lt_of_lt_of_le h.1 (Nat.pow_le_pow_right (by decide) e), Nat.lt_of_lt_of_le h.2 (Nat.pow_le_pow_right (by decide) e)⟩
theorem bq_low {n d : Int} {k : Nat} (h : d ≠ 0) (h1 : n.natAbs < 2 ^ k) (h2 : d.natAbs < 2 ^ k) : Bq k ((n : Rat) / (d : Rat)) := by
  obtain ⟨x, y, c, hc, hy, hg, e1, e2, f1, f2⟩ := low_parts (n := n) h
  have e : (n : Rat) / (d : Rat) = (x : Rat) / (y : Rat) := by
    rw [e1, e2, Rat.intCast_mul, Rat.intCast_mul]
    have := rz hc
    have : (y : Rat) ≠ 0 := rz (by omega)
    grind
  obtain ⟨g1, g2⟩ := q_of hy hg
  have c1 := lowC_dvd n d
  have b1 := fdiv_le (lowC_ne h) c1.1
  have b2 := fdiv_le (lowC_ne h) c1.2
  rw [f1] at b1
  rw [f2] at b2
  rw [e]
  refine ⟨by rw [g1]; omega, ?_⟩
  have : (((x : Rat) / (y : Rat)).den : Int) = y := g2
  omega
theorem nat_mul_lt {a b j k : Nat} (h1 : a < 2 ^ j) (h2 : b < 2 ^ k) : a * b < 2 ^ (j + k) := by
  rw [Nat.pow_add]
  exact Nat.mul_lt_mul'' h1 h2
theorem bq_add {q r : Rat} {j k : Nat} (h1 : Bq j q) (h2 : Bq k r) : Bq (j + k + 1) (q + r) := by
  have e : q + r = ((q.num * r.den + r.num * q.den : Int) : Rat) / ((q.den * r.den : Int) : Rat) := by
    have h1 := rz (den_ne q)
    have h2 := rz (den_ne r)
    conv => lhs; rw [q_eq q, q_eq r]
    rw [Rat.intCast_add, Rat.intCast_mul, Rat.intCast_mul, Rat.intCast_mul]
    grind
  rw [e]
  have e1 : (q.num * (r.den : Int)).natAbs < 2 ^ (j + k) := by
    rw [Int.natAbs_mul]
    exact nat_mul_lt h1.1 h2.2
  have e2 : (r.num * (q.den : Int)).natAbs < 2 ^ (j + k) := by
    rw [Int.natAbs_mul, Nat.mul_comm]
    exact nat_mul_lt h1.2 h2.1
  have e3 : ((q.den : Int) * (r.den : Int)).natAbs < 2 ^ (j + k) := by
    rw [Int.natAbs_mul]
    exact nat_mul_lt h1.2 h2.2
  refine bq_low (Int.mul_ne_zero (den_ne q) (den_ne r)) ?_ ?_
  · rw [Nat.pow_succ]
    have := Int.natAbs_add_le (q.num * (r.den : Int)) (r.num * (q.den : Int))
    omega
  · rw [Nat.pow_succ]
    omega
theorem bq_mul {q r : Rat} {j k : Nat} (h1 : Bq j q) (h2 : Bq k r) : Bq (j + k) (q * r) := by
  have e : q * r = ((q.num * r.num : Int) : Rat) / ((q.den * r.den : Int) : Rat) := by
    have h1 := rz (den_ne q)
    have h2 := rz (den_ne r)
    conv => lhs; rw [q_eq q, q_eq r]
    rw [Rat.intCast_mul, Rat.intCast_mul]
    grind
  rw [e]
  refine bq_low (Int.mul_ne_zero (den_ne q) (den_ne r)) ?_ ?_
  · rw [Int.natAbs_mul]
    exact nat_mul_lt h1.1 h2.1
  · rw [Int.natAbs_mul]
    exact nat_mul_lt h1.2 h2.2
theorem bq_int {i : Int} {k : Nat} (h : i.natAbs < 2 ^ k) (h0 : 0 < k) : Bq k (i : Rat) := by
  refine ⟨by rw [Rat.num_intCast]; exact h, ?_⟩
  rw [Rat.den_intCast]
  exact Nat.one_lt_two_pow (by omega)
theorem bq_neg {q : Rat} {k : Nat} (h : Bq k q) : Bq k (-q) := by
  unfold Bq
  simp only [Rat.neg_num, Rat.neg_den, Int.natAbs_neg]
  exact h
theorem bq_inv {r : Rat} {k : Nat} (h : Bq k r) (z : r ≠ 0) : Bq k (r⁻¹) := by
  have e : r⁻¹ = (((r.den : Int) : Rat)) / ((r.num : Int) : Rat) := by
    have h2 := rz (den_ne r)
    have h3 := rz (num_ne z)
    conv => lhs; rw [q_eq r]
    grind
  rw [e]
  exact bq_low (num_ne z) h.2 h.1
/-! ### sums and products of lists -/
def rsum (qs : List Rat) : Rat := qs.foldl (fun a b => a + b) 0
def rprod (qs : List Rat) : Rat := qs.foldl (fun a b => a * b) 1
theorem foldl_add {qs : List Rat} {a : Rat} : qs.foldl (fun a b => a + b) a = a + rsum qs := by
  unfold rsum
  induction qs generalizing a with
  | nil => show a = a + 0; grind
  | cons q qs ih =>
    rw [List.foldl_cons, List.foldl_cons, ih, ih (a := 0 + q)]
    grind
theorem foldl_mul {qs : List Rat} {a : Rat} : qs.foldl (fun a b => a * b) a = a * rprod qs := by
  unfold rprod
  induction qs generalizing a with
  | nil => show a = a * 1; grind
  | cons q qs ih =>
    rw [List.foldl_cons, List.foldl_cons, ih, ih (a := 1 * q)]
    grind
theorem rsum_perm {xs ys : List Rat} (h : xs.Perm ys) : rsum xs = rsum ys := by
  induction h with
  | nil => rfl
  | cons x _ ih =>
    unfold rsum at *
    rw [List.foldl_cons, List.foldl_cons, foldl_add, foldl_add]
    unfold rsum
    rw [ih]
  | swap x y l =>
    unfold rsum
    rw [List.foldl_cons, List.foldl_cons, List.foldl_cons, List.foldl_cons, foldl_add, foldl_add]
    grind
  | trans _ _ h1 h2 => exact h1.trans h2
theorem rprod_perm {xs ys : List Rat} (h : xs.Perm ys) : rprod xs = rprod ys := by
  induction h with
  | nil => rfl
  | cons x _ ih =>
    unfold rprod at *
    rw [List.foldl_cons, List.foldl_cons, foldl_mul, foldl_mul]
    unfold rprod
    rw [ih]
  | swap x y l =>
    unfold rprod
    rw [List.foldl_cons, List.foldl_cons, List.foldl_cons, List.foldl_cons, foldl_mul, foldl_mul]
    grind
  | trans _ _ h1 h2 => exact h1.trans h2
theorem rsum_snoc {qs : List Rat} {q : Rat} : rsum (qs ++ [q]) = rsum qs + q := by
  unfold rsum
  rw [List.foldl_append]
  rfl
theorem rprod_snoc {qs : List Rat} {q : Rat} : rprod (qs ++ [q]) = rprod qs * q := by
  unfold rprod
  rw [List.foldl_append]
  rfl
theorem bq_rsum {k : Nat} : ∀ {qs : List Rat} (n : Nat), (∀ q ∈ qs, Bq k q) → Bq (1 + n * (k + 1)) (rsum (qs.take n)) := by
  intro qs n h
  induction n with
  | zero =>
    show Bq (1 + 0 * (k + 1)) ((0 : Int) : Rat)
    exact bq_int (by rw [Nat.zero_mul]; decide) (by omega)
  | succ n ih =>
    rw [List.take_add_one]
    cases e : qs[n]? with
    | none =>
      show Bq _ (rsum (qs.take n ++ []))
      rw [List.append_nil]
      exact ih.mono (by rw [Nat.succ_mul]; omega)
    | some q =>
      show Bq _ (rsum (qs.take n ++ [q]))
      rw [rsum_snoc]
      exact (bq_add ih (h q (List.mem_of_getElem? e))).mono (by rw [Nat.succ_mul]; omega)
theorem bq_rprod {k : Nat} : ∀ {qs : List Rat} (n : Nat), (∀ q ∈ qs, Bq k q) → Bq (1 + n * (k + 1)) (rprod (qs.take n)) := by
  intro qs n h
  induction n with
  | zero =>
    show Bq (1 + 0 * (k + 1)) ((1 : Int) : Rat)
    exact bq_int (by rw [Nat.zero_mul]; decide) (by omega)
  | succ n ih =>
    rw [List.take_add_one]
    cases e : qs[n]? with
    | none =>
      show Bq _ (rprod (qs.take n ++ []))
      rw [List.append_nil]
      exact ih.mono (by rw [Nat.succ_mul]; omega)
    | some q =>
      show Bq _ (rprod (qs.take n ++ [q]))
      rw [rprod_snoc]
      exact (bq_mul ih (h q (List.mem_of_getElem? e))).mono (by rw [Nat.succ_mul]; omega)

end K31



set_option Elab.async false
set_option linter.all false
set_option maxRecDepth 100000
set_option maxHeartbeats 4000000
namespace K31
open PySem PySem.Spec PyProof.Rows L2 Lw

section
variable {P : Program} {w : World} {K : PySem.W.Frag} {mg : Str → Option Value} {base : Heap} {f : Addr} {fd : FuncData} {fD fS fR : Addr} {fdD fdS fdR : FuncData}
/-- a number is an integer, or a tuple of its parts -/
theorem ofR_cases {H : Hp} {v : V} {q : Rat} (h : Dq K H v (ofR q)) : (v = .int q.num ∧ (q.den : Int) = 1 ∧ ofR q = .int q.num) ∨ (∃ t, v = .ref t ∧ SqT K H t [.int q.num, .int (q.den : Int)] ∧ ofR q = .tuple [.int q.num, .int (q.den : Int)] ∧ (q.den : Int) ≠ 1) := by
  by_cases z : q.den = 1
  · have e : ofR q = .int q.num := by unfold ofR; rw [if_pos z]
    rw [e] at h
    cases h
    exact .inl ⟨rfl, by omega, e⟩
  · have e : ofR q = .tuple [.int q.num, .int (q.den : Int)] := by unfold ofR; rw [if_neg z]
    rw [e] at h
    cases h with
    | tup hs hg =>
      cases hg with
      | cons a b =>
        cases b with
        | cons c d =>
          cases d
          cases a
          cases c
          exact .inr ⟨_, rfl, hs, e, by omega⟩
/-! ### worth -/
/-- the numbers that the law draws: great integers, or fractions of small parts -/
structure Bw (q : Rat) : Prop where
  big : Bq 97 q
  two : q.den = 1 ∨ Bq 40 q
theorem bw_int {i : Int} (h : i.natAbs < 2 ^ 97) : Bw (i : Rat) := ⟨bq_int h (by decide), .inl (Rat.den_intCast i)⟩
theorem bw_low {n d : Int} (h : d ≠ 0) (h1 : n.natAbs < 2 ^ 40) (h2 : d.natAbs < 2 ^ 40) : Bw ((n : Rat) / (d : Rat)) := ⟨(bq_low h h1 h2).mono (by decide), .inr (bq_low h h1 h2)⟩
theorem bw_one {n : Int} (h : n.natAbs < 2 ^ 97) : Bw ((n : Rat) / ((1 : Int) : Rat)) := by
  have e : (n : Rat) / ((1 : Int) : Rat) = (n : Rat) := by
    have : ((1 : Int) : Rat) = 1 := rfl
    rw [this]
    grind
  rw [e]
  exact bw_int h
def sp_worth (K : PySem.W.Frag) : Sp := fun vs H Q _ => ∃ a : Addr, vs = [.ref a] ∧ PotAt H a ∧ ∀ v q H', Bw q → Dq K (off H' a) v (ofR q) → PotAt H' a → Off a H H' → Q v H'
theorem dq_int {H : Hp} {i : Int} : Dq K H (.int i) (ofR (i : Rat)) := by
  rw [ofR_int]
  exact .int i
theorem ok_worth (F : FnP K "_law_worth" s_worth f fd) (T : Tz mg) (O_draw : Own P w K mg base CX0 1 "_law_draw" ["_law_pot_here", "_law_many"] sp_draw fD fdD) (O_ratio : Own P w K mg base CX0 2 "_law_ratio" ["_law_top", "_law_low"] (sp_lowest K) fR fdR) :
    FnOk P w K mg base CX0 3 f fd ["_law_pot_here"] (sp_worth K) := by
  refine F.ok sc_worth (fun vs H Q E h => ?_) (fun cdv A outer s H vs Q E hr h => ?_)
  · obtain ⟨a, rfl, _⟩ := h
    rfl
  · obtain ⟨a, rfl, hp, qq⟩ := h
    refine ⟨_, PSs.nox (pss_cons (ps_par (i := 1) (j := 2) (by rfl) sc_worth.nd rfl rfl (by decide) rfl rfl (pa_cons (pe_own O_draw (hr.mono (by first | decide | omega)) (pa_cons (pv 0) (pa_cons pe_int pa_nil))) (pa_cons (pe_op op_sub (pe_own O_draw (hr.mono (by first | decide | omega)) (pa_cons (pv 0) (pa_cons (pe_op op_pow pe_int pe_int) pa_nil))) (pe_op op_mulX pe_int (pe_op op_pow pe_int pe_int))) pa_nil)) (by rfl))
      (pss_cons (ps_if (pt_cmpR op_lt (pv 1) pe_int (nomark _)) (pss_one (ps_ret (pe_ix ix_list (pe_lst (pa_cons pe_int (pa_cons pe_int (pa_cons (pe_un un_neg pe_int) (pa_cons (pe_tup (pa_cons pe_int (pa_cons pe_int pa_nil))) (pa_cons pe_int pa_nil)))))) (pv 1) (fun _ _ => rfl)))) pss_nil)
      (pss_one (ps_ret (pe_own O_ratio (hr.mono (by first | decide | omega)) (pa_cons (pe_ix ix_list (pe_lst (pa_cons (pe_op op_sub (pe_op op_mod (pv 2) pe_int) pe_int) (pa_cons (pv 2) (pa_cons (pe_op op_add (pe_op op_mulX (pv 2) (pe_op op_pow pe_int pe_int)) pe_int) pa_nil)))) (pe_op op_sub (pv 1) pe_int) (fun _ _ => rfl)) (pa_cons (pe_ix ix_list (pe_lst (pa_cons (pe_op op_add pe_int (pe_op op_mod (pv 2) pe_int)) (pa_cons (pe_op op_add pe_int (pe_op op_mod (pv 2) pe_int)) (pa_cons pe_int pa_nil)))) (pe_op op_sub (pv 1) pe_int) (fun _ _ => rfl)) pa_nil))))))), ?_⟩
    refine ⟨.ref a, rfl, a, 8, rfl, hp, by decide, by decide, fun wy H1 w0 w1 p1 o1 => ?_⟩
    refine ⟨.ref a, rfl, 10, 12, rfl, rfl, ⟨by decide, by decide, by decide⟩, a, 10 ^ 12, rfl, p1, by decide, by decide, fun tp H2 t0 t1 p2 o2 => ?_⟩
    have t2 : (tp - 5 * 10 ^ 11).natAbs < 2 ^ 40 := by
      have e1 : tp < 1000000000000 := t1
      omega
    refine ⟨_, _, rfl, rfl, ⟨by decide, by decide, by decide⟩, _, _, rfl, rfl, mulx_ok (a := 3) (b := 40) (by decide) (by decide +kernel) (by decide), _, _, rfl, rfl, _, _, rfl, ?_⟩
    have o12 := o1.trans o2
    change tSeq _ _ _ [some (.ref a), some (.int wy), some (.int (tp - 5 * 10 ^ 11))] H2
    generalize tp - 5 * 10 ^ 11 = top at t2 ⊢
    refine ⟨.int wy, rfl, _, _, rfl, rfl, _, rfl, ite2 (fun e => ?_) (fun e => ?_)⟩
    · have wl : wy < 5 := of_decide_eq_true e
      refine ⟨_, rfl, by show 2 ≤ sizeLine; decide, fun t nt => ⟨by show 5 ≤ sizeLine; decide, fun l nl => ?_⟩⟩
      have p3 := p2.new (o := .tup [.int 1, .int 2]) nt
      have p4 := p3.new (o := .lst [.int 0, .int 1, .int (-2), .ref t, .int 10]) nl
      obtain ⟨v, hv, _, ev⟩ := at_in (xs := ([.int 0, .int 1, .int (-2), .ref t, .int 10] : List V)) w0 wl
      refine ⟨.int wy, rfl, l, _, wy, v, rfl, rfl, .inl (.inl upd_same), ev, ?_⟩
      have oo := (o12.trans (Off.new (o := .tup [.int 1, .int 2]) nt)).trans (Off.new (o := .lst [.int 0, .int 1, .int (-2), .ref t, .int 10]) nl)
      have ta : t ≠ a := p2.ne nt
      have tl : t ≠ l := fun z => by
        rw [← z, upd_same] at nl
        cases nl
      simp only [List.mem_cons, List.not_mem_nil, or_false] at hv
      rcases hv with rfl | rfl | rfl | rfl | rfl
      · exact qq _ ((0 : Int) : Rat) _ (bw_int (by decide)) dq_int p4 oo
      · exact qq _ ((1 : Int) : Rat) _ (bw_int (by decide +kernel)) dq_int p4 oo
      · exact qq _ ((-2 : Int) : Rat) _ (bw_int (by decide +kernel)) dq_int p4 oo
      · refine qq _ (((1 : Int) : Rat) / ((2 : Int) : Rat)) _ (bw_low (by decide) (by decide +kernel) (by decide +kernel)) ?_ p4 oo
        rw [ofR_div (by decide) (by decide), if_neg (by decide)]
        refine .tup (.inl (.inl ?_)) (.cons (.int 1) (.cons (.int 2) .nil))
        rw [off_ne ta, upd_ne tl, upd_same]
      · exact qq _ ((10 : Int) : Rat) _ (bw_int (by decide +kernel)) dq_int p4 oo
    · have wl : ¬ wy < 5 := fun z => e (decide_eq_true z)
      refine ⟨.int top, rfl, _, _, rfl, rfl, pos_c (by decide), _, _, rfl, rfl, .int top, rfl, .int top, rfl, _, _, rfl, rfl, ⟨by decide, by decide, by decide⟩, _, _, rfl, rfl, mulx_ok (a := 40) (b := 57) t2 (by decide +kernel) (by decide), _, _, rfl, rfl, by show 3 ≤ sizeLine; decide, fun l1 n1 => ?_⟩
      obtain ⟨vn, hn, _, en⟩ := at_in (xs := ([.int (top % 41 - 20), .int top, .int (top * 10 ^ 17 + 1)] : List V)) (i := wy - 5) (by omega) (show wy - 5 < 3 by omega)
      obtain ⟨vd, hd, _, ed⟩ := at_in (xs := ([.int (1 + top % 7), .int (1 + top % 999983), .int 1] : List V)) (i := wy - 5) (by omega) (show wy - 5 < 3 by omega)
      refine ⟨.int wy, rfl, _, _, rfl, rfl, l1, _, wy - 5, vn, rfl, rfl, .inl (.inl upd_same), en, ?_⟩
      refine ⟨.int top, rfl, _, _, rfl, rfl, pos_c (by decide), _, _, rfl, rfl, .int top, rfl, _, _, rfl, rfl, pos_c (by decide), _, _, rfl, rfl, by show 3 ≤ sizeLine; decide, fun l2 n2 => ?_⟩
      refine ⟨.int wy, rfl, _, _, rfl, rfl, l2, _, wy - 5, vd, rfl, rfl, .inl (.inl upd_same), ed, ?_⟩
      have oo := (o12.trans (Off.new (o := .lst [.int (top % 41 - 20), .int top, .int (top * 10 ^ 17 + 1)]) n1)).trans (Off.new (o := .lst [.int (1 + top % 7), .int (1 + top % 999983), .int 1]) n2)
      have p3 := (p2.new (o := .lst [.int (top % 41 - 20), .int top, .int (top * 10 ^ 17 + 1)]) n1).new (o := .lst [.int (1 + top % 7), .int (1 + top % 999983), .int 1]) n2
      have fin : ∃ n d : Int, vn = .int n ∧ vd = .int d ∧ 0 < d ∧ d.natAbs < 2 ^ 97 ∧ Bw ((n : Rat) / (d : Rat)) := by
        have w3 : wy = 5 ∨ wy = 6 ∨ wy = 7 := by omega
        rcases w3 with rfl | rfl | rfl
        · cases (show some (V.int (top % 41 - 20)) = some vn from en)
          cases (show some (V.int (1 + top % 7)) = some vd from ed)
          exact ⟨_, _, rfl, rfl, by omega, by omega, bw_low (by omega) (by omega) (by omega)⟩
        · cases (show some (V.int top) = some vn from en)
          cases (show some (V.int (1 + top % 999983)) = some vd from ed)
          exact ⟨_, _, rfl, rfl, by omega, by omega, bw_low (by omega) (by omega) (by omega)⟩
        · cases (show some (V.int (top * 10 ^ 17 + 1)) = some vn from en)
          cases (show some (V.int 1) = some vd from ed)
          exact ⟨_, _, rfl, rfl, by omega, by decide, bw_one (by omega)⟩
      obtain ⟨n, d, rfl, rfl, hd0, hd2, bw⟩ := fin
      refine ⟨n, d, rfl, by omega, Nat.lt_of_lt_of_le hd2 (by decide +kernel), fun v H' s' fr => ?_⟩
      rw [low_ofR (by omega)] at fr
      exact qq v _ H' bw (fr.away (pot_some p3)) (p3.same s') (oo.trans (Off.same s'))
end

section
variable {P : Program} {w : World} {K : PySem.W.Frag} {mg : Str → Option Value} {base : Heap} {f : Addr} {fd : FuncData} {fD : Addr} {fdD : FuncData} {fW : Addr} {fdW : FuncData}
theorem ok_word (F : FnP K "_law_word" s_word f fd) (T : Tz mg) (O_draw : Own P w K mg base CX0 1 "_law_draw" ["_law_pot_here", "_law_many"] sp_draw fD fdD) : FnOk P w K mg base CX0 2 f fd ["_law_pot_here", "_law_taken"] (sp_word K) := by
  refine F.ok sc_word (fun vs H Q E h => ?_) (fun cdv A outer s H vs Q E hr h => ?_)
  · obtain ⟨a, l, ns, rfl, _⟩ := h
    rfl
  · obtain ⟨a, l, ns, rfl, hp, hl, ln, q⟩ := h
    refine ⟨_, PSs.nox (pss_cons (ps_set (i := 2) sc_word.nd rfl (Or.inr rfl) pe_str)
      (pss_cons (ps_set (i := 3) sc_word.nd rfl (Or.inl rfl) (pe_join pe_str (pe_lc (own := [("_law_k", 5)]) (g := gName 5) (tt := tYes) rfl sc_word.nd (pi_range1 (by rfl) T.z_range (pa_cons (pe_ix ix_list (pe_lst (pa_cons pe_int (pa_cons pe_int (pa_cons pe_int (pa_cons pe_int pa_nil))))) (pe_own O_draw (hr.mono (by first | decide | omega)) (pa_cons (pv 0) (pa_cons pe_int pa_nil))) (fun _ _ => rfl)) pa_nil)) (blkOk_by (own := [("_law_k", 5)]) (N := N_word) (sc := defScope s_word) (by decide +kernel)) (fun _ _ _ _ _ => pg_name (i := 5) sc_word.nd rfl (Or.inl rfl)) (fun _ _ _ _ _ => pts_nil) (fun _ _ _ _ _ => (pe_ix ix_str (pv 2) (pe_own O_draw (hr.mono (by first | decide | omega)) (pa_cons (pv 0) (pa_cons pe_int pa_nil))) (fun _ _ => rfl))))))
      (pss_cons (ps_if (pt_cmpR op_in_seq (pv 3) (pv 1) (by with_unfolding_all rfl)) (pss_one (ps_set (i := 3) sc_word.nd rfl (Or.inl rfl) (pe_ix ix_list (pe_lc (own := [("_law_letter", 4)]) (g := gName 4) rfl sc_word.nd (pi_str (pv 2)) (blkOk_by (own := [("_law_letter", 4)]) (N := N_word) (sc := defScope s_word) (by decide +kernel)) (fun _ _ _ _ _ => pg_name (i := 4) sc_word.nd rfl (Or.inl rfl)) (fun _ _ _ _ _ => pts_one (pt_cmpR (show OpR _ _ (rIn K true) from op_notIn_seq) (pv 4) (pv 1) (by with_unfolding_all rfl))) (fun _ _ _ _ _ => (pv 4))) pe_int (fun _ _ => rfl)))) pss_nil)
      (pss_one (ps_ret (pv 3)))))), ?_⟩
    refine ⟨⟨_, rfl⟩, by show 4 ≤ sizeLine; decide, fun t nt => ⟨.ref a, rfl, a, 4, rfl, hp.new nt, by decide, by decide, fun r H1 r0 r1 p1 o1 => ?_⟩⟩
    obtain ⟨v, hv, _, ev⟩ := at_in (xs := [V.int 1, .int 1, .int 2, .int 8]) r0 r1
    have hi : ∃ i : Int, v = .int i ∧ 1 ≤ i ∧ i ≤ 8 := by
      simp only [List.mem_cons, List.not_mem_nil, or_false] at hv
      rcases hv with rfl | rfl | rfl | rfl
      · exact ⟨_, rfl, by decide, by decide⟩
      · exact ⟨_, rfl, by decide, by decide⟩
      · exact ⟨_, rfl, by decide, by decide⟩
      · exact ⟨_, rfl, by decide, by decide⟩
    obtain ⟨i, rfl, i0, i1⟩ := hi
    refine ⟨t, _, r, _, rfl, rfl, .inl (.inl (o1.get upd_same (hp.ne nt))), ev, i, rfl, by omega, by omega, fun D nD => ?_⟩
    have o1' : Off a H H1 := (Off.new nt).trans o1
    have nDa : D ≠ a := p1.ne nD
    refine lc_range (lo := 0) (n := i.toNat) (fun j H2 => PotAt H2 a ∧ Off a H1 H2 ∧ ∃ ys : List Str, H2 D = some (.lst (ys.map V.str)) ∧ ys.length = j ∧ ∀ y ∈ ys, ∃ c, c ∈ abc.cps.toList ∧ y = ⟨#[c]⟩) ⟨p1.put nDa, Off.refl.put nD, [], upd_same, rfl, fun y hy => nomatch hy⟩ ?_ ?_
    · rintro j H2 hj ⟨p2, o2, ys, e2, l2, b2⟩
      refine ⟨rfl, .str abc, rfl, .ref a, rfl, a, 26, rfl, p2, by decide, by decide, fun m H3 m0 m1 p3 o3 => ?_⟩
      obtain ⟨c, hc, _, ec⟩ := at_in (xs := abc.cps.toList) m0 (Int.lt_of_lt_of_le m1 (by decide +kernel))
      refine ⟨abc, m, c, rfl, rfl, by rw [abc_len]; decide, ec, ys.map V.str, o3.get e2 nDa, ?_, ?_⟩
      · rw [List.length_map, l2]
        exact small1000 (by omega)
      · refine ⟨p3.put nDa, (o2.trans o3).put nD, ys ++ [⟨#[c]⟩], ?_, by rw [List.length_append, l2]; rfl, fun y hy => ?_⟩
        · rw [upd_same, List.map_append]
          rfl
        · rcases List.mem_append.mp hy with hy | hy
          · exact b2 y hy
          · cases List.mem_singleton.mp hy
            exact ⟨c, hc, rfl⟩
    · rintro H2 ⟨p2, o2, ys, e2, l2, b2⟩
      refine ⟨"", D, ys, rfl, rfl, .inl (.inl (.inl e2)), ?_, ?_⟩
      · rw [sum_ones fun y hy => by
          obtain ⟨c, hc, rfl⟩ := b2 y hy
          exact one_sign (abc_bytes c hc)]
        show ys.length + ys.length * 0 ≤ 16777216
        omega
      · rw [TL.join_eq]
        have nj := name_join (ys := ys) (by omega) (by omega) b2
        revert nj
        generalize Str.join "" ys = wz
        intro nj
        have o3 := o1'.trans o2
        have hl2 : SqL K (off H2 a) l (ns.map V.str) := o3.seq hl
        refine ⟨_, rfl, .ref l, rfl, l, _, rfl, .inl (off_under.seq hl2), rfl, Lw.flat_strs _, _, rfl, ?_⟩
        rw [in_strs]
        by_cases hz : wz ∈ ns
        · rw [decide_eq_true hz]
          refine ⟨.str abc, rfl, abc, rfl, fun D2 nD2 => ?_⟩
          have nD2a : D2 ≠ a := p2.ne nD2
          refine lc_it walk_str (fun i H4 => PotAt H4 a ∧ Off a H2 H4 ∧ H4 D2 = some (.lst (((abc.cps.toList.take i).filter fun c => !(ns.contains (⟨#[c]⟩ : Str))).map fun c => V.str ⟨#[c]⟩))) ⟨p2.put nD2a, Off.refl.put nD2, upd_same⟩ (fun _ _ _ _ => trivial) ?_ ?_
          · rintro i x H4 H5 hi ⟨p4, o4, e4⟩ ⟨rfl, c, hc, rfl⟩
            refine ⟨rfl, _, rfl, .ref l, rfl, l, _, rfl, .inl (off_under.seq (o4.seq hl2)), rfl, Lw.flat_strs _, _, rfl, ?_⟩
            rw [in_strs]
            have et : abc.cps.toList.take (i + 1) = abc.cps.toList.take i ++ [c] := by
              rw [List.take_add_one, Array.getElem?_toList, hc]
              rfl
            by_cases hc2 : (⟨#[c]⟩ : Str) ∈ ns
            · rw [decide_eq_true hc2]
              refine ⟨p4, o4, ?_⟩
              rw [e4, et, List.filter_append]
              simp [hc2]
            · rw [decide_eq_false hc2]
              refine ⟨_, rfl, _, e4, ?_, p4.put nD2a, o4.put nD2, ?_⟩
              · rw [List.length_map]
                refine small1000 (Nat.le_trans (List.length_filter_le _ _) ?_)
                rw [List.length_take]
                have : abc.cps.toList.length = 26 := by decide +kernel
                omega
              · rw [upd_same, et, List.filter_append]
                simp [hc2]
          · rintro H4 ⟨p4, o4, e4⟩
            have et : abc.cps.toList.take abc.cps.size = abc.cps.toList := List.take_of_length_le (Nat.le_of_eq (Array.length_toList))
            rw [et] at e4
            cases ef : (abc.cps.toList.filter fun c => !(ns.contains (⟨#[c]⟩ : Str))) with
            | nil => exact absurd ef (letter_left ln)
            | cons c r =>
              rw [ef] at e4
              have hm : c ∈ (abc.cps.toList.filter fun c => !(ns.contains (⟨#[c]⟩ : Str))) := by
                rw [ef]
                exact List.mem_cons_self
              rw [List.mem_filter] at hm
              refine ⟨D2, _, 0, .str ⟨#[c]⟩, rfl, rfl, .inl (.inl e4), (show atI _ ((0 : Nat) : Int) = _ from atI_nat rfl), _, rfl, q _ H4 (ofc_sign hm.1) ?_ p4 (o3.trans o4)⟩
              intro hn
              have : ns.contains (⟨#[c]⟩ : Str) = true := by simpa using hn
              rw [this] at hm
              exact absurd hm.2 (by decide)
        · rw [decide_eq_false hz]
          exact ⟨_, rfl, q _ H2 nj hz p2 o3⟩
theorem ok_words (F : FnP K "_law_words" s_words f fd) (T : Tz mg) (O_word : Own P w K mg base CX0 2 "_law_word" ["_law_pot_here", "_law_taken"] (sp_word K) fW fdW) : FnOk P w K mg base CX0 3 f fd ["_law_pot_here", "_law_many"] sp_words := by
  refine F.ok sc_words (fun vs H Q E h => ?_) (fun cdv A outer s H vs Q E hr h => ?_)
  · obtain ⟨a, n, rfl, _⟩ := h
    rfl
  · obtain ⟨a, n, rfl, hp, hn, q⟩ := h
    refine ⟨_, PSs.nox (pss_cons (ps_set (i := 2) sc_words.nd rfl (Or.inl rfl) (pe_lst pa_nil))
      (pss_cons (ps_for PassesOwn.never rfl (pi_range1 (by rfl) T.z_range (pa_cons (pv 1) pa_nil)) (pg_name (i := 3) sc_words.nd rfl (Or.inl rfl)) (pss_one (ps_expr (pe_bm PySem.F.plainAttrs_list PySem.F.slot_list_append PySem.F.type_list_append mt_append (pv 2) (pa_cons (pe_own O_word (hr.mono (by first | decide | omega)) (pa_cons (pv 0) (pa_cons (pv 2) pa_nil))) pa_nil)))))
      (pss_one (ps_ret (pv 2))))), ?_⟩
    refine ⟨Nat.zero_le _, fun l nl => ⟨_, rfl, n, rfl, by omega, by omega, ?_⟩⟩
    have nla : l ≠ a := hp.ne nl
    refine for_range (lo := 0) (n := _) (fun i σ H1 => (∃ x, σ = [some (.ref a), some (.int n), some (.ref l), x]) ∧ PotAt H1 a ∧ Off a H H1 ∧ ∃ ns : List Str, H1 l = some (.lst (ns.map V.str)) ∧ ns.length = i ∧ ns.Nodup ∧ ∀ z ∈ ns, nameB z = true) ⟨⟨_, rfl⟩, hp.new nl, Off.new nl, [], upd_same, rfl, List.nodup_nil, fun z hz => nomatch hz⟩ ?_ ?_
    · rintro i σ H1 hi ⟨⟨x, rfl⟩, p1, o1, ns, e1, l1, nd, nm⟩
      refine ⟨.ref l, rfl, .inl ⟨rfl, _, .inl (.inl e1)⟩, .ref a, rfl, .ref l, rfl, a, l, ns, rfl, p1, .inl (.inl (by rw [off_ne nla]; exact e1)), by omega, fun z H2 hz1 hz2 p2 o2 => ?_⟩
      have e2 := o2.get e1 nla
      refine ⟨l, _, _, rfl, rfl, e2, ?_, ⟨_, rfl⟩, p2.put nla, (o1.trans o2).put nl, ns ++ [z], ?_, by rw [List.length_append, l1]; rfl, ?_, ?_⟩
      · rw [List.length_map]
        exact small1000 (by omega)
      · rw [upd_same, List.map_append]
        rfl
      · rw [List.nodup_append]
        refine ⟨nd, by simp, fun y hy y' hy' => ?_⟩
        cases List.mem_singleton.mp hy'
        exact fun e => hz2 (e ▸ hy)
      · intro y hy
        rcases List.mem_append.mp hy with hy | hy
        · exact nm y hy
        · cases List.mem_singleton.mp hy
          exact hz1
    · rintro σ H1 ⟨⟨x, rfl⟩, p1, o1, ns, e1, l1, nd, nm⟩
      exact ⟨.ref l, rfl, q l ns H1 (by omega) nd nm p1 o1 nl e1⟩
end

end K31



set_option Elab.async false
set_option linter.all false
set_option maxRecDepth 100000
set_option maxHeartbeats 4000000
namespace K31
open PySem PySem.Spec PyProof.Rows L2 Lw

theorem pss_no {X : Cx} {st : List Stmt} : PSs X st (fun _ _ _ => False) := ⟨fun _ _ _ _ _ _ h => h.elim⟩
def oA : List PyData := [.none, .int 0, .int 1, .int 2, .int 3, .int (-1), .bool true, .bool false, .str "", .str "A", .str "a b", .str "nineletter", .str "abcdefgh", .str "1", .str "z", .tuple [], .list [], .dict [], .tuple [.int 1, .int 2]]
def oB : List PyData := [.tuple [.int 2, .int 4], .tuple [.int 3, .int 1], .tuple [.int 1, .int 0], .tuple [.int 1, .int (-2)], .tuple [.bool true, .int 2], .tuple [.int 1, .int 2, .int 3], .tuple [.int (-7), .int 3], .tuple [.int 0, .int 2], .list [.int 1, .int 2], .list [.str "a"], .tuple [.str "a"]]
def oAll : List PyData := oA ++ oB ++ [.int (10 ^ 30)]
def sp_oddS (K : PySem.W.Frag) : Sp := fun vs H Q _ => ∃ a : Addr, vs = [.ref a] ∧ PotAt H a ∧ ∀ v d H', d ∈ oAll → Dq K (off H' a) v d → PotAt H' a → Off a H H' → Q v H'
section
variable {P : Program} {w : World} {K : PySem.W.Frag} {mg : Str → Option Value} {base : Heap} {f : Addr} {fd : FuncData} {fD : Addr} {fdD : FuncData}
theorem ok_odd (F : FnP K "_law_odd" s_odd f fd) (T : Tz mg) (O_draw : Own P w K mg base CX0 1 "_law_draw" ["_law_pot_here", "_law_many"] sp_draw fD fdD) : FnOk P w K mg base CX0 2 f fd ["_law_pot_here"] (sp_oddS K) := by
  refine F.ok sc_odd (fun vs H Q E h => ?_) (fun cdv A outer s H vs Q E hr h => ?_)
  · obtain ⟨a, rfl, _⟩ := h
    rfl
  · obtain ⟨a, rfl, hp, q⟩ := h
    refine ⟨_, PSs.nox (pss_cons (ps_set (i := 1) sc_odd.nd rfl (Or.inl rfl) (pe_lst (pa_cons pe_non (pa_cons pe_int (pa_cons pe_int (pa_cons pe_int (pa_cons pe_int (pa_cons (pe_un un_neg pe_int) (pa_cons pe_bl (pa_cons pe_bl (pa_cons pe_str (pa_cons pe_str (pa_cons pe_str (pa_cons pe_str (pa_cons pe_str (pa_cons pe_str (pa_cons pe_str (pa_cons (pe_tup pa_nil) (pa_cons (pe_lst pa_nil) (pa_cons pe_dnewK (pa_cons (pe_tup (pa_cons pe_int (pa_cons pe_int pa_nil))) pa_nil)))))))))))))))))))))
      (pss_cons (ps_set (i := 1) sc_odd.nd rfl (Or.inl rfl) (pe_op op_cat (pv 1) (pe_lst (pa_cons (pe_tup (pa_cons pe_int (pa_cons pe_int pa_nil))) (pa_cons (pe_tup (pa_cons pe_int (pa_cons pe_int pa_nil))) (pa_cons (pe_tup (pa_cons pe_int (pa_cons pe_int pa_nil))) (pa_cons (pe_tup (pa_cons pe_int (pa_cons (pe_un un_neg pe_int) pa_nil))) (pa_cons (pe_tup (pa_cons pe_bl (pa_cons pe_int pa_nil))) (pa_cons (pe_tup (pa_cons pe_int (pa_cons pe_int (pa_cons pe_int pa_nil)))) (pa_cons (pe_tup (pa_cons (pe_un un_neg pe_int) (pa_cons pe_int pa_nil))) (pa_cons (pe_tup (pa_cons pe_int (pa_cons pe_int pa_nil))) (pa_cons (pe_lst (pa_cons pe_int (pa_cons pe_int pa_nil))) (pa_cons (pe_lst (pa_cons pe_str pa_nil)) (pa_cons (pe_tup (pa_cons pe_str pa_nil)) pa_nil))))))))))))))
      (pss_cons (ps_expr (pe_bm PySem.F.plainAttrs_list PySem.F.slot_list_append PySem.F.type_list_append mt_append (pv 1) (pa_cons (pe_op op_pow pe_int pe_int) pa_nil)))
      (pss_one (ps_ret (pe_ix ix_list (pv 1) (pe_own O_draw (hr.mono (by first | decide | omega)) (pa_cons (pv 0) (pa_cons (pe_callB call_len_seq (by rfl) T.z_len (by decide +kernel) (pa_cons (pv 1) pa_nil)) pa_nil))) (fun _ _ => rfl))))))), ?_⟩
    refine s_lst (ds := oA) (K := K) ?m1 (by decide) fun v1 H1 t1 s1 l1 d1 n1 => ?_
    case m1 => exact .cons .non (.cons .int (.cons .int (.cons .int (.cons .int (.cons .neg (.cons .bl (.cons .bl (.cons .str (.cons .str (.cons .str (.cons .str (.cons .str (.cons .str (.cons .str (.cons (.tup .nil) (.cons (.lst .nil) (.cons .dict (.cons (.tup (.cons .int (.cons .int .nil))) .nil))))))))))))))))))
    have p1 := (hp.same s1).new (o := .lst v1) n1
    refine e_cat (ds := oB) (K := K) (t := t1) (xs := v1) ?m2 (by rw [l1]; decide) rfl upd_same fun v2 H2 t2 s2 l2 d2 n2 => ?_
    case m2 => exact .cons (.tup (.cons .int (.cons .int .nil))) (.cons (.tup (.cons .int (.cons .int .nil))) (.cons (.tup (.cons .int (.cons .int .nil))) (.cons (.tup (.cons .int (.cons .neg .nil))) (.cons (.tup (.cons .bl (.cons .int .nil))) (.cons (.tup (.cons .int (.cons .int (.cons .int .nil)))) (.cons (.tup (.cons .neg (.cons .int .nil))) (.cons (.tup (.cons .int (.cons .int .nil))) (.cons (.lst (.cons .int (.cons .int .nil))) (.cons (.lst (.cons .str .nil)) (.cons (.tup (.cons .str .nil)) .nil))))))))))
    have p2 := (p1.same s2).new (o := .lst (v1 ++ v2)) n2
    have e2 : (upd H2 t2 (.lst (v1 ++ v2))) t2 = some (.lst (v1 ++ v2)) := upd_same
    have l3 : (v1 ++ v2).length = 30 := by rw [List.length_append, l1, l2]; rfl
    refine ⟨.ref t2, rfl, .inl ⟨rfl, _, .inl (.inl e2)⟩, 10, 30, rfl, rfl, ⟨by decide, by decide, by decide⟩, t2, _, _, rfl, rfl, e2, by rw [l3]; decide, ?_⟩
    have nta : t2 ≠ a := (p1.same s2).ne n2
    have k3 : ∃ H3, H3 = upd (upd H2 t2 (.lst (v1 ++ v2))) t2 (.lst (v1 ++ v2 ++ [.int (10 ^ 30)])) ∧ PotAt H3 a ∧ Same H2 H3 ∧ H3 t2 = some (.lst (v1 ++ v2 ++ [.int (10 ^ 30)])) := by
      refine ⟨_, rfl, p2.put nta, fun b o e => ?_, upd_same⟩
      have nb := ne_of_none e n2
      rw [upd_ne nb, upd_ne nb]
      exact e
    obtain ⟨H3, eH3, p3, sC, e3⟩ := k3
    dsimp only
    rw [show (10 : Int) ^ (30 : Int).toNat = 10 ^ 30 from rfl, ← eH3]
    have sA : Same H1 H3 := ((same_upd n1).trans s2).trans sC
    have dd : DqAll K (off H3 a) (v1 ++ v2 ++ [.int (10 ^ 30)]) oAll :=
      dq_app (dq_app (DqAll.same (off_mono sA) (d1 a (pot_some hp))) (DqAll.same (off_mono sC) (d2 a (pot_some p1)))) (.cons (.int _) .nil)
    have ll : (v1 ++ v2 ++ [V.int (10 ^ 30)]).length = 31 := by rw [List.length_append, l3]; rfl
    refine ⟨.ref t2, rfl, .ref a, rfl, .ref t2, rfl, t2, _, rfl, .inl (.inl (.inl e3)), a, 31, ?_, p3, by decide, by decide, fun r H4 r0 r1 p6 o6 => ?_⟩
    · rw [ll]
      rfl
    obtain ⟨v, hv, _, ev⟩ := at_in (xs := v1 ++ v2 ++ [V.int (10 ^ 30)]) r0 (by rw [ll]; exact r1)
    obtain ⟨d, hd, dv⟩ := dq_at dd v hv
    refine ⟨t2, _, r, v, rfl, rfl, .inl (.inl (o6.get e3 nta)), ev, ?_⟩
    exact q v d H4 hd (Dq.same o6 dv) p6 ((Off.same (s1.trans sA)).trans o6)
end
end K31



set_option Elab.async false
set_option linter.all false
set_option maxRecDepth 100000
set_option maxHeartbeats 4000000
namespace K31
open PySem PySem.Spec PyProof.Rows L2 Lw

def sp_lines : Sp := fun vs H Q _ => ∃ (a : Addr) (n : Int), vs = [.ref a, .int n, .int 0] ∧ PotAt H a ∧ ∀ l H', PotAt H' a → Off a H H' → H l = none → H' l = some (.lst []) → Q (.ref l) H'
structure RowD (d : PyData) : Prop where
  ex : ∃ (g m : Int) (y z : Str) (q : Rat), d = .tuple [.int g, .int m, .str y, .str z, ofR q] ∧ g.natAbs < 10 ∧ m.natAbs < 2 ^ 200 ∧ nameB y = true ∧ nameB z = true ∧ Bw q
def sp_tell (K : PySem.W.Frag) : Sp := fun vs H Q _ => ∃ (a lb lf : Addr) (ns fs : List Str) (n : Nat), vs = [.ref a, .ref lb, .ref lf, .int n] ∧ PotAt H a ∧ SqL K (off H a) lb (ns.map V.str) ∧ SqL K (off H a) lf (fs.map V.str) ∧ 1 ≤ ns.length ∧ ns.length ≤ 20 ∧ 1 ≤ fs.length ∧ fs.length ≤ 20 ∧
  (∀ z ∈ ns, nameB z = true) ∧ (∀ z ∈ fs, nameB z = true) ∧ n ≤ 10 ∧ ∀ l xs ds H', PotAt H' a → Off a H H' → H l = none → H' l = some (.lst xs) → DqAll K (off (off H' a) l) xs ds → (∀ d ∈ ds, RowD d) → xs.length = n → Q (.ref l) H'
theorem sqT_nl {K : PySem.W.Frag} {H : Hp} {t l : Addr} {xs ys : List V} (h : SqT K H t xs) (p : H l = some (.lst ys)) : SqT K (off H l) t xs := by
  rcases h with (h | ⟨o, h⟩) | h
  · have n : t ≠ l := fun q => by
      rw [q, p] at h
      cases h
    exact .inl (.inl (by rw [off_ne n]; exact h))
  · have n : t ≠ l := fun q => by
      rw [q, p] at h
      cases h
    exact .inl (.inr ⟨o, by rw [off_ne n]; exact h⟩)
  · exact .inr h
theorem dq_nl {K : PySem.W.Frag} {H : Hp} {v : V} {q : Rat} {l : Addr} {ys : List V} (h : Dq K H v (ofR q)) (p : H l = some (.lst ys)) : Dq K (off H l) v (ofR q) := by
  rcases ofR_cases h with ⟨rfl, _, e⟩ | ⟨t, rfl, ht, e, _⟩
  · rw [e]
    exact .int _
  · rw [e]
    exact .tup (sqT_nl ht p) (.cons (.int _) (.cons (.int _) .nil))
section
variable {P : Program} {w : World} {K : PySem.W.Frag} {mg : Str → Option Value} {base : Heap} {f : Addr} {fd : FuncData} {fD fW : Addr} {fdD fdW : FuncData}
theorem ok_lines (F : FnP K "_law_lines" s_lines f fd) (T : Tz mg) (O_draw : Own P w K mg base CX0 1 "_law_draw" ["_law_pot_here", "_law_many"] sp_draw fD fdD) : FnOk P w K mg base CX0 2 f fd ["_law_pot_here", "_law_wide", "_law_many"] sp_lines := by
  refine F.ok sc_lines (fun vs H Q E h => ?_) (fun cdv A outer s H vs Q E hr h => ?_)
  · obtain ⟨a, n, rfl, _⟩ := h
    rfl
  · obtain ⟨a, n, rfl, hp, q⟩ := h
    refine ⟨_, PSs.nox (pss_cons (ps_set (i := 3) sc_lines.nd rfl (Or.inl rfl) (pe_lst pa_nil))
      (pss_cons (ps_for PassesOwn.never rfl (pi_range1 (by rfl) T.z_range (pa_cons (pe_own O_draw (hr.mono (by first | decide | omega)) (pa_cons (pv 0) (pa_cons (pe_op op_add (pv 2) pe_int) pa_nil))) pa_nil)) (pg_name (i := 4) sc_lines.nd rfl (Or.inr rfl)) pss_no)
      (pss_one (ps_ret (pv 3))))), ?_⟩
    refine ⟨Nat.zero_le _, fun l nl => ?_⟩
    have nla : l ≠ a := hp.ne nl
    refine ⟨.ref a, rfl, .int 0, rfl, _, _, rfl, rfl, a, 1, rfl, hp.new nl, by decide, by decide, fun r H1 r0 r1 p1 o1 => ⟨r, rfl, by omega, by omega, ?_⟩⟩
    have e0 : r = 0 := by omega
    subst e0
    have e1 := o1.get (upd_same (H := H) (a := l) (o := .lst [])) nla
    refine for_range (tb := fun _ _ _ => False) (lo := 0) (n := (0 : Int).toNat) (fun i σ H2 => σ = [some (.ref a), some (.int n), some (.int 0), some (.ref l), none, none, none, none, none, none, none, none] ∧ H2 = H1) ⟨rfl, rfl⟩ (fun i σ H2 hi => absurd hi (by show ¬ i < 0; omega)) ?_
    rintro σ H2 ⟨rfl, rfl⟩
    exact ⟨_, rfl, q l H2 p1 ((Off.new nl).trans o1) nl e1⟩
theorem ok_told (F : FnP K "_law_told" s_told f fd) (T : Tz mg) (O_draw : Own P w K mg base CX0 1 "_law_draw" ["_law_pot_here", "_law_many"] sp_draw fD fdD) (O_worth : Own P w K mg base CX0 3 "_law_worth" ["_law_pot_here"] (sp_worth K) fW fdW) :
    FnOk P w K mg base CX0 4 f fd ["_law_pot_here", "_law_labels", "_law_folk", "_law_many"] (sp_tell K) := by
  refine F.ok sc_told (fun vs H Q E h => ?_) (fun cdv A outer s H vs Q E hr h => ?_)
  · obtain ⟨a, lb, lf, ns, fs, n, rfl, _⟩ := h
    rfl
  · obtain ⟨a, lb, lf, ns, fs, n, rfl, hp, hb, hf, b1, b2, f1, f2, nmb, nmf, hn, q⟩ := h
    refine ⟨_, PSs.nox (pss_cons (ps_set (i := 4) sc_told.nd rfl (Or.inl rfl) (pe_lst pa_nil))
      (pss_cons (ps_for PassesOwn.never rfl (pi_range1 (by rfl) T.z_range (pa_cons (pv 3) pa_nil)) (pg_name (i := 5) sc_told.nd rfl (Or.inl rfl)) (pss_cons (ps_par (i := 6) (j := 7) (by rfl) sc_told.nd rfl rfl (by decide) rfl rfl (pa_cons (pe_ix ix_list (pe_lst (pa_cons pe_int (pa_cons pe_int (pa_cons pe_int (pa_cons pe_int (pa_cons pe_int (pa_cons pe_int pa_nil))))))) (pe_own O_draw (hr.mono (by first | decide | omega)) (pa_cons (pv 0) (pa_cons pe_int pa_nil))) (fun _ _ => rfl)) (pa_cons (pe_op op_add pe_int (pe_own O_draw (hr.mono (by first | decide | omega)) (pa_cons (pv 0) (pa_cons pe_int pa_nil)))) pa_nil)) (by rfl))
      (pss_cons (ps_set (i := 8) sc_told.nd rfl (Or.inl rfl) (pe_ix ix_list (pe_lst (pa_cons pe_int (pa_cons pe_int (pa_cons pe_int (pa_cons pe_int (pa_cons pe_int (pa_cons (pe_op op_pow pe_int pe_int) (pa_cons (pe_op op_pow pe_int pe_int) (pa_cons (pe_op op_pow pe_int pe_int) pa_nil))))))))) (pe_own O_draw (hr.mono (by first | decide | omega)) (pa_cons (pv 0) (pa_cons pe_int pa_nil))) (fun _ _ => rfl)))
      (pss_cons (ps_par (i := 9) (j := 10) (by rfl) sc_told.nd rfl rfl (by decide) rfl rfl (pa_cons (pe_ix ix_list (pv 2) (pe_own O_draw (hr.mono (by first | decide | omega)) (pa_cons (pv 0) (pa_cons (pe_callB call_len_seq (by rfl) T.z_len (by decide +kernel) (pa_cons (pv 2) pa_nil)) pa_nil))) (fun _ _ => rfl)) (pa_cons (pe_ix ix_list (pv 1) (pe_own O_draw (hr.mono (by first | decide | omega)) (pa_cons (pv 0) (pa_cons (pe_callB call_len_seq (by rfl) T.z_len (by decide +kernel) (pa_cons (pv 1) pa_nil)) pa_nil))) (fun _ _ => rfl)) pa_nil)) (by rfl))
      (pss_one (ps_expr (pe_bm PySem.F.plainAttrs_list PySem.F.slot_list_append PySem.F.type_list_append mt_append (pv 4) (pa_cons (pe_tup (pa_cons (pv 6) (pa_cons (pe_op op_add (pv 7) (pv 8)) (pa_cons (pv 9) (pa_cons (pv 10) (pa_cons (pe_own O_worth (hr.mono (by first | decide | omega)) (pa_cons (pv 0) pa_nil)) pa_nil)))))) pa_nil))))))))
      (pss_one (ps_ret (pv 4))))), ?_⟩
    refine ⟨Nat.zero_le _, fun l nl => ?_⟩
    have nla : l ≠ a := hp.ne nl
    refine ⟨.int n, rfl, n, rfl, by omega, by omega, ?_⟩
    refine for_range (lo := 0) (n := (n : Int).toNat) (fun i σ H2 => ∃ xs ds, (∃ y5 y6 y7 y8 y9 y10, σ = [some (.ref a), some (.ref lb), some (.ref lf), some (.int n), some (.ref l), y5, y6, y7, y8, y9, y10]) ∧ PotAt H2 a ∧ Off a H H2 ∧ H2 l = some (.lst xs) ∧ DqAll K (off (off H2 a) l) xs ds ∧ (∀ d ∈ ds, RowD d) ∧ xs.length = i) ?_ ?_ ?_
    · exact ⟨[], [], ⟨_, _, _, _, _, _, rfl⟩, hp.new nl, Off.new nl, upd_same, .nil, (fun _ z => nomatch z), rfl⟩
    · rintro i σ H2 hi ⟨xs, ds, ⟨y5, y6, y7, y8, y9, y10, rfl⟩, p2, o2, e2, g2, rw2, len2⟩
      have hi10 : i < 10 := by omega
      refine ⟨by show 6 ≤ sizeLine; decide, fun l1 nl1 => ?_⟩
      refine ⟨.ref a, rfl, a, 6, rfl, p2.new nl1, by decide, by decide, fun r1 H3 r10 r11 p3 o3 => ?_⟩
      obtain ⟨vg, hvg, _, evg⟩ := at_in (xs := ([.int 0, .int 0, .int 0, .int 0, .int 1, .int 2] : List V)) r10 r11
      refine ⟨l1, _, r1, vg, rfl, rfl, .inl (.inl (o3.get upd_same (p2.ne nl1))), evg, ?_⟩
      obtain ⟨g, rfl, hg⟩ : ∃ g : Int, vg = .int g ∧ g.natAbs < 10 := by
        simp only [List.mem_cons, List.not_mem_nil, or_false] at hvg
        rcases hvg with rfl | rfl | rfl | rfl | rfl | rfl <;> exact ⟨_, rfl, by decide⟩
      have o23 : Off a H2 H3 := (Off.new nl1).trans o3
      refine ⟨.ref a, rfl, a, 7, rfl, p3, by decide, by decide, fun r2 H4 r20 r21 p4 o4 => ⟨1, r2, rfl, rfl, _, _, rfl, ?_⟩⟩
      refine ⟨10, 9, rfl, rfl, ⟨by decide, by decide, by decide⟩, 10, 18, rfl, rfl, ⟨by decide, by decide, by decide⟩, 10, 40, rfl, rfl, ⟨by decide, by decide, by decide⟩, by show 8 ≤ sizeLine; decide, fun l2 nl2 => ?_⟩
      refine ⟨.ref a, rfl, a, 8, rfl, p4.new nl2, by decide, by decide, fun r3 H5 r30 r31 p5 o5 => ?_⟩
      obtain ⟨vf, hvf, _, evf⟩ := at_in (xs := ([.int 0, .int 0, .int 0, .int 0, .int 0, .int (10 ^ 9), .int (10 ^ 18), .int (10 ^ 40)] : List V)) r30 r31
      refine ⟨l2, _, r3, vf, rfl, rfl, .inl (.inl (o5.get upd_same (p4.ne nl2))), evf, ?_⟩
      obtain ⟨fr, rfl, hfr⟩ : ∃ fr : Int, vf = .int fr ∧ fr.natAbs < 2 ^ 190 := by
        simp only [List.mem_cons, List.not_mem_nil, or_false] at hvf
        rcases hvf with rfl | rfl | rfl | rfl | rfl | rfl | rfl | rfl <;> exact ⟨_, rfl, by decide +kernel⟩
      have oH5 : Off a H H5 := o2.trans (((o23.trans o4).trans (Off.new nl2)).trans o5)
      have lf5 : SqL K (off H5 a) lf (fs.map V.str) := Same.seq oH5 hf
      have lb5 : SqL K (off H5 a) lb (ns.map V.str) := Same.seq oH5 hb
      have e5 : H5 l = some (.lst xs) := (((o23.trans o4).trans (Off.new nl2)).trans o5).get e2 nla
      refine ⟨.ref lf, rfl, .ref a, rfl, .ref lf, rfl, lf, _, rfl, .inl (off_same.seq lf5), a, fs.length, by rw [List.length_map]; rfl, p5, by omega, by omega, fun r4 H6 r40 r41 p6 o6 => ?_⟩
      obtain ⟨vw, hvw, _, evw⟩ := at_in (xs := fs.map V.str) r40 (by rw [List.length_map]; exact r41)
      refine ⟨lf, _, r4, vw, rfl, rfl, off_same.seq (Same.seq o6 lf5), evw, ?_⟩
      obtain ⟨y, hy, rfl⟩ := List.mem_map.mp hvw
      have lb6 : SqL K (off H6 a) lb (ns.map V.str) := Same.seq o6 lb5
      refine ⟨.ref lb, rfl, .ref a, rfl, .ref lb, rfl, lb, _, rfl, .inl (off_same.seq lb6), a, ns.length, by rw [List.length_map]; rfl, p6, by omega, by omega, fun r5 H7 r50 r51 p7 o7 => ?_⟩
      obtain ⟨vl, hvl, _, evl⟩ := at_in (xs := ns.map V.str) r50 (by rw [List.length_map]; exact r51)
      refine ⟨lb, _, r5, vl, rfl, rfl, off_same.seq (Same.seq o7 lb6), evl, _, _, rfl, ?_⟩
      obtain ⟨z, hz, rfl⟩ := List.mem_map.mp hvl
      have o57 := o6.trans o7
      have e7 : H7 l = some (.lst xs) := o57.get e5 nla
      have g7 : DqAll K (off (off H7 a) l) xs ds := DqAll.same (off_mono ((((o23.trans o4).trans (Off.new nl2)).trans o5).trans o57)) g2
      refine ⟨.ref l, rfl, .inl ⟨rfl, _, .inl (.inl e7)⟩, .int g, rfl, _, rfl, _, rfl, _, _, rfl, rfl, .str y, rfl, .str z, rfl, .ref a, rfl, a, rfl, p7, fun v q8 H8 bw dv p8 o8 => ⟨by show 5 ≤ sizeLine; decide, fun t nt => ?_⟩⟩
      have e8 : H8 l = some (.lst xs) := o8.get e7 nla
      have ntl : t ≠ l := fun z => by
        rw [z, e8] at nt
        cases nt
      have nta : t ≠ a := p8.ne nt
      refine ⟨l, _, _, rfl, rfl, by rw [upd_ne ntl.symm]; exact e8, by rw [len2]; exact small1000 (by omega), ?_⟩
      have oH8 : Off a H H8 := (oH5.trans o57).trans o8
      have eoff : ∀ (X : Hp) (o : HO), off (off (upd X l o) a) l = off (off X a) l := fun X o => by rw [off_swap, off_put, off_swap]
      have g9 : DqAll K (off (off (upd H8 t (.tup [.int g, .int (1 + r2 + fr), .str y, .str z, v])) a) l) (xs ++ [.ref t]) (ds ++ [.tuple [.int g, .int (1 + r2 + fr), .str y, .str z, ofR q8]]) := by
        have s9 : Same H8 (upd H8 t (.tup [.int g, .int (1 + r2 + fr), .str y, .str z, v])) := same_upd nt
        refine dq_app (DqAll.same ((off_mono o8).trans (off_mono (off_mono s9))) g7) (.cons (.tup (xs := [.int g, .int (1 + r2 + fr), .str y, .str z, v]) (.inl (.inl ?_)) (.cons (.int _) (.cons (.int _) (.cons (.str _) (.cons (.str _) (.cons ?_ .nil)))))) .nil)
        · rw [off_ne ntl, off_ne nta, upd_same]
        · refine dq_nl (ys := xs) (dv.same (off_mono s9)) ?_
          rw [off_ne nla, upd_ne ntl.symm]
          exact e8
      refine ⟨_, _, ⟨_, _, _, _, _, _, rfl⟩, (p8.new nt).put nla, (oH8.trans (Off.new nt)).put nl, upd_same, by rw [eoff]; exact g9, fun d hd => ?_, by rw [List.length_append, len2]; rfl⟩
      rcases List.mem_append.mp hd with h | h
      · exact rw2 d h
      · cases List.mem_singleton.mp h
        exact ⟨_, _, _, _, _, rfl, hg, by omega, nmf y hy, nmb z hz, bw⟩
    · rintro σ H2 ⟨xs, ds, ⟨y5, y6, y7, y8, y9, y10, rfl⟩, p2, o2, e2, g2, rw2, len2⟩
      exact ⟨_, rfl, q l xs ds H2 p2 o2 nl e2 g2 rw2 (by omega)⟩
end
end K31



set_option Elab.async false
set_option linter.all false
set_option maxRecDepth 100000
set_option maxHeartbeats 4000000
namespace K31
open PySem PySem.Spec PyProof.Rows L2 Lw

structure PartD (d : PyData) : Prop where
  s : Short d
  l : Lean_ d
  sm : Small 6000 d
  dp : d.depth ≤ 4
structure ThingD (d : PyData) : Prop where
  o : OkT d
  sm : Small 95000 d
theorem th_tup {ds : List PyData} (h : ∀ d ∈ ds, PartD d) (hl : ds.length ≤ 15) : ThingD (.tuple ds) := by
  refine ⟨fun es he => ?_, (small_tupN (n := 6000) fun d hd => ⟨(h d hd).sm, Nat.le_trans (h d hd).dp (by decide)⟩).mono (by omega)⟩
  cases he
  exact ⟨by omega, fun x hx => ⟨(h x hx).s, (h x hx).l⟩⟩
theorem th_list {ds : List PyData} (h : ∀ d ∈ ds, PartD d) (hl : ds.length ≤ 15) : ThingD (.list ds) := by
  refine ⟨fun es he => (by cases he), (small_list (n := 6000) fun d hd => ⟨(h d hd).sm, Nat.le_trans (h d hd).dp (by decide)⟩).mono (by omega)⟩
theorem part_odd : ∀ d ∈ oAll, PartD d ∧ OkT d := by
  intro d hd
  simp only [oAll, oA, oB, List.cons_append, List.nil_append, List.mem_cons, List.not_mem_nil, or_false] at hd
  rcases hd with rfl | rfl | rfl | rfl | rfl | rfl | rfl | rfl | rfl | rfl | rfl | rfl | rfl | rfl | rfl | rfl | rfl | rfl | rfl | rfl | rfl | rfl | rfl | rfl | rfl | rfl | rfl | rfl | rfl | rfl | rfl
  all_goals
    refine ⟨⟨fun z hz => ?_, fun z hz => ?_, ⟨by decide +kernel, by decide +kernel, by decide +kernel⟩, by decide +kernel⟩, fun z hz => ?_⟩
    all_goals first
      | exact PyData.noConfusion hz
      | (cases hz; decide +kernel)
      | (cases hz; refine ⟨by decide, fun x hx => ⟨fun y hy => ?_, fun y hy => ?_⟩⟩ <;> (subst hy; simp at hx; try (first | (subst hx; decide +kernel))))
theorem thing_odd {d : PyData} (h : d ∈ oAll) : ThingD d := ⟨(part_odd d h).2, (part_odd d h).1.sm.mono (by decide)⟩
theorem slA_any {K : PySem.W.Frag} {H : Hp} {a : Addr} {xs : List V} {lo hi : Option Int} {Q : VK} (h : SqT K H a xs) (q : ∀ b H', Same H H' → SqT K H' b (cutV xs lo hi) → Q (.ref b) H') : rSlA K (.ref a) lo hi H Q := by
  refine ⟨a, xs, rfl, h, fun e => ?_, fun _ p np => q p _ (same_upd np) (.inl (.inl upd_same))⟩
  refine q a H (Same.refl H) ?_
  have : cutV xs lo hi = xs := by
    unfold cutV
    rw [e.1, e.2]
    simp
  rw [this]
  exact h
theorem catA_any {K : PySem.W.Frag} {H : Hp} {a b : Addr} {xs ys : List V} {Q : VK} (h : SqT K H a xs) (g : SqT K H b ys) (hl : xs.length + ys.length ≤ 1000) (q : ∀ c H', Same H H' → SqT K H' c (xs ++ ys) → Q (.ref c) H') : rCatA K (.ref a) (.ref b) H Q := by
  refine ⟨a, b, xs, ys, rfl, rfl, h, g, Nat.le_of_lt (small1000 hl), fun e => ?_, fun _ e => ?_, fun _ _ p np => q p _ (same_upd np) (.inl (.inl upd_same))⟩
  · subst e
    exact q b H (Same.refl H) g
  · subst e
    exact q a H (Same.refl H) (by rw [List.append_nil]; exact h)
theorem dq_cut {K : PySem.W.Frag} {H : Hp} {xs : List V} {ds : List PyData} (g : DqAll K H xs ds) (lo hi : Option Int) : ∃ es, DqAll K H (cutV xs lo hi) es ∧ (∀ d ∈ es, d ∈ ds) ∧ es.length ≤ ds.length := by
  refine ⟨_, dq_take (dq_drop g), fun d hd => List.mem_of_mem_drop (List.mem_of_mem_take hd), ?_⟩
  rw [List.length_take, List.length_drop]
  omega
theorem dq_rev {K : PySem.W.Frag} {H : Hp} : ∀ {vs : List V} {ds : List PyData}, DqAll K H vs ds → DqAll K H vs.reverse ds.reverse
  | _, _, .nil => .nil
  | _, _, .cons h g => by
    rw [List.reverse_cons, List.reverse_cons]
    exact dq_app (dq_rev g) (.cons h .nil)
def sp_spoil (K : PySem.W.Frag) : Sp := fun vs H Q _ => ∃ (a t : Addr) (xs : List V) (ds : List PyData), vs = [.ref a, .ref t] ∧ PotAt H a ∧ SqT K H t xs ∧ DqAll K (off H a) xs ds ∧ ds.length = 5 ∧ (∀ d ∈ ds, PartD d) ∧ ∀ v d H', PotAt H' a → Off a H H' → Dq K (off H' a) v d → ThingD d → Q v H'
section
variable {P : Program} {w : World} {K : PySem.W.Frag} {mg : Str → Option Value} {base : Heap} {f : Addr} {fd : FuncData} {fD fO : Addr} {fdD fdO : FuncData}
theorem ok_spoilt (F : FnP K "_law_spoilt" s_spoilt f fd) (T : Tz mg) (O_draw : Own P w K mg base CX0 1 "_law_draw" ["_law_pot_here", "_law_many"] sp_draw fD fdD) (O_odd : Own P w K mg base CX0 2 "_law_odd" ["_law_pot_here"] (sp_oddS K) fO fdO) :
    FnOk P w K mg base CX0 3 f fd ["_law_pot_here", "_law_row"] (sp_spoil K) := by
  refine F.ok sc_spoilt (fun vs H Q E h => ?_) (fun cdv A outer s H vs Q E hr h => ?_)
  · obtain ⟨a, t, xs, ds, rfl, _⟩ := h
    rfl
  · obtain ⟨a, t, xs, ds, rfl, hp, ht, hg, l5, hpd, q⟩ := h
    refine ⟨_, PSs.nox (pss_cons (ps_par3 (i := 2) (j := 3) (l := 4) (by rfl) sc_spoilt.nd rfl rfl rfl (by decide) (by decide) (by decide) rfl rfl rfl (pa_cons (pe_own O_draw (hr.mono (by first | decide | omega)) (pa_cons (pv 0) (pa_cons pe_int pa_nil))) (pa_cons (pe_own O_draw (hr.mono (by first | decide | omega)) (pa_cons (pv 0) (pa_cons pe_int pa_nil))) (pa_cons (pe_own O_odd (hr.mono (by first | decide | omega)) (pa_cons (pv 0) pa_nil)) pa_nil))) (by rfl))
      (pss_cons (ps_if (pt_cmpR op_lt (pv 3) pe_int (nomark _)) (pss_one (ps_ret (pe_op op_catA (pe_op op_catA (pe_slice sl_tupA (pv 1) po_none (po_some (pv 2))) (pe_tup (pa_cons (pv 4) pa_nil))) (pe_slice sl_tupA (pv 1) (po_some (pe_op op_add (pv 2) pe_int)) po_none)))) pss_nil)
      (pss_cons (ps_if (pt_cmpR op_eq (pv 3) pe_int (nomark _)) (pss_one (ps_ret (pe_ix ix_list (pe_lst (pa_cons (pe_op op_catA (pe_slice sl_tupA (pv 1) po_none (po_some (pv 2))) (pe_slice sl_tupA (pv 1) (po_some (pe_op op_add (pv 2) pe_int)) po_none)) (pa_cons (pe_op op_catA (pe_op op_catA (pe_slice sl_tupA (pv 1) po_none (po_some (pv 2))) (pe_slice sl_tupA (pv 1) (po_some (pv 2)) (po_some (pe_op op_add (pv 2) pe_int)))) (pe_slice sl_tupA (pv 1) (po_some (pv 2)) po_none)) pa_nil))) (pe_own O_draw (hr.mono (by first | decide | omega)) (pa_cons (pv 0) (pa_cons pe_int pa_nil))) (fun _ _ => rfl)))) pss_nil)
      (pss_one (ps_ret (pe_ix ix_list (pe_lst (pa_cons (pe_callTy call_list_of (by rfl) T.z_list (by decide +kernel) (pa_cons (pv 1) pa_nil)) (pa_cons (pv 4) (pa_cons (pe_tup (pa_cons (pv 1) pa_nil)) (pa_cons (pe_revT (pv 1)) (pa_cons (pe_op op_catA (pv 1) (pe_tup (pa_cons (pv 4) pa_nil))) pa_nil)))))) (pe_own O_draw (hr.mono (by first | decide | omega)) (pa_cons (pv 0) (pa_cons pe_int pa_nil))) (fun _ _ => rfl))))))), ?_⟩
    refine ⟨.ref a, rfl, a, 5, rfl, hp, by decide, by decide, fun at_ H1 a0 a1 p1 o1 => ?_⟩
    refine ⟨.ref a, rfl, a, 8, rfl, p1, by decide, by decide, fun wy H2 w0 w1 p2 o2 => ?_⟩
    refine ⟨.ref a, rfl, a, rfl, p2, fun vo do_ H3 hdo dvo p3 o3 => ?_⟩
    obtain ⟨k, rfl⟩ : ∃ k : Nat, at_ = (k : Int) := ⟨at_.toNat, by omega⟩
    have oo : Off a H H3 := (o1.trans o2).trans o3
    have g3 : DqAll K (off H3 a) xs ds := DqAll.same oo hg
    have t0 : SqT K (off H a) t xs := sqT_ne ht hp
    have t3 : SqT K H3 t xs := same_t off_same (same_t oo t0)
    have le := dq_len g3
    have odd := (part_odd do_ hdo).1
    have fin : ∀ {c : Addr} {ys : List V} {es : List PyData} {H' : Hp}, Same H3 H' → SqT K H' c ys → DqAll K (off H3 a) ys es → (∀ d ∈ es, PartD d) → es.length ≤ 15 → Q (.ref c) H' := fun {c ys es H'} s' hc hy he hl =>
      q _ (.tuple es) H' (p3.same s') (oo.trans (Off.same s')) (.tup (sqT_ne hc (p3.same s')) (DqAll.same (off_mono s') hy)) (th_tup he hl)
    refine ⟨_, _, _, rfl, ?_⟩
    refine ⟨.int wy, rfl, _, _, rfl, rfl, _, rfl, ite2 (fun e => ?_) (fun e => ?_)⟩
    · obtain ⟨e1, g1, m1, n1⟩ := dq_cut g3 none (some (k : Int))
      obtain ⟨e2, g2, m2, n2⟩ := dq_cut g3 (some ((k : Int) + 1)) none
      have c1 := fun {X : VK} (z : ∀ b H', Same H3 H' → SqT K H' b (cutV xs none (some (k : Int))) → X (.ref b) H') => slA_any (lo := none) (hi := some (k : Int)) t3 z
      have lc1 : (cutV xs none (some (k : Int))).length ≤ 5 := by rw [dq_len g1]; omega
      have lc2 : (cutV xs (some ((k : Int) + 1)) none).length ≤ 5 := by rw [dq_len g2]; omega
      refine ⟨.ref t, rfl, .int k, rfl, k, rfl, c1 fun b1 H4 s4 c1 => ?_⟩
      refine ⟨vo, rfl, by show 1 ≤ sizeLine; decide, fun b2 n2' => ?_⟩
      have s5 : Same H4 (upd H4 b2 (.tup [vo])) := same_upd n2'
      have c2 : SqT K (upd H4 b2 (.tup [vo])) b2 [vo] := .inl (.inl upd_same)
      revert s5 c2
      generalize upd H4 b2 (.tup [vo]) = H5
      intro s5 c2
      refine catA_any (same_t s5 c1) c2 (by show _ + 1 ≤ 1000; omega) fun b3 H6 s6 c3 => ?_
      have s36 := (s4.trans s5).trans s6
      refine ⟨.ref t, rfl, .int k, rfl, _, _, rfl, rfl, (k : Int) + 1, rfl, ?_⟩
      dsimp only [tNoPart]
      refine slA_any (same_t s36 t3) fun b4 H7 s7 c4 => ?_
      refine catA_any (same_t s7 c3) c4 (by rw [List.length_append]; show _ + 1 + _ ≤ 1000; omega) fun b5 H8 s8 c5 => ?_
      refine fin ((s36.trans s7).trans s8) c5 (dq_app (dq_app g1 (.cons dvo .nil)) g2) (fun d hd => ?_) ?_
      · rcases List.mem_append.mp hd with h | h
        · rcases List.mem_append.mp h with h | h
          · exact hpd d (m1 d h)
          · cases List.mem_singleton.mp h
            exact odd
        · exact hpd d (m2 d h)
      · rw [List.length_append, List.length_append]
        show _ + 1 + _ ≤ 15
        omega
    · refine ⟨.int wy, rfl, rfl, _, rfl, ite2 (fun e5 => ?_) (fun e5 => ?_)⟩
      · obtain ⟨e1, g1, m1, n1⟩ := dq_cut g3 none (some (k : Int))
        obtain ⟨e2, g2, m2, n2⟩ := dq_cut g3 (some ((k : Int) + 1)) none
        obtain ⟨e3, g3', m3, n3⟩ := dq_cut g3 (some (k : Int)) (some ((k : Int) + 1))
        obtain ⟨e4, g4, m4, n4⟩ := dq_cut g3 (some (k : Int)) none
        have lc1 : (cutV xs none (some (k : Int))).length ≤ 5 := by rw [dq_len g1]; omega
        have lc2 : (cutV xs (some ((k : Int) + 1)) none).length ≤ 5 := by rw [dq_len g2]; omega
        have lc3 : (cutV xs (some (k : Int)) (some ((k : Int) + 1))).length ≤ 5 := by rw [dq_len g3']; omega
        have lc4 : (cutV xs (some (k : Int)) none).length ≤ 5 := by rw [dq_len g4]; omega
        refine ⟨.ref t, rfl, .int k, rfl, k, rfl, ?_⟩
        refine slA_any t3 fun b1 H4 s4 c1 => ?_
        refine ⟨.ref t, rfl, .int k, rfl, _, _, rfl, rfl, (k : Int) + 1, rfl, ?_⟩
        dsimp only [tNoPart]
        refine slA_any (same_t s4 t3) fun b2 H5 s5 c2 => ?_
        refine catA_any (same_t s5 c1) c2 (by omega) fun b3 H6 s6 c3 => ?_
        have s36 := (s4.trans s5).trans s6
        refine ⟨.ref t, rfl, .int k, rfl, k, rfl, ?_⟩
        refine slA_any (same_t s36 t3) fun b4 H7 s7 c4 => ?_
        refine ⟨.ref t, rfl, .int k, rfl, k, rfl, .int k, rfl, _, _, rfl, rfl, (k : Int) + 1, rfl, ?_⟩
        refine slA_any (same_t (s36.trans s7) t3) fun b5 H8 s8 c5 => ?_
        refine catA_any (same_t s8 c4) c5 (by omega) fun b6 H9 s9 c6 => ?_
        have s39 := ((s36.trans s7).trans s8).trans s9
        refine ⟨.ref t, rfl, .int k, rfl, k, rfl, ?_⟩
        dsimp only [tNoPart]
        refine slA_any (same_t s39 t3) fun b7 H10 s10 c7 => ?_
        refine catA_any (same_t s10 c6) c7 (by rw [List.length_append]; omega) fun b8 H11 s11 c8 => ?_
        have s311 := (s39.trans s10).trans s11
        have c3' : SqT K H11 b3 _ := same_t ((((s7.trans s8).trans s9).trans s10).trans s11) c3
        refine ⟨by show 2 ≤ sizeLine; decide, fun l1 nl1 => ?_⟩
        have s12 : Same H11 (upd H11 l1 (.lst [.ref b3, .ref b8])) := same_upd nl1
        have p12 : PotAt (upd H11 l1 (.lst [.ref b3, .ref b8])) a := (p3.same s311).new nl1
        have e12 : (upd H11 l1 (.lst [.ref b3, .ref b8])) l1 = some (.lst [.ref b3, .ref b8]) := upd_same
        have nla : l1 ≠ a := (p3.same s311).ne nl1
        revert s12 p12 e12
        generalize upd H11 l1 (.lst [.ref b3, .ref b8]) = H12
        intro s12 p12 e12
        refine ⟨.ref a, rfl, a, 2, rfl, p12, by decide, by decide, fun r H13 r0 r1 p13 o13 => ?_⟩
        obtain ⟨v, hv, _, ev⟩ := at_in (xs := ([.ref b3, .ref b8] : List V)) r0 r1
        refine ⟨l1, _, r, v, rfl, rfl, .inl (.inl (o13.get e12 nla)), ev, ?_⟩
        have s312 := s311.trans s12
        have fin2 : ∀ {c : Addr} {ys : List V} {es : List PyData}, SqT K H12 c ys → DqAll K (off H3 a) ys es → (∀ d ∈ es, PartD d) → es.length ≤ 15 → Q (.ref c) H13 := fun {c ys es} hc hy he hl =>
          q _ (.tuple es) H13 p13 ((oo.trans (Off.same s312)).trans o13) (.tup (same_t o13 (sqT_ne hc p12)) (DqAll.same o13 (DqAll.same (off_mono s312) hy))) (th_tup he hl)
        simp only [List.mem_cons, List.not_mem_nil, or_false] at hv
        rcases hv with rfl | rfl
        · refine fin2 (same_t s12 c3') (dq_app g1 g2) (fun d hd => ?_) (by rw [List.length_append]; omega)
          rcases List.mem_append.mp hd with h | h
          · exact hpd d (m1 d h)
          · exact hpd d (m2 d h)
        · refine fin2 (same_t s12 c8) (dq_app (dq_app g1 g3') g4) (fun d hd => ?_) ?_
          · rcases List.mem_append.mp hd with h | h
            · rcases List.mem_append.mp h with h | h
              · exact hpd d (m1 d h)
              · exact hpd d (m3 d h)
            · exact hpd d (m4 d h)
          · rw [List.length_append, List.length_append]
            omega
      · have row : ThingD (.tuple ds) := th_tup hpd (by omega)
        refine ⟨.ref t, rfl, t, xs, rfl, .inr t3, fun b1 n1 => ?_⟩
        have k4 : ∃ H4, H4 = upd H3 b1 (.lst xs) ∧ Same H3 H4 ∧ H4 b1 = some (.lst xs) := ⟨_, rfl, same_upd n1, upd_same⟩
        obtain ⟨H4, eH4, s4, c1⟩ := k4
        rw [← eH4]
        refine ⟨vo, rfl, .ref t, rfl, by show 1 ≤ sizeLine; decide, fun b2 n2 => ?_⟩
        have k5 : ∃ H5, H5 = upd H4 b2 (.tup [.ref t]) ∧ Same H4 H5 ∧ H5 b2 = some (.tup [.ref t]) := ⟨_, rfl, same_upd n2, upd_same⟩
        obtain ⟨H5, eH5, s5, c2⟩ := k5
        rw [← eH5]
        refine ⟨.ref t, rfl, t, xs, rfl, same_t (s4.trans s5) t3, fun b3 n3 => ?_⟩
        have k6 : ∃ H6, H6 = upd H5 b3 (.tup xs.reverse) ∧ Same H5 H6 ∧ H6 b3 = some (.tup xs.reverse) := ⟨_, rfl, same_upd n3, upd_same⟩
        obtain ⟨H6, eH6, s6, c3⟩ := k6
        rw [← eH6]
        refine ⟨.ref t, rfl, vo, rfl, by show 1 ≤ sizeLine; decide, fun b4 n4 => ?_⟩
        have k7 : ∃ H7, H7 = upd H6 b4 (.tup [vo]) ∧ Same H6 H7 ∧ H7 b4 = some (.tup [vo]) := ⟨_, rfl, same_upd n4, upd_same⟩
        obtain ⟨H7, eH7, s7, c4⟩ := k7
        rw [← eH7]
        have s37 := ((s4.trans s5).trans s6).trans s7
        refine catA_any (same_t s37 t3) (.inl (.inl c4)) (by show _ + 1 ≤ 1000; omega) fun b5 H8 s8 c5 => ?_
        have s38 := s37.trans s8
        refine ⟨by show 5 ≤ sizeLine; decide, fun l1 nl1 => ?_⟩
        have s9 : Same H8 (upd H8 l1 (.lst [.ref b1, vo, .ref b2, .ref b3, .ref b5])) := same_upd nl1
        have p9 : PotAt (upd H8 l1 (.lst [.ref b1, vo, .ref b2, .ref b3, .ref b5])) a := (p3.same s38).new nl1
        have e9 : (upd H8 l1 (.lst [.ref b1, vo, .ref b2, .ref b3, .ref b5])) l1 = some (.lst [.ref b1, vo, .ref b2, .ref b3, .ref b5]) := upd_same
        have nla : l1 ≠ a := (p3.same s38).ne nl1
        revert s9 p9 e9
        generalize upd H8 l1 (.lst [.ref b1, vo, .ref b2, .ref b3, .ref b5]) = H9
        intro s9 p9 e9
        refine ⟨.ref a, rfl, a, 5, rfl, p9, by decide, by decide, fun r H10 r0 r1 p10 o10 => ?_⟩
        obtain ⟨v, hv, _, ev⟩ := at_in (xs := ([.ref b1, vo, .ref b2, .ref b3, .ref b5] : List V)) r0 r1
        refine ⟨l1, _, r, v, rfl, rfl, .inl (.inl (o10.get e9 nla)), ev, ?_⟩
        have s39 := s38.trans s9
        have s410 : Same H4 H9 := (((s5.trans s6).trans s7).trans s8).trans s9
        have oo10 : Off a H H10 := (oo.trans (Off.same s39)).trans o10
        have up : ∀ {v : V} {d : PyData}, Dq K (off H3 a) v d → Dq K (off H10 a) v d := fun h => Dq.same o10 (Dq.same (off_mono s39) h)
        have upA : ∀ {v : List V} {d : List PyData}, DqAll K (off H3 a) v d → DqAll K (off H10 a) v d := fun h => DqAll.same o10 (DqAll.same (off_mono s39) h)
        have g10 := upA g3
        have tp : ∀ {c : Addr} {ys : List V}, SqT K H9 c ys → SqT K (off H10 a) c ys := fun h => same_t o10 (sqT_ne h p9)
        simp only [List.mem_cons, List.not_mem_nil, or_false] at hv
        rcases hv with rfl | rfl | rfl | rfl | rfl
        · have nb : b1 ≠ a := (p3.ne n1)
          refine q _ (.list ds) H10 p10 oo10 (.lst (.inl (.inl ?_)) g10) (th_list hpd (by omega))
          rw [off_ne nb]
          exact o10.get (s410 _ _ c1) nb
        · exact q _ do_ H10 p10 oo10 (up dvo) (thing_odd hdo)
        · refine q _ (.tuple [.tuple ds]) H10 p10 oo10 (.tup (tp (.inl (.inl ((((s6.trans s7).trans s8).trans s9) _ _ c2)))) (.cons (.tup (tp (same_t s39 t3)) g10) .nil)) ⟨fun es he => ?_, ?_⟩
          · cases he
            refine ⟨by show 1 ≤ 900; decide, fun x hx => ?_⟩
            cases List.mem_singleton.mp hx
            exact ⟨fun z hz => (by cases hz), fun z hz => (by cases hz; omega)⟩
          · have sr : Small (3 + ds.length * (6000 + 2)) (.tuple ds) := small_tupN (n := 6000) fun d hd => ⟨(hpd d hd).sm, Nat.le_trans (hpd d hd).dp (by decide)⟩
            refine (small_tupN (n := 40000) (ds := [.tuple ds]) fun d hd => ?_).mono (by show 3 + 1 * 40002 ≤ 95000; decide)
            cases List.mem_singleton.mp hd
            refine ⟨sr.mono (by omega), ?_⟩
            have dd : ∀ ds : List PyData, (∀ d ∈ ds, PartD d) → PyData.depthAll ds ≤ 4 := by
              intro ds
              induction ds with
              | nil => exact fun _ => Nat.zero_le _
              | cons d ds ih =>
                intro h
                have h1 := ih fun x hx => h x (List.mem_cons_of_mem _ hx)
                have h2 := (h d List.mem_cons_self).dp
                simp only [PyData.depthAll]
                omega
            have := dd ds hpd
            simp only [PyData.depth]
            omega
        · refine q _ (.tuple ds.reverse) H10 p10 oo10 (.tup (tp (.inl (.inl (((s7.trans s8).trans s9) _ _ c3)))) (dq_rev g10)) (th_tup (fun d hd => hpd d (List.mem_reverse.mp hd)) (by rw [List.length_reverse]; omega))
        · refine q _ (.tuple (ds ++ [do_])) H10 p10 oo10 (.tup (tp (same_t s9 c5)) (dq_app g10 (.cons (up dvo) .nil))) (th_tup (fun d hd => ?_) (by rw [List.length_append]; show _ + 1 ≤ 15; omega))
          rcases List.mem_append.mp hd with h | h
          · exact hpd d h
          · cases List.mem_singleton.mp h
            exact odd
end
end K31



set_option Elab.async false
set_option linter.all false
set_option maxRecDepth 100000
set_option maxHeartbeats 4000000
namespace K31
open PySem PySem.Spec PyProof.Rows L2 Lw

def sp_case (K : PySem.W.Frag) : Sp := fun vs H Q _ => ∃ a : Addr, vs = [.ref a, .int 6, .int 0, .int 3] ∧ PotAt H a ∧ ∀ (t lb ll lf lt : Addr) (ns fs : List Str) (xs : List V) (ds : List PyData) (H' : Hp), PotAt H' a → Off a H H' → H' t = some (.tup [.ref lb, .ref ll, .ref lf, .ref lt]) → H' lb = some (.lst (ns.map V.str)) → H' lf = some (.lst (fs.map V.str)) → H' lt = some (.lst xs) → DqAll K (off H' a) xs ds → (∀ d ∈ ds, RowD d) → xs.length ≤ 3 →
  lb ≠ a → lf ≠ a → lt ≠ a → Nms ns → 1 ≤ fs.length → fs.length ≤ 20 → (∀ z ∈ fs, nameB z = true) → Q (.ref t) H'
section
variable {P : Program} {w : World} {K : PySem.W.Frag} {mg : Str → Option Value} {base : Heap} {f : Addr} {fd : FuncData} {fD fW fL fT : Addr} {fdD fdW fdL fdT : FuncData}
theorem ok_case (F : FnP K "_law_case" s_case f fd) (T : Tz mg) (O_draw : Own P w K mg base CX0 1 "_law_draw" ["_law_pot_here", "_law_many"] sp_draw fD fdD) (O_words : Own P w K mg base CX0 3 "_law_words" ["_law_pot_here", "_law_many"] sp_words fW fdW)
    (O_lines : Own P w K mg base CX0 2 "_law_lines" ["_law_pot_here", "_law_wide", "_law_many"] sp_lines fL fdL) (O_told : Own P w K mg base CX0 4 "_law_told" ["_law_pot_here", "_law_labels", "_law_folk", "_law_many"] (sp_tell K) fT fdT) :
    FnOk P w K mg base CX0 5 f fd ["_law_pot_here", "_law_wide", "_law_many", "_law_most"] (sp_case K) := by
  refine F.ok sc_case (fun vs H Q E h => ?_) (fun cdv A outer s H vs Q E hr h => ?_)
  · obtain ⟨a, rfl, _⟩ := h
    rfl
  · obtain ⟨a, rfl, hp, q⟩ := h
    refine ⟨_, PSs.nox (pss_cons (ps_set (i := 4) sc_case.nd rfl (Or.inl rfl) (pe_own O_words (hr.mono (by first | decide | omega)) (pa_cons (pv 0) (pa_cons (pe_op op_add pe_int (pe_own O_draw (hr.mono (by first | decide | omega)) (pa_cons (pv 0) (pa_cons (pv 1) pa_nil)))) pa_nil))))
      (pss_cons (ps_par (i := 5) (j := 6) (by rfl) sc_case.nd rfl rfl (by decide) rfl rfl (pa_cons (pe_own O_lines (hr.mono (by first | decide | omega)) (pa_cons (pv 0) (pa_cons (pe_callB call_len_seq (by rfl) T.z_len (by decide +kernel) (pa_cons (pv 4) pa_nil)) (pa_cons (pv 2) pa_nil)))) (pa_cons (pe_own O_words (hr.mono (by first | decide | omega)) (pa_cons (pv 0) (pa_cons (pe_op op_add pe_int (pe_own O_draw (hr.mono (by first | decide | omega)) (pa_cons (pv 0) (pa_cons pe_int pa_nil)))) pa_nil))) pa_nil)) (by rfl))
      (pss_one (ps_ret (pe_tup (pa_cons (pv 4) (pa_cons (pv 5) (pa_cons (pv 6) (pa_cons (pe_own O_told (hr.mono (by first | decide | omega)) (pa_cons (pv 0) (pa_cons (pv 4) (pa_cons (pv 6) (pa_cons (pe_own O_draw (hr.mono (by first | decide | omega)) (pa_cons (pv 0) (pa_cons (pe_op op_add (pv 3) pe_int) pa_nil))) pa_nil))))) pa_nil))))))))), ?_⟩
    refine ⟨.ref a, rfl, .ref a, rfl, .int 6, rfl, a, 6, rfl, hp, by decide, by decide, fun r H1 r0 r1 p1 o1 => ?_⟩
    obtain ⟨n, hn⟩ : ∃ n : Nat, (1 : Int) + r = (n : Int) := ⟨(1 + r).toNat, by omega⟩
    refine ⟨1, r, rfl, rfl, a, n, by show [V.ref a, V.int (1 + r)] = _; rw [hn], p1, by omega, fun lb ns H2 len2 nd2 nm2 p2 o2 nlb e2 => ?_⟩
    have nba : lb ≠ a := p1.ne nlb
    refine ⟨.ref a, rfl, .ref lb, rfl, lb, _, rfl, .inl (.inl (.inl e2)), .int 0, rfl, a, _, rfl, p2, fun ll H3 p3 o3 nll e3 => ?_⟩
    refine ⟨.ref a, rfl, .ref a, rfl, a, 3, rfl, p3, by decide, by decide, fun r2 H4 r20 r21 p4 o4 => ?_⟩
    obtain ⟨n2, hn2⟩ : ∃ n : Nat, (1 : Int) + r2 = (n : Int) := ⟨(1 + r2).toNat, by omega⟩
    refine ⟨1, r2, rfl, rfl, a, n2, by show [V.ref a, V.int (1 + r2)] = _; rw [hn2], p4, by omega, fun lf fs H5 len5 nd5 nm5 p5 o5 nlf e5 => ⟨_, _, rfl, ?_⟩⟩
    have nfa : lf ≠ a := p4.ne nlf
    have e25 : H5 lb = some (.lst (ns.map V.str)) := ((o3.trans o4).trans o5).get e2 nba
    refine ⟨.ref lb, rfl, .ref ll, rfl, .ref lf, rfl, .ref a, rfl, .ref lb, rfl, .ref lf, rfl, .ref a, rfl, .int 3, rfl, _, _, rfl, rfl, a, 4, rfl, p5, by decide, by decide, fun r3 H6 r30 r31 p6 o6 => ?_⟩
    obtain ⟨n3, hn3⟩ : ∃ n : Nat, r3 = (n : Int) := ⟨r3.toNat, by omega⟩
    subst hn3
    have e26 := o6.get e25 nba
    have e56 := o6.get e5 nfa
    refine ⟨a, lb, lf, ns, fs, n3, rfl, p6, .inl (.inl (by rw [off_ne nba]; exact e26)), .inl (.inl (by rw [off_ne nfa]; exact e56)), by omega, by omega, by omega, by omega, nm2, nm5, by omega, fun lt xs ds H7 p7 o7 nlt e7 g7 rw7 len7 => ?_⟩
    refine ⟨by show 4 ≤ sizeLine; decide, fun t nt => ?_⟩
    have s8 : Same H7 (upd H7 t (.tup [.ref lb, .ref ll, .ref lf, .ref lt])) := same_upd nt
    exact q t lb ll lf lt ns fs xs ds _ (p7.same s8) ((((((o1.trans o2).trans o3).trans o4).trans o5).trans o6).trans (o7.trans (Off.same s8))) upd_same (s8 _ _ (o7.get e26 nba)) (s8 _ _ (o7.get e56 nfa)) (s8 _ _ e7) (DqAll.same (off_same.trans (off_mono s8)) g7) rw7 (by omega) nba nfa (p6.ne nlt) ⟨by omega, by omega, nd2, nm2⟩ (by omega) (by omega) nm5
end
end K31



set_option Elab.async false
set_option linter.all false
set_option maxRecDepth 100000
set_option maxHeartbeats 4000000
namespace K31
open PySem PySem.Spec PyProof.Rows L2 Lw

theorem small_3b (b c : Bool) : Small 200 (.list [.bool b, .bool b, .bool c]) := by
  cases b <;> cases c <;> exact ⟨by decide +kernel, by decide +kernel, by decide +kernel⟩
theorem small_num {q : Rat} (h : Bq 1000 q) : Small 5000 (ofR q) := by
  unfold ofR
  split
  · exact (small_int h.1).mono (by decide)
  · exact (small_tup2 (small_int h.1) (small_int (i := (q.den : Int)) h.2) (by simp [PyData.depth]) (by simp [PyData.depth])).mono (by decide)
theorem row_parts {d : PyData} (h : RowD d) : ∃ ds, d = .tuple ds ∧ ds.length = 5 ∧ ∀ x ∈ ds, PartD x := by
  obtain ⟨g, m, y, z, q, rfl, hg, hm, hy, hz, bw⟩ := h.ex
  refine ⟨_, rfl, rfl, fun x hx => ?_⟩
  simp only [List.mem_cons, List.not_mem_nil, or_false] at hx
  rcases hx with rfl | rfl | rfl | rfl | rfl
  · exact ⟨fun z hz => (by cases hz), fun z hz => (by cases hz), (small_int (Nat.lt_trans hg (by decide))).mono (by decide), by simp [PyData.depth]⟩
  · exact ⟨fun z hz => (by cases hz), fun z hz => (by cases hz), (small_int (Nat.lt_trans hm (Nat.pow_lt_pow_right (by decide) (by decide)))).mono (by decide), by simp [PyData.depth]⟩
  · have o := okD_name hy
    exact ⟨o.sh, fun z hz => (by cases hz), o.sm.mono (by decide), by simp [PyData.depth]⟩
  · have o := okD_name hz
    exact ⟨o.sh, fun z hz => (by cases hz), o.sm.mono (by decide), by simp [PyData.depth]⟩
  · have sn := small_num (bw.big.mono (by decide : 97 ≤ 1000))
    refine ⟨fun z hz => ?_, fun ds hd => ?_, sn.mono (by decide), ?_⟩
    · unfold ofR at hz
      split at hz <;> cases hz
    · unfold ofR at hd
      split at hd <;> cases hd
      show 2 ≤ 900
      decide
    · unfold ofR
      split <;> simp [PyData.depth, PyData.depthAll]
def sp_right : Sp := fun vs H Q _ => ∃ a : Addr, vs = [.ref a] ∧ PotAt H a ∧ ∀ H', PotAt H' a → Off a H H' → Q (.bl true) H'
section
variable {P : Program} {w : World} {K : PySem.W.Frag} {mg : Str → Option Value} {base : Heap} {f : Addr} {fd : FuncData} {C fE fC fW fT fS fO fI fX : Addr} {fdE fdC fdW fdT fdS fdO fdI fdX : FuncData} {g1 : List Value → List Value → List Value}
theorem ok_right (F : FnP K "_law_right" s_right f fd) (T : Tz mg) (B : SysOk base)
    (MK_Sheet : OwnK P w K mg base (L2.CX P w) 3 "Sheet" C (sp_shInit K C (He.ga K "InvalidFields"))) (M_Sheet_fields : OwnM P w K mg base CX0 1 C "fields" (sp_fields K C)) (S_Sheet_eq : OwnS P w K mg base 1 C "__eq__" ["self", "other"] (sp_shEq K C) fE fdE) (AP_Sheet : Apart K C)
    (O_case : Own P w K mg base CX0 5 "_law_case" ["_law_pot_here", "_law_wide", "_law_many", "_law_most"] (sp_case K) fC fdC) (O_words : Own P w K mg base CX0 3 "_law_words" ["_law_pot_here", "_law_many"] sp_words fW fdW)
    (O_told : Own P w K mg base CX0 4 "_law_told" ["_law_pot_here", "_law_labels", "_law_folk", "_law_many"] (sp_tell K) fT fdT) (O_spoilt : Own P w K mg base CX0 3 "_law_spoilt" ["_law_pot_here", "_law_row"] (sp_spoil K) fS fdS) (O_odd : Own P w K mg base CX0 2 "_law_odd" ["_law_pot_here"] (sp_oddS K) fO fdO)
    (O_is_setting : Own P w K mg base CX0 3 "is_setting" ["sheet", "value"] (sp_set K C) fI fdI) (O_is_setting_kw : KBn K fdI ["sheet", "value"] 0 ["value", "sheet"] g1 (fun _ zs => flip2 zs)) (O_is_told : Own P w K mg base CX0 3 "_law_is_told" ["_law_labels", "_law_thing"] (sp_told K) fX fdX) :
    FnG P w K mg base CX0 7 f fd ["_law_pot_here"] sp_right := by
  refine fn_g F sc_right (fun vs H Q E h => ?_) (fun cdv A outer s H vs Q E hg hr h => ?_)
  · obtain ⟨a, rfl, _⟩ := h
    rfl
  · obtain ⟨a, rfl, hp, q⟩ := h
    refine ⟨_, PSs.nox (pss_cons (ps_asg (pe_own O_case (hr.mono (by first | decide | omega)) (pa_cons (pv 0) (pa_cons pe_int (pa_cons pe_int (pa_cons pe_int pa_nil))))) (pg_tup rfl (pgs_cons (pg_name (i := 1) sc_right.nd rfl (Or.inl rfl)) (pgs_cons (pg_name (i := 2) sc_right.nd rfl (Or.inl rfl)) (pgs_cons (pg_name (i := 3) sc_right.nd rfl (Or.inl rfl)) (pgs_cons (pg_name (i := 4) sc_right.nd rfl (Or.inl rfl)) pgs_nil))))))
      (pss_cons (ps_par (i := 5) (j := 6) (by rfl) sc_right.nd rfl rfl (by decide) rfl rfl (pa_cons (pe_mkA MK_Sheet passesF (hr.mono (by first | decide | omega)) (pa_cons (pv 1) pa_nil)) (pa_cons (pe_mkA MK_Sheet passesF (hr.mono (by first | decide | omega)) (pa_cons (pe_own O_words (hr.mono (by first | decide | omega)) (pa_cons (pv 0) (pa_cons pe_int pa_nil))) pa_nil)) pa_nil)) (by rfl))
      (pss_cons (ps_for PassesOwn.never rfl (pi_list (pe_op op_cat (pv 4) (pe_own O_told (hr.mono (by first | decide | omega)) (pa_cons (pv 0) (pa_cons (pv 1) (pa_cons (pv 3) (pa_cons pe_int pa_nil))))))) (pg_name (i := 7) sc_right.nd rfl (Or.inl rfl)) (pss_one (ps_for PassesOwn.never rfl (pi_tup (pe_tup (pa_cons (pv 7) (pa_cons (pe_own O_spoilt (hr.mono (by first | decide | omega)) (pa_cons (pv 0) (pa_cons (pv 7) pa_nil))) (pa_cons (pe_own O_odd (hr.mono (by first | decide | omega)) (pa_cons (pv 0) pa_nil)) pa_nil))))) (pg_name (i := 8) sc_right.nd rfl (Or.inl rfl)) (pss_cons (ps_set (i := 9) sc_right.nd rfl (Or.inl rfl) (pe_callB (call_repr B hg hr.units) (by rfl) T.z_repr (by decide +kernel) (pa_cons (pv 8) pa_nil)))
      (pss_cons (ps_set (i := 10) sc_right.nd rfl (Or.inl rfl) (pe_lst (pa_cons (pe_own O_is_setting (hr.mono (by first | decide | omega)) (pa_cons (pv 5) (pa_cons (pv 8) pa_nil))) (pa_cons (pe_ownW O_is_setting O_is_setting_kw (hr.mono (by first | decide | omega)) (pk_cons (pv 8) (pk_cons (pv 5) pk_nil))) (pa_cons (pe_own O_is_setting (hr.mono (by first | decide | omega)) (pa_cons (pv 6) (pa_cons (pv 8) pa_nil))) pa_nil)))))
      (pss_cons (ps_set (i := 11) sc_right.nd rfl (Or.inl rfl) (pe_op op_cat (pe_op op_rep (pe_lst (pa_cons (pe_own O_is_told (hr.mono (by first | decide | omega)) (pa_cons (pv 1) (pa_cons (pv 8) pa_nil))) pa_nil)) pe_int) (pe_lst (pa_cons (pe_own O_is_told (hr.mono (by first | decide | omega)) (pa_cons (pe_omA0 M_Sheet_fields passes0 (hr.mono (by first | decide | omega)) (pv 6)) (pa_cons (pv 8) pa_nil))) pa_nil))))
      (pss_one (ps_if (PW.pt (pw_or (pt_cmpR op_ne (pe_callB (call_repr B hg hr.units) (by rfl) T.z_repr (by decide +kernel) (pa_cons (pv 10) pa_nil)) (pe_callB (call_repr B hg hr.units) (by rfl) T.z_repr (by decide +kernel) (pa_cons (pv 11) pa_nil)) (nomark _)) (pw_or1 (pt_cmpR op_ne (pe_callB (call_repr B hg hr.units) (by rfl) T.z_repr (by decide +kernel) (pa_cons (pv 8) pa_nil)) (pv 9) (nomark _))))) (pss_one (ps_ret pe_bl)) pss_nil))))))))
      (pss_one (ps_ret (pe_cmpR (op_eqO S_Sheet_eq AP_Sheet (hr.mono (by first | decide | omega))) (pv 5) (pe_mkA MK_Sheet passesF (hr.mono (by first | decide | omega)) (pa_cons (pv 1) pa_nil)) (nomark _))))))), ?_⟩
    refine ⟨.ref a, rfl, a, rfl, hp, fun t lb ll lf lt ns fs xs ds H1 p1 o1 e1 eb1 ef1 et1 g1 rw1 len1 nba nfa nta nm f1 f2 nmf => ?_⟩
    refine ⟨t, _, rfl, .inl (.inl e1), rfl, _, _, rfl, _, _, rfl, _, _, rfl, _, _, rfl, rfl, ?_⟩
    refine ⟨.ref lb, rfl, fun x dx nx nd ne => mk_sheetL2 (.inl (.inl eb1)) nm nx nd ne fun H2 s2 sp2 => ⟨rfl, ?_⟩⟩
    have p2 := p1.same s2
    refine ⟨.ref a, rfl, a, 2, rfl, p2, by decide, fun lw ms H3 len3 nd3 nm3 p3 o3 nlw e3 => ?_⟩
    have mm : Nms ms := ⟨by omega, by omega, nd3, nm3⟩
    refine fun x2 dx2 nx2 nd2 ne2 => mk_sheetL2 (.inl (.inl e3)) mm nx2 nd2 ne2 fun H4 s4 sp4 => ⟨rfl, _, _, rfl, ?_⟩
    have p4 := p3.same s4
    have o14 : Off a H1 H4 := ((Off.same s2).trans o3).trans (Off.same s4)
    have spx4 : ShP K C H4 x ns := (sp2.keep p2 o3).same s4
    have eb4 := o14.get eb1 nba
    have ef4 := o14.get ef1 nfa
    have et4 := o14.get et1 nta
    have g4 : DqAll K (off H4 a) xs ds := DqAll.same o14 g1
    refine ⟨.ref lt, rfl, .ref a, rfl, .ref lb, rfl, .ref lf, rfl, a, lb, lf, ns, fs, 10, rfl, p4, .inl (.inl (by rw [off_ne nba]; exact eb4)), .inl (.inl (by rw [off_ne nfa]; exact ef4)), nm.lo, by have := nm.hi; omega, f1, f2, nm.nm, nmf, by decide, fun l2 ys es H5 p5 o5 nl2 e5 g5 rw5 len5 => ?_⟩
    have et5 := o5.get et4 nta
    refine ⟨lt, l2, _, _, rfl, rfl, et5, e5, Nat.le_of_lt (small1000 (by omega)), fun l3 nl3 => ?_⟩
    have s6 : Same H5 (upd H5 l3 (.lst (xs ++ ys))) := same_upd nl3
    have p6 : PotAt (upd H5 l3 (.lst (xs ++ ys))) a := p5.new nl3
    have e6 : (upd H5 l3 (.lst (xs ++ ys))) l3 = some (.lst (xs ++ ys)) := upd_same
    have n3a : l3 ≠ a := p5.ne nl3
    revert s6 p6 e6
    generalize upd H5 l3 (.lst (xs ++ ys)) = H6
    intro s6 p6 e6
    have o46 : Off a H4 H6 := o5.trans (Off.same s6)
    have oH6 : Off a H H6 := (o1.trans o14).trans o46
    have g6 : DqAll K (off H6 a) (xs ++ ys) (ds ++ es) := dq_app (DqAll.same o46 g4) (DqAll.same (off_same.trans (off_mono s6)) g5)
    have rw6 : ∀ d ∈ ds ++ es, RowD d := fun d hd => by
      rcases List.mem_append.mp hd with h | h
      · exact rw1 d h
      · exact rw5 d h
    have eb6 := o46.get eb4 nba
    have spx6 := spx4.keep p4 o46
    have spy6 := sp4.keep p4 o46
    clear g5 g4 g1 rw1 rw5
    generalize xs ++ ys = zs at *
    generalize ds ++ es = us at *
    refine ⟨l3, rfl, ⟨zs, .inl (.inl e6)⟩, ?_⟩
    refine for_list (K := K) (a := l3) (xs := zs) (fun i σ G => (∃ y7 y8 y9 y10 y11, σ = [some (.ref a), some (.ref lb), some (.ref ll), some (.ref lf), some (.ref lt), some (.ref x), some (.ref x2), y7, y8, y9, y10, y11]) ∧ PotAt G a ∧ Off a H6 G) ⟨⟨_, _, _, _, _, rfl⟩, p6, Off.refl⟩ (fun i σ G _ h => .inl (.inl (h.2.2.get e6 n3a))) ?_ ?_
    · rintro i v σ G hv ⟨⟨y7, y8, y9, y10, y11, rfl⟩, pg, og⟩
      obtain ⟨d, hd, dv⟩ := dq_get (DqAll.same og g6) hv
      obtain ⟨ws, rfl, l5, hpd⟩ := row_parts (rw6 d (List.mem_of_getElem? hd))
      cases dv with
      | @tup tr vs' _ htr gtr =>
        refine ⟨_, rfl, .ref a, rfl, .ref tr, rfl, a, tr, vs', ws, rfl, pg, same_t off_same htr, gtr, l5, hpd, fun v1 d1 G1 p1' o1' dv1 th1 => ?_⟩
        refine ⟨.ref a, rfl, a, rfl, p1', fun v2 d2 G2 hd2 dv2 p2' o2' => ?_⟩
        refine ⟨by show 3 ≤ sizeLine; decide, fun tt ntt => ?_⟩
        have s3 : Same G2 (upd G2 tt (.tup [.ref tr, v1, v2])) := same_upd ntt
        have p3' : PotAt (upd G2 tt (.tup [.ref tr, v1, v2])) a := p2'.new ntt
        have e3' : (upd G2 tt (.tup [.ref tr, v1, v2])) tt = some (.tup [.ref tr, v1, v2]) := upd_same
        have n3' : tt ≠ a := p2'.ne ntt
        have o12 := o1'.trans o2'
        have all3 : DqAll K (off G2 a) [.ref tr, v1, v2] [.tuple ws, d1, d2] := .cons (.tup (same_t o12 htr) (DqAll.same o12 gtr)) (.cons (Dq.same o2' dv1) (.cons dv2 .nil))
        have th3 : ∀ d ∈ ([.tuple ws, d1, d2] : List PyData), ThingD d := by
          intro d hd
          simp only [List.mem_cons, List.not_mem_nil, or_false] at hd
          rcases hd with rfl | rfl | rfl
          · exact th_tup hpd (by omega)
          · exact th1
          · exact thing_odd hd2
        revert s3 p3' e3'
        generalize upd G2 tt (.tup [.ref tr, v1, v2]) = G3
        intro s3 p3' e3'
        have o63 : Off a H6 G3 := (og.trans o12).trans (Off.same s3)
        have all3' := DqAll.same (off_mono s3 (a := a)) all3
        refine ⟨tt, rfl, ⟨_, .inl (.inl e3')⟩, ?_⟩
        refine for_tup (K := K) (a := tt) (xs := [.ref tr, v1, v2]) (fun i σ G4 => (∃ y7 y8 y9 y10 y11, σ = [some (.ref a), some (.ref lb), some (.ref ll), some (.ref lf), some (.ref lt), some (.ref x), some (.ref x2), y7, y8, y9, y10, y11]) ∧ Same G3 G4) ⟨⟨_, _, _, _, _, rfl⟩, Same.refl G3⟩ (fun i σ G4 _ h => .inl (.inl (h.2 _ _ e3'))) ?_ ?_
        · rintro j v3 σ G4 hv3 ⟨⟨y7', y8', y9', y10', y11', rfl⟩, s4'⟩
          obtain ⟨d3, hd3, dv3⟩ := dq_get all3' hv3
          obtain ⟨ok3, sm3⟩ := th3 d3 (List.mem_of_getElem? hd3)
          have dv4 : Dq K G4 v3 d3 := (dv3.same off_same).same s4'
          obtain ⟨c1, c2, c3⟩ := sm3.line (by decide)
          have shx : ShAt K C G4 x ns := ((spx6.keep p6 o63).same s4').at_
          have shy : ShAt K C G4 x2 ms := ((spy6.keep p6 o63).same s4').at_
          have lb4 : SqL K G4 lb (ns.map V.str) := .inl (.inl (s4' _ _ (o63.get eb6 nba)))
          refine ⟨v3, rfl, v3, d3, rfl, dv4, c1, c2, c3, ?_⟩
          refine ⟨.ref x, rfl, v3, rfl, x, ns, v3, d3, rfl, shx, dv4, ok3, fun G5 s5 => ?_⟩
          refine ⟨v3, rfl, .ref x, rfl, rfl, rfl, x, ns, v3, d3, rfl, shx.same s5, dv4.same s5, ok3, fun G6 s6' => ?_⟩
          have s46 := s5.trans s6'
          refine ⟨.ref x2, rfl, v3, rfl, x2, ms, v3, d3, rfl, shy.same s46, dv4.same s46, ok3, fun G7 s7' => ?_⟩
          have s47 := s46.trans s7'
          refine ⟨by show 3 ≤ sizeLine; decide, fun r1 nr1 => ?_⟩
          have k8 : ∃ G8, G8 = upd G7 r1 (.lst [.bl (setD ns d3), .bl (setD ns d3), .bl (setD ms d3)]) ∧ Same G7 G8 ∧ G8 r1 = some (.lst [.bl (setD ns d3), .bl (setD ns d3), .bl (setD ms d3)]) := ⟨_, rfl, same_upd nr1, upd_same⟩
          obtain ⟨G8, eG8, s8, e8⟩ := k8
          rw [← eG8]
          have s48 := s47.trans s8
          refine ⟨.ref lb, rfl, v3, rfl, lb, ns, v3, d3, rfl, s48.seq lb4, dv4.same s48, ok3, fun G9 s9 => ?_⟩
          refine ⟨by show 1 ≤ sizeLine; decide, fun r2 nr2 => ?_⟩
          have k10 : ∃ G10, G10 = upd G9 r2 (.lst [.bl (setD ns d3)]) ∧ Same G9 G10 ∧ G10 r2 = some (.lst [.bl (setD ns d3)]) := ⟨_, rfl, same_upd nr2, upd_same⟩
          obtain ⟨G10, eG10, s10, e10⟩ := k10
          rw [← eG10]
          refine ⟨r2, 2, _, rfl, rfl, e10, by decide, by decide, by show 1 * 2 ≤ sizeLine; decide, fun r3 nr3 => ?_⟩
          have k11 : ∃ G11, G11 = upd G10 r3 (.lst (List.replicate (2 : Int).toNat [V.bl (setD ns d3)]).flatten) ∧ Same G10 G11 ∧ G11 r3 = some (.lst [.bl (setD ns d3), .bl (setD ns d3)]) := ⟨_, rfl, same_upd nr3, upd_same⟩
          obtain ⟨G11, eG11, s11, e11⟩ := k11
          rw [← eG11]
          have s811 := (s9.trans s10).trans s11
          have s411 := s48.trans s811
          obtain ⟨dx2', t2', kx2, _⟩ := id (shy.same s411)
          refine ⟨.ref x2, rfl, x2, dx2', _, rfl, kx2, rfl, x2, ms, rfl, shy.same s411, fun r4 nr4 => ?_⟩
          have k12 : ∃ G12, G12 = upd G11 r4 (.lst (ms.map V.str)) ∧ Same G11 G12 ∧ G12 r4 = some (.lst (ms.map V.str)) := ⟨_, rfl, same_upd nr4, upd_same⟩
          obtain ⟨G12, eG12, s12, e12⟩ := k12
          rw [← eG12]
          have s412 := s411.trans s12
          refine ⟨v3, rfl, r4, ms, v3, d3, rfl, .inl (.inl e12), dv4.same s412, ok3, fun G13 s13 => ?_⟩
          refine ⟨by show 1 ≤ sizeLine; decide, fun r5 nr5 => ?_⟩
          have k14 : ∃ G14, G14 = upd G13 r5 (.lst [.bl (setD ms d3)]) ∧ Same G13 G14 ∧ G14 r5 = some (.lst [.bl (setD ms d3)]) := ⟨_, rfl, same_upd nr5, upd_same⟩
          obtain ⟨G14, eG14, s14, e14⟩ := k14
          rw [← eG14]
          refine ⟨r3, r5, _, _, rfl, rfl, ((s12.trans s13).trans s14) _ _ e11, e14, by show 2 + 1 ≤ sizeLine; decide, fun r6 nr6 => ?_⟩
          have k15 : ∃ G15, G15 = upd G14 r6 (.lst ([.bl (setD ns d3), .bl (setD ns d3)] ++ [.bl (setD ms d3)])) ∧ Same G14 G15 ∧ G15 r6 = some (.lst [.bl (setD ns d3), .bl (setD ns d3), .bl (setD ms d3)]) := ⟨_, rfl, same_upd nr6, upd_same⟩
          obtain ⟨G15, eG15, s15, e15⟩ := k15
          rw [← eG15]
          have s1215 := ((s12.trans s13).trans s14).trans s15
          have s815 := s811.trans s1215
          have s415 := s48.trans s815
          obtain ⟨z1, z2, z3⟩ := (small_3b (setD ns d3) (setD ms d3)).line (by decide)
          refine ⟨.ref r1, rfl, .ref r1, _, rfl, .lst (.inl (.inl (s815 _ _ e8))) (.cons (.bl _) (.cons (.bl _) (.cons (.bl _) .nil))), z1, z2, z3, ?_⟩
          refine ⟨.ref r6, rfl, .ref r6, _, rfl, .lst (.inl (.inl e15)) (.cons (.bl _) (.cons (.bl _) (.cons (.bl _) .nil))), z1, z2, z3, rfl, _, rfl, ?_⟩
          rw [decide_eq_true rfl]
          refine iteF ?_
          refine ⟨v3, rfl, v3, d3, rfl, dv4.same s415, c1, c2, c3, _, rfl, rfl, _, rfl, ?_⟩
          rw [decide_eq_true rfl]
          exact iteF ⟨⟨_, _, _, _, _, rfl⟩, s4'.trans s415⟩
        · rintro σ G4 ⟨⟨y7', y8', y9', y10', y11', rfl⟩, s4'⟩
          exact ⟨⟨_, _, _, _, _, rfl⟩, p3'.same s4', o63.trans (Off.same s4')⟩
    · rintro σ G ⟨⟨y7, y8, y9, y10, y11, rfl⟩, pg, og⟩
      have spg := spx6.keep p6 og
      refine ⟨.ref x, rfl, .ref lb, rfl, fun y dy ny ndy ney => mk_sheetL2 (.inl (.inl (og.get eb6 nba))) nm ny ndy ney fun G1 s1 sp1 => ⟨rfl, ?_⟩⟩
      have spg1 := spg.same s1
      obtain ⟨dxa, ta, oa, ka, _⟩ := id spg1
      obtain ⟨dyb, tb, ob, kb, _⟩ := id sp1
      refine ⟨x, dxa, _, rfl, ka, .inl ⟨y, dyb, _, rfl, kb⟩, x, ns, .ref y, rfl, spg1.at_, .inl ⟨y, ns, rfl, sp1.at_, _, rfl, ?_⟩⟩
      rw [decide_eq_true rfl]
      exact q G1 (pg.same s1) ((oH6.trans og).trans (Off.same s1))
end
end K31



set_option Elab.async false
set_option linter.all false
set_option maxRecDepth 100000
set_option maxHeartbeats 4000000
namespace K31
open PySem PySem.Spec PyProof.Rows L2 Lw

section
variable {P : Program} {w : World} {K : PySem.W.Frag} {mg : Str → Option Value} {base : Heap} {f : Addr} {fd : FuncData}
def sp_law (K : PySem.W.Frag) : Sp := fun vs H Q _ => ∃ (s : Addr) (ns : List Int), vs = [.ref s] ∧ SqL K H s (ns.map V.int) ∧ ns.length ≤ 63 ∧ ∀ H', Q (.bl true) H'
theorem ok_law {fP fR : Addr} {fdP fdR : FuncData} (F : FnP K "law" s_law f fd) (T : Tz mg) (B : SysOk base)
    (O_pot : Own P w K mg base CX0 1 "_law_pot" ["_law_script", "_law_k"] (sp_pot K) fP fdP)
    (O_right : OwnG P w K mg base CX0 7 "_law_right" ["_law_pot_here"] sp_right fR fdR) : FnG P w K mg base CX0 8 f fd ["_law_script"] (sp_law K) := by
  refine fn_g F sc_law (fun vs H Q E h => ?_) (fun cdv A outer s H vs Q E hg hr h => ?_)
  · obtain ⟨a, ns, rfl, _⟩ := h
    rfl
  · obtain ⟨sc, ns, rfl, hS, hl, q⟩ := h
    refine ⟨_, PSs.nox (pss_one (ps_ret (pe_callB (cr_all rfl) (by rfl) T.z_all (by decide +kernel) (pa_cons (pe_lc (own := [("_law_k", 1)]) (g := gName 1) (tt := tYes) rfl sc_law.nd (pi_range1 (by rfl) T.z_range (pa_cons (pe_callB (call_max2 rfl) (by rfl) T.z_max (by decide +kernel) (pa_cons pe_int (pa_cons (pe_callB (call_min2 rfl) (by rfl) T.z_min (by decide +kernel) (pa_cons (pe_callB call_len_seq (by rfl) T.z_len (by decide +kernel) (pa_cons (pv 0) pa_nil)) (pa_cons pe_int pa_nil))) pa_nil))) pa_nil)) (blkOk_by (own := [("_law_k", 1)]) (N := N_law) (sc := defScope s_law) (by decide +kernel)) (fun _ _ _ _ _ => pg_name (i := 1) sc_law.nd rfl (Or.inl rfl)) (fun _ _ _ _ _ => pts_nil) (fun _ _ _ _ _ => (pe_owng O_right hg (hr.mono (by first | decide | omega)) (pa_cons (pe_own O_pot (hr.mono (by first | decide | omega)) (pa_cons (pv 0) (pa_cons (pv 1) pa_nil))) pa_nil)))) pa_nil)))), ?_⟩
    refine ⟨.ref sc, rfl, sc, _, rfl, .inl hS, _, _, rfl, _, _, rfl, _, rfl, ?_, ?_, fun D nD => ?_⟩
    · split <;> split <;> omega
    · rw [List.length_map]
      split <;> split <;> omega
    refine lc_range (lo := 0) (n := _) (fun j H3 => SqL K (off H3 D) sc (ns.map V.int) ∧ H3 D = some (.lst ((List.replicate j true).map V.bl))) ⟨off_new hS nD, upd_same⟩ ?_ ?_
    · rintro j H3 hj ⟨hS3, e3⟩
      have hj1 : j < 1000 := by
        refine Nat.lt_of_lt_of_le hj ?_
        rw [List.length_map]
        split <;> split <;> omega
      refine ⟨rfl, .ref sc, rfl, .int j, by show some (some (V.int (0 + j))) = _; rw [Int.zero_add], sc, ns, j, rfl, off_same.seq hS3, hj1, fun a u v na v0 v1 => ?_⟩
      have pa : PotAt (upd H3 a (.lst [.int u, .int v])) a := ⟨u, v, upd_same, v0, v1⟩
      have s1 : Same H3 (off (upd H3 a (.lst [.int u, .int v])) a) := off_new1 na
      have nDa : D ≠ a := fun z => by
        rw [← z, e3] at na
        cases na
      have e4 : (upd H3 a (.lst [.int u, .int v])) D = _ := (upd_ne nDa).trans e3
      revert pa s1 e4
      generalize upd H3 a (.lst [.int u, .int v]) = H4
      intro pa s1 e4
      refine ⟨a, rfl, pa, fun H5 p5 o5 => ?_⟩
      have e5 := o5.get e4 nDa
      refine ⟨_, e5, ?_, ?_, ?_⟩
      · rw [List.length_map, List.length_replicate]
        exact small1000 (by omega)
      · rw [off_put]
        exact (off_mono off_same).seq ((off_mono o5).seq ((off_mono s1).seq hS3))
      · rw [upd_same, List.replicate_succ', List.map_append]
        rfl
    · rintro H3 ⟨_, e3⟩
      refine ⟨D, _, rfl, .inl (.inl e3), ?_⟩
      rw [show ((List.replicate _ true).all id) = true from List.all_eq_true.mpr fun b hb => List.eq_of_mem_replicate hb]
      exact q H3
end
end K31


set_option Elab.async false
set_option linter.all false
set_option maxRecDepth 100000
set_option maxHeartbeats 0
namespace K31
open PySem PySem.Spec PyProof.Rows L2 Lw
def dd (x : Str) (st : Stmt) : He.DefD := ⟨(x, none), x, x, defArgs st, defBody st, defScope st, [], []⟩
def dm (m q : Str) (st : Stmt) : He.DefD := ⟨("Sheet", some m), m, q, defArgs st, defBody st, defScope st, [], []⟩
def rs : List RecD := []
def fn : List He.DefD := ([dd "is_name" s_is_name, dd "is_integer" s_is_integer, dd "common_divisor" s_common_divisor, dd "is_number" s_is_number, dd "first_wrong_name" s_first_wrong_name, dd "is_known_level" s_is_known_level, dd "is_setting" s_is_setting, dd "_law_pot" s_pot, dd "_law_draw" s_draw, dd "_law_word" s_word, dd "_law_words" s_words, dd "_law_common" s_common] : List He.DefD) ++
  ([dd "_law_ratio" s_ratio, dd "_law_worth" s_worth, dd "_law_is_whole" s_is_whole, dd "_law_is_word" s_is_word, dd "_law_is_ratio" s_is_ratio, dd "_law_is_told" s_is_told, dd "_law_odd" s_odd, dd "_law_spoilt" s_spoilt, dd "_law_case" s_case, dd "_law_lines" s_lines, dd "_law_told" s_told, dd "_law_right" s_right] : List He.DefD) ++
  ([dd "law" s_law, dm "__init__" "Sheet.__init__" s_Sheet_init, dm "__eq__" "Sheet.__eq__" s_Sheet_eq, dm "fields" "Sheet.fields" s_Sheet_fields, dm "has_field" "Sheet.has_field" s_Sheet_has_field] : List He.DefD)
def fa : List He.Fa := ([He.Fa.glo "is_name", He.Fa.glo "is_integer", He.Fa.glo "common_divisor", He.Fa.glo "is_number", He.Fa.glo "first_wrong_name", He.Fa.glo "is_known_level", He.Fa.glo "is_setting", He.Fa.glo "_law_pot", He.Fa.glo "_law_draw", He.Fa.glo "_law_word", He.Fa.glo "_law_words", He.Fa.glo "_law_common"] : List He.Fa) ++
  ([He.Fa.glo "_law_ratio", He.Fa.glo "_law_worth", He.Fa.glo "_law_is_whole", He.Fa.glo "_law_is_word", He.Fa.glo "_law_is_ratio", He.Fa.glo "_law_is_told", He.Fa.glo "_law_odd", He.Fa.glo "_law_spoilt", He.Fa.glo "_law_case", He.Fa.glo "_law_lines", He.Fa.glo "_law_told", He.Fa.glo "_law_right"] : List He.Fa) ++
  ([He.Fa.glo "law", He.Fa.free "isinstance", He.Fa.free "list", He.Fa.free "tuple", He.Fa.free "int", He.Fa.free "bool", He.Fa.free "str", He.Fa.free "len", He.Fa.free "all", He.Fa.free "repr", He.Fa.free "range", He.Fa.free "enumerate"] : List He.Fa) ++
  ([He.Fa.free "zip", He.Fa.free "max", He.Fa.free "min", He.Fa.free "abs", He.Fa.free "divmod", He.Fa.free "ValueError", He.Fa.free "super", He.Fa.str "LETTERS" "abcdefghijklmnopqrstuvwxyz", He.Fa.int "LONGEST_NAME" 8, He.Fa.int "HIGHEST_LEVEL" 2, He.Fa.glo "Sheet", He.Fa.cls "Sheet"] : List He.Fa) ++
  ([He.Fa.mkr "Sheet", He.Fa.noat "Sheet" "listed", He.Fa.meth "Sheet" "__init__", He.Fa.meth "Sheet" "__eq__", He.Fa.meth "Sheet" "fields", He.Fa.meth "Sheet" "has_field"] : List He.Fa)
def iF : IniD := ⟨"InvalidFields", W_iniInvalidFields, "ValueError", "ValueError.__new__", "ValueError.__init__"⟩
def ex (K : PySem.W.Frag) : Bool :=
  He.eqO (PySem.W.findIn K (.ref (He.ga K "InvalidFields")) "index") (some none) && (apartB K (He.ga K "Sheet") && (iscB K (He.ga K "Sheet") && (creadB K (He.ga K "Sheet") && (conB K (He.ga K "Sheet") "MAX_FIELDS" 12))))
abbrev R : PySem.W.OpenRow := PySem.W.OpenLaw.row PySem.Challenge.rw_lastheld_k31_settings_judged
abbrev hk : PySem.W.Hook := hookX 6 (R.prog.main.file : Str) fa fn [iF] rs ex
def ob (s : PySem.W.SharedT) : AlX := obsXG 6 (R.prog.main.file : Str) fa fn [iF] rs ex (HandSHeadRun.getT s)
theorem ob_eq (s : PySem.W.SharedT) : ob s = hk.obs s.abs := obsXG_eq (HandSHeadRun.getT_eq s)
abbrev names : List Str := (["_wall", "LastheldError", "InvalidFields", "InvalidText", "LETTERS", "LONGEST_NAME", "is_name", "is_integer", "common_divisor", "is_number", "first_wrong_name", "HIGHEST_LEVEL"] : List Str) ++
  (["is_known_level", "is_setting", "Sheet", "_law_pot", "_law_draw", "_law_word", "_law_words", "_law_common", "_law_ratio", "_law_factor", "_law_worth", "_law_is_whole"] : List Str) ++
  (["_law_is_word", "_law_is_ratio", "_law_is_told", "_law_odd", "_law_spoilt", "_law_case", "_law_lines", "_law_told", "_law_right"] : List Str)
theorem run (w : World) : HandSHeadRun.RunEq R (PySem.W.view R.prog [40]) hk ob 20000 names w := by
  intro os
  kernel_rfl
end K31

set_option Elab.async false
set_option linter.all false
set_option maxRecDepth 100000
set_option maxHeartbeats 0
namespace K31
open PySem PySem.Spec PyProof.Rows L2 Lw
theorem F_iF : IniF R.prog iF := ⟨by kernel_rfl, by kernel_rfl, by kernel_rfl, by kernel_rfl, by kernel_rfl, by kernel_rfl⟩
theorem facts {w : World} {K : PySem.W.Frag} {h : Heap} {mg : Str → Option Value} {f : Addr} (X : K.In h) (G : h.Ns mainGlobals mg) (hfa : mg ("law" : Str) = some (.ref f)) (cw0 : SaysX (R.prog.main.file : Str) fa fn [iF] rs ex K) :
    ∃ fd : FuncData, (∀ (s : Shared) (v : Value), BindsTo s fd ⟨[v], []⟩ [("_law_script", v)]) ∧ ∀ base : Heap, K.In base → base.Ns mainGlobals mg → SysOk base → FnG R.prog w K mg base CX0 8 f fd ["_law_script"] (sp_law K) := by
  have cw := cw0.w
  have c := cw.d
  obtain ⟨fd_is_name, F_is_name⟩ := c.def_ 0 (d := dd "is_name" s_is_name) rfl
  have m_is_name := He.glo_ok X G (c.fact 0 (f := .glo "is_name") rfl)
  obtain ⟨fd_is_integer, F_is_integer⟩ := c.def_ 1 (d := dd "is_integer" s_is_integer) rfl
  have m_is_integer := He.glo_ok X G (c.fact 1 (f := .glo "is_integer") rfl)
  obtain ⟨fd_common_divisor, F_common_divisor⟩ := c.def_ 2 (d := dd "common_divisor" s_common_divisor) rfl
  have m_common_divisor := He.glo_ok X G (c.fact 2 (f := .glo "common_divisor") rfl)
  obtain ⟨fd_is_number, F_is_number⟩ := c.def_ 3 (d := dd "is_number" s_is_number) rfl
  have m_is_number := He.glo_ok X G (c.fact 3 (f := .glo "is_number") rfl)
  obtain ⟨fd_first_wrong_name, F_first_wrong_name⟩ := c.def_ 4 (d := dd "first_wrong_name" s_first_wrong_name) rfl
  have m_first_wrong_name := He.glo_ok X G (c.fact 4 (f := .glo "first_wrong_name") rfl)
  obtain ⟨fd_is_known_level, F_is_known_level⟩ := c.def_ 5 (d := dd "is_known_level" s_is_known_level) rfl
  have m_is_known_level := He.glo_ok X G (c.fact 5 (f := .glo "is_known_level") rfl)
  obtain ⟨fd_is_setting, F_is_setting⟩ := c.def_ 6 (d := dd "is_setting" s_is_setting) rfl
  have m_is_setting := He.glo_ok X G (c.fact 6 (f := .glo "is_setting") rfl)
  obtain ⟨fd_pot, F_pot⟩ := c.def_ 7 (d := dd "_law_pot" s_pot) rfl
  have m_pot := He.glo_ok X G (c.fact 7 (f := .glo "_law_pot") rfl)
  obtain ⟨fd_draw, F_draw⟩ := c.def_ 8 (d := dd "_law_draw" s_draw) rfl
  have m_draw := He.glo_ok X G (c.fact 8 (f := .glo "_law_draw") rfl)
  obtain ⟨fd_word, F_word⟩ := c.def_ 9 (d := dd "_law_word" s_word) rfl
  have m_word := He.glo_ok X G (c.fact 9 (f := .glo "_law_word") rfl)
  obtain ⟨fd_words, F_words⟩ := c.def_ 10 (d := dd "_law_words" s_words) rfl
  have m_words := He.glo_ok X G (c.fact 10 (f := .glo "_law_words") rfl)
  obtain ⟨fd_common, F_common⟩ := c.def_ 11 (d := dd "_law_common" s_common) rfl
  have m_common := He.glo_ok X G (c.fact 11 (f := .glo "_law_common") rfl)
  obtain ⟨fd_ratio, F_ratio⟩ := c.def_ 12 (d := dd "_law_ratio" s_ratio) rfl
  have m_ratio := He.glo_ok X G (c.fact 12 (f := .glo "_law_ratio") rfl)
  obtain ⟨fd_worth, F_worth⟩ := c.def_ 13 (d := dd "_law_worth" s_worth) rfl
  have m_worth := He.glo_ok X G (c.fact 13 (f := .glo "_law_worth") rfl)
  obtain ⟨fd_is_whole, F_is_whole⟩ := c.def_ 14 (d := dd "_law_is_whole" s_is_whole) rfl
  have m_is_whole := He.glo_ok X G (c.fact 14 (f := .glo "_law_is_whole") rfl)
  obtain ⟨fd_is_word, F_is_word⟩ := c.def_ 15 (d := dd "_law_is_word" s_is_word) rfl
  have m_is_word := He.glo_ok X G (c.fact 15 (f := .glo "_law_is_word") rfl)
  obtain ⟨fd_is_ratio, F_is_ratio⟩ := c.def_ 16 (d := dd "_law_is_ratio" s_is_ratio) rfl
  have m_is_ratio := He.glo_ok X G (c.fact 16 (f := .glo "_law_is_ratio") rfl)
  obtain ⟨fd_is_told, F_is_told⟩ := c.def_ 17 (d := dd "_law_is_told" s_is_told) rfl
  have m_is_told := He.glo_ok X G (c.fact 17 (f := .glo "_law_is_told") rfl)
  obtain ⟨fd_odd, F_odd⟩ := c.def_ 18 (d := dd "_law_odd" s_odd) rfl
  have m_odd := He.glo_ok X G (c.fact 18 (f := .glo "_law_odd") rfl)
  obtain ⟨fd_spoilt, F_spoilt⟩ := c.def_ 19 (d := dd "_law_spoilt" s_spoilt) rfl
  have m_spoilt := He.glo_ok X G (c.fact 19 (f := .glo "_law_spoilt") rfl)
  obtain ⟨fd_case, F_case⟩ := c.def_ 20 (d := dd "_law_case" s_case) rfl
  have m_case := He.glo_ok X G (c.fact 20 (f := .glo "_law_case") rfl)
  obtain ⟨fd_lines, F_lines⟩ := c.def_ 21 (d := dd "_law_lines" s_lines) rfl
  have m_lines := He.glo_ok X G (c.fact 21 (f := .glo "_law_lines") rfl)
  obtain ⟨fd_told, F_told⟩ := c.def_ 22 (d := dd "_law_told" s_told) rfl
  have m_told := He.glo_ok X G (c.fact 22 (f := .glo "_law_told") rfl)
  obtain ⟨fd_right, F_right⟩ := c.def_ 23 (d := dd "_law_right" s_right) rfl
  have m_right := He.glo_ok X G (c.fact 23 (f := .glo "_law_right") rfl)
  obtain ⟨fd_law, F_law⟩ := c.def_ 24 (d := dd "law" s_law) rfl
  have m_law := He.glo_ok X G (c.fact 24 (f := .glo "law") rfl)
  obtain ⟨fd_Sheet_init, F_Sheet_init⟩ := c.def_ 25 (d := dm "__init__" "Sheet.__init__" s_Sheet_init) rfl
  have ME_Sheet_init := He.meth_ok (c.fact 50 (f := .meth "Sheet" "__init__") rfl)
  obtain ⟨fd_Sheet_eq, F_Sheet_eq⟩ := c.def_ 26 (d := dm "__eq__" "Sheet.__eq__" s_Sheet_eq) rfl
  have ME_Sheet_eq := He.meth_ok (c.fact 51 (f := .meth "Sheet" "__eq__") rfl)
  obtain ⟨fd_Sheet_fields, F_Sheet_fields⟩ := c.def_ 27 (d := dm "fields" "Sheet.fields" s_Sheet_fields) rfl
  have ME_Sheet_fields := He.meth_ok (c.fact 52 (f := .meth "Sheet" "fields") rfl)
  obtain ⟨fd_Sheet_has_field, F_Sheet_has_field⟩ := c.def_ 28 (d := dm "has_field" "Sheet.has_field" s_Sheet_has_field) rfl
  have ME_Sheet_has_field := He.meth_ok (c.fact 53 (f := .meth "Sheet" "has_field") rfl)
  have C_Sheet := He.glo_ok X G (c.fact 46 (f := .glo "Sheet") rfl)
  have CL := He.cls_ok (c.fact 47 (f := .cls "Sheet") rfl)
  have MKR := He.mkr_ok (c.fact 48 (f := .mkr "Sheet") rfl)
  have NO_listed := He.noat_ok (c.fact 49 (f := .noat "Sheet" "listed") rfl)
  have e := hfa.symm.trans m_law
  cases e
  have T : Tz mg := ⟨He.free_ok X G (c.fact 25 rfl), He.free_ok X G (c.fact 26 rfl), He.free_ok X G (c.fact 27 rfl), He.free_ok X G (c.fact 28 rfl), He.free_ok X G (c.fact 29 rfl), He.free_ok X G (c.fact 30 rfl), He.free_ok X G (c.fact 31 rfl), He.free_ok X G (c.fact 32 rfl), He.free_ok X G (c.fact 33 rfl), He.free_ok X G (c.fact 34 rfl), He.free_ok X G (c.fact 35 rfl), He.free_ok X G (c.fact 36 rfl), He.free_ok X G (c.fact 37 rfl), He.free_ok X G (c.fact 38 rfl), He.free_ok X G (c.fact 39 rfl), He.free_ok X G (c.fact 40 rfl), He.free_ok X G (c.fact 41 rfl), He.free_ok X G (c.fact 42 rfl), He.str_ok X G (c.fact 43 rfl), He.int_ok X G (c.fact 44 rfl), He.int_ok X G (c.fact 45 rfl)⟩
  obtain ⟨fd_iF, R_iF⟩ := ini_of (d := iF) X G T.z_super F_iF (cw.i iF (List.mem_cons_self ..)).2 (cw.i iF (List.mem_cons_self ..)).1
  obtain ⟨cc_iF, cda_iF, S_iF⟩ := R_iF.s
  have cx := cw.ex
  unfold ex at cx
  simp only [Bool.and_eq_true] at cx
  obtain ⟨x0, x1, x2, x3, x4⟩ := cx
  have AP := apartB_ok x1
  have IC := iscB_ok x2
  have CR := creadB_ok x3
  have CN := conB_ok x4
  have b := FunD.bindsA (ps := ["_law_script"]) F_law fun _ _ _ _ _ _ us hl => match us, hl with | [_], _ => rfl
  refine ⟨fd_law, fun s v => b s [v] rfl, fun base _ _ B => ?_⟩
  have SC : ShC K (He.ga K "Sheet") := ⟨CL, NO_listed⟩
  have O_is_name : Own R.prog w K mg base CX0 1 "is_name" ["value"] (sp_name K) _ fd_is_name := ⟨ok_is_name F_is_name T, m_is_name, F_is_name.kp, F_is_name.bindsN fun _ _ _ _ _ _ us hl => match us, hl with | [_], _ => rfl⟩
  have O_is_integer : Own R.prog w K mg base CX0 1 "is_integer" ["value"] (sp_int K) _ fd_is_integer := ⟨ok_is_integer F_is_integer T, m_is_integer, F_is_integer.kp, F_is_integer.bindsN fun _ _ _ _ _ _ us hl => match us, hl with | [_], _ => rfl⟩
  have O_first_wrong_name : Own R.prog w K mg base CX0 2 "first_wrong_name" ["values", "most"] (sp_fwn K) _ fd_first_wrong_name := ⟨ok_first_wrong_name F_first_wrong_name T O_is_name, m_first_wrong_name, F_first_wrong_name.kp, F_first_wrong_name.bindsN fun _ _ _ _ _ _ us hl => match us, hl with | [_, _], _ => rfl⟩
  have O_common_divisor : Own R.prog w K mg base CX0 1 "common_divisor" ["first", "second"] sp_gcd _ fd_common_divisor := ⟨ok_common_divisor F_common_divisor T, m_common_divisor, F_common_divisor.kp, F_common_divisor.bindsN fun _ _ _ _ _ _ us hl => match us, hl with | [_, _], _ => rfl⟩
  have O_is_number : Own R.prog w K mg base CX0 2 "is_number" ["value"] (sp_num K) _ fd_is_number := ⟨ok_is_number F_is_number T O_is_integer O_common_divisor, m_is_number, F_is_number.kp, F_is_number.bindsN fun _ _ _ _ _ _ us hl => match us, hl with | [_], _ => rfl⟩
  have EF : OwnE R.prog w K mg base 1 "InvalidFields" ["self", "index"] (sp_iniI "index" (He.ga K "InvalidFields")) (He.ga K "InvalidFields") (iniAt K iF) fd_iF (tlOf "ValueError") "ValueError.__new__" := ⟨R_iF.t, R_iF.i, R_iF.ti, ok_iniInvalidFields R_iF.t S_iF (He.eqO_ok x0) R_iF.lk, R_iF.binds fun _ _ _ _ _ us hl => match us, hl with | [_, _], _ => rfl, R_iF.m⟩
  have M_has_field : OwnM R.prog w K mg base CX0 1 (He.ga K "Sheet") "has_field" (sp_has K (He.ga K "Sheet")) := ⟨raw_of (ok_Sheet_has_field F_Sheet_has_field T SC) (F_Sheet_has_field.bindsN fun _ _ _ _ _ _ us hl => match us, hl with | [_, _], _ => rfl), ME_Sheet_has_field, CL⟩
  have M_fields : OwnM R.prog w K mg base CX0 1 (He.ga K "Sheet") "fields" (sp_fields K (He.ga K "Sheet")) := ⟨raw_of (ok_Sheet_fields F_Sheet_fields T SC) (F_Sheet_fields.bindsN fun _ _ _ _ _ _ us hl => match us, hl with | [_], _ => rfl), ME_Sheet_fields, CL⟩
  have S_eq : OwnS R.prog w K mg base 1 (He.ga K "Sheet") "__eq__" ["self", "other"] (sp_shEq K (He.ga K "Sheet")) _ fd_Sheet_eq := ⟨ok_Sheet_eq F_Sheet_eq T SC IC C_Sheet, ME_Sheet_eq.at_, ME_Sheet_eq.fn, F_Sheet_eq.bindsN fun _ _ _ _ _ _ us hl => match us, hl with | [_, _], _ => rfl⟩
  have MK : OwnK R.prog w K mg base (L2.CX R.prog w) 3 "Sheet" (He.ga K "Sheet") (sp_shInit K (He.ga K "Sheet") (He.ga K "InvalidFields")) := ⟨raw_of (ok_Sheet_init F_Sheet_init T SC C_Sheet CR CN EF O_first_wrong_name) (F_Sheet_init.bindsN fun _ _ _ _ _ _ us hl => match us, hl with | [_, _], _ => rfl), MKR, C_Sheet⟩
  have O_is_known_level : Own R.prog w K mg base CX0 2 "is_known_level" ["value"] (sp_level K) _ fd_is_known_level := ⟨ok_is_known_level F_is_known_level T O_is_integer, m_is_known_level, F_is_known_level.kp, F_is_known_level.bindsN fun _ _ _ _ _ _ us hl => match us, hl with | [_], _ => rfl⟩
  have O_is_setting : Own R.prog w K mg base CX0 3 "is_setting" ["sheet", "value"] (sp_set K (He.ga K "Sheet")) _ fd_is_setting := ⟨ok_is_setting F_is_setting T O_is_integer O_is_name M_has_field O_is_number O_is_known_level, m_is_setting, F_is_setting.kp, F_is_setting.bindsN fun _ _ _ _ _ _ us hl => match us, hl with | [_, _], _ => rfl⟩
  have W_set := kb2 (a := "sheet") (b := "value") F_is_setting fun _ _ _ _ _ _ _ _ => rfl
  have O_pot : Own R.prog w K mg base CX0 1 "_law_pot" ["_law_script", "_law_k"] (sp_pot K) _ fd_pot := ⟨ok_pot F_pot T, m_pot, F_pot.kp, F_pot.bindsN fun _ _ _ _ _ _ us hl => match us, hl with | [_, _], _ => rfl⟩
  have O_draw : Own R.prog w K mg base CX0 1 "_law_draw" ["_law_pot_here", "_law_many"] sp_draw _ fd_draw := ⟨ok_draw F_draw T, m_draw, F_draw.kp, F_draw.bindsN fun _ _ _ _ _ _ us hl => match us, hl with | [_, _], _ => rfl⟩
  have O_word : Own R.prog w K mg base CX0 2 "_law_word" ["_law_pot_here", "_law_taken"] (sp_word K) _ fd_word := ⟨ok_word F_word T O_draw, m_word, F_word.kp, F_word.bindsN fun _ _ _ _ _ _ us hl => match us, hl with | [_, _], _ => rfl⟩
  have O_words : Own R.prog w K mg base CX0 3 "_law_words" ["_law_pot_here", "_law_many"] sp_words _ fd_words := ⟨ok_words F_words T O_word, m_words, F_words.kp, F_words.bindsN fun _ _ _ _ _ _ us hl => match us, hl with | [_, _], _ => rfl⟩
  have O_common : Own R.prog w K mg base CX0 1 "_law_common" ["_law_a", "_law_b"] sp_gcd _ fd_common := ⟨ok_common F_common T, m_common, F_common.kp, F_common.bindsN fun _ _ _ _ _ _ us hl => match us, hl with | [_, _], _ => rfl⟩
  have O_ratio : Own R.prog w K mg base CX0 2 "_law_ratio" ["_law_top", "_law_low"] (sp_lowest K) _ fd_ratio := ⟨ok_ratio F_ratio T O_common, m_ratio, F_ratio.kp, F_ratio.bindsN fun _ _ _ _ _ _ us hl => match us, hl with | [_, _], _ => rfl⟩
  have O_worth : Own R.prog w K mg base CX0 3 "_law_worth" ["_law_pot_here"] (sp_worth K) _ fd_worth := ⟨ok_worth F_worth T O_draw O_ratio, m_worth, F_worth.kp, F_worth.bindsN fun _ _ _ _ _ _ us hl => match us, hl with | [_], _ => rfl⟩
  have O_is_whole : Own R.prog w K mg base CX0 1 "_law_is_whole" ["_law_thing"] (sp_int K) _ fd_is_whole := ⟨ok_is_whole F_is_whole T, m_is_whole, F_is_whole.kp, F_is_whole.bindsN fun _ _ _ _ _ _ us hl => match us, hl with | [_], _ => rfl⟩
  have O_is_word : Own R.prog w K mg base CX0 1 "_law_is_word" ["_law_thing"] (sp_name K) _ fd_is_word := ⟨ok_is_word F_is_word T, m_is_word, F_is_word.kp, F_is_word.bindsN fun _ _ _ _ _ _ us hl => match us, hl with | [_], _ => rfl⟩
  have O_is_ratio : Own R.prog w K mg base CX0 2 "_law_is_ratio" ["_law_thing"] (sp_num K) _ fd_is_ratio := ⟨ok_is_ratio F_is_ratio T O_is_whole O_common, m_is_ratio, F_is_ratio.kp, F_is_ratio.bindsN fun _ _ _ _ _ _ us hl => match us, hl with | [_], _ => rfl⟩
  have O_is_told : Own R.prog w K mg base CX0 3 "_law_is_told" ["_law_labels", "_law_thing"] (sp_told K) _ fd_is_told := ⟨ok_is_told F_is_told T O_is_whole O_is_word O_is_ratio, m_is_told, F_is_told.kp, F_is_told.bindsN fun _ _ _ _ _ _ us hl => match us, hl with | [_, _], _ => rfl⟩
  have O_odd : Own R.prog w K mg base CX0 2 "_law_odd" ["_law_pot_here"] (sp_oddS K) _ fd_odd := ⟨ok_odd F_odd T O_draw, m_odd, F_odd.kp, F_odd.bindsN fun _ _ _ _ _ _ us hl => match us, hl with | [_], _ => rfl⟩
  have O_spoilt : Own R.prog w K mg base CX0 3 "_law_spoilt" ["_law_pot_here", "_law_row"] (sp_spoil K) _ fd_spoilt := ⟨ok_spoilt F_spoilt T O_draw O_odd, m_spoilt, F_spoilt.kp, F_spoilt.bindsN fun _ _ _ _ _ _ us hl => match us, hl with | [_, _], _ => rfl⟩
  have O_lines : Own R.prog w K mg base CX0 2 "_law_lines" ["_law_pot_here", "_law_wide", "_law_many"] sp_lines _ fd_lines := ⟨ok_lines F_lines T O_draw, m_lines, F_lines.kp, F_lines.bindsN fun _ _ _ _ _ _ us hl => match us, hl with | [_, _, _], _ => rfl⟩
  have O_told : Own R.prog w K mg base CX0 4 "_law_told" ["_law_pot_here", "_law_labels", "_law_folk", "_law_many"] (sp_tell K) _ fd_told := ⟨ok_told F_told T O_draw O_worth, m_told, F_told.kp, F_told.bindsN fun _ _ _ _ _ _ us hl => match us, hl with | [_, _, _, _], _ => rfl⟩
  have O_case : Own R.prog w K mg base CX0 5 "_law_case" ["_law_pot_here", "_law_wide", "_law_many", "_law_most"] (sp_case K) _ fd_case := ⟨ok_case F_case T O_draw O_words O_lines O_told, m_case, F_case.kp, F_case.bindsN fun _ _ _ _ _ _ us hl => match us, hl with | [_, _, _, _], _ => rfl⟩
  have O_right : OwnG R.prog w K mg base CX0 7 "_law_right" ["_law_pot_here"] sp_right _ fd_right := ⟨ok_right F_right T B MK M_fields S_eq AP O_case O_words O_told O_spoilt O_odd O_is_setting W_set O_is_told, m_right, F_right.kp, F_right.bindsN fun _ _ _ _ _ _ us hl => match us, hl with | [_], _ => rfl⟩
  exact ok_law F_law T B O_pot O_right
end K31
open PySem PySem.W PySem.Calls PyProof.Rows
theorem PySem.Challenge.cw_lastheld_k31_settings_judged_holds : PySem.Challenge.rw_lastheld_k31_settings_judged.Holds := by
  w_on; o_law
  refine HandSHeadRun.head_any (r := OpenLaw.row PySem.Challenge.rw_lastheld_k31_settings_judged) (q := view (OpenLaw.row PySem.Challenge.rw_lastheld_k31_settings_judged).prog [40]) (H := K31.hk) (ob := K31.ob) (M := 20000) (loose := K31.names)
    (d := HandSHeadRun.topDef (OpenLaw.row PySem.Challenge.rw_lastheld_k31_settings_judged).prog 40) (kwd := []) K31.ob_eq
    (by kernel_rfl) (fun s => by kernel_rfl) K31.run (by kernel_rfl) (by kernel_rfl) (by kernel_rfl) (by rfl) (by first | assumption | decide +kernel) (by decide +kernel) ⟨rfl, rfl, rfl, rfl, rfl, by decide +kernel⟩ ?hw ?hc
  case hw => w_witness2
  case hc =>
    refine Lw.walk_g (l := PySem.Challenge.rw_lastheld_k31_settings_judged) (n := 63) (k := 8) (x := "_law_script") (CX := L2.CX0) rfl (by decide) (by kernel_rfl) (by kernel_rfl) ⟨rfl, by decide, by decide⟩ ?F (fun _ _ _ _ z => z)
    intro w mg fa h Y G hmg0
    obtain ⟨K, KX, c⟩ := Y
    have hmg : mg ("law" : PySem.Str) = some (.ref fa) := by
      have e : (HandSHeadRun.topDef (OpenLaw.row PySem.Challenge.rw_lastheld_k31_settings_judged).prog 40).name = ("law" : PySem.Str) := by kernel_rfl
      rw [← e]
      exact hmg0
    obtain ⟨fd, hb, hF⟩ := K31.facts (w := w) KX G hmg c
    exact ⟨K, fd, K31.sp_law K, KX, hb, fun H a ns hl _ hS => ⟨a, ns, rfl, hS, hl, fun _ => rfl⟩, hF⟩


import PyProof.Rows.All
import Wide.All
import OpenK.AllK
import Wide.FinOn
import PyProof.ReprRoads
import PyProof.StrBlock2
import HandS.ForMost
import HandS.Walk
import HandS.IsInst
import HandS.Defaults
import HandS.Flow
import HandS.Wide
import HandS.HeadEnd
import HandS.ForExc
import HandS.ExcInit
import HandS.ExcIs
import HandS.ExcField
import HandS.NestedK
import KE.KExcSuper
import HandS.StrMore
import HandS.Style
import KE.IntTextText
import PyProof.StrLawsChain
import HandS.Head0
import HandS.Head1
import HandS.Head2
import HandS.HeadHook1
import HandS.HeadHook2
import HandS.Star
import HandS.CallSlots
import HandS.MakeKw
import KE.DataFind
import PyProof.NeKinds
import HandS.ExcValue
import KE.KDictZip
import PyProof.ListNew
import HandS.GenList
import HandS.ClsMeth
import HandS.Property
import HandS.FStr
import KE.KCallOwn
import KE.KFmtOwn
import HandS.OwnEq
import PyProof.FactsAll.NoneType_1
import PyProof.FactsAll.bool_1
import PyProof.FactsAll.dict_1
import PyProof.FactsAll.object_2
import KE.GoesEnum
import HandS.Strs
import HandS.Conv
import HandS.ReplaceDef
import HandS.ReplaceLit
import HandS.TupAny
import KE.KRevSl
import HandS.Text
import HandS.WideBits
import HandS.Zip
import KE.KParD
import HandS.Lambda
import HandS.DictComp
import PySem.Challenge.RW_lastheld_k16_equations_by_name
set_option Elab.async false
set_option linter.all false
set_option maxRecDepth 100000
set_option maxHeartbeats 2000000
namespace Lw
open PySem PySem.Spec PyProof.Rows L2

/-! ## data with dicts of numbers by texts, and repr -/
/-- a number: an int or a pair of ints -/
inductive Nq (K : PySem.W.Frag) (H : Hp) : V → PyData → Prop
  | int (i : Int) : Nq K H (.int i) (.int i)
  | tup {a : Addr} {n e : Int} (h : SqT K H a [.int n, .int e]) : Nq K H (.ref a) (.tuple [.int n, .int e])
abbrev NqD (K : PySem.W.Frag) (H : Hp) : List (Key × V) → List (PyData × PyData) → Prop := Paired fun (p : Key × V) (q : PyData × PyData) => ∃ z : Str, p.1 = Sum.inr z ∧ q.1 = .str z ∧ Nq K H p.2 q.2
mutual
inductive Dq (K : PySem.W.Frag) (H : Hp) : V → PyData → Prop
  | non : Dq K H .non .none
  | bl (b : Bool) : Dq K H (.bl b) (.bool b)
  | int (i : Int) : Dq K H (.int i) (.int i)
  | str (x : Str) : Dq K H (.str x) (.str x)
  | lst {a : Addr} {xs : List V} {ds : List PyData} (h : SqL K H a xs) (g : DqAll K H xs ds) : Dq K H (.ref a) (.list ds)
  | tup {a : Addr} {xs : List V} {ds : List PyData} (h : SqT K H a xs) (g : DqAll K H xs ds) : Dq K H (.ref a) (.tuple ds)
  | dic {a : Addr} (h : H a = some (.dK [])) : Dq K H (.ref a) (.dict [])
  | dct {a : Addr} {kvs : List (Key × V)} {ds : List (PyData × PyData)} (h : H a = some (.dK kvs)) (ne : kvs ≠ []) (g : NqD K H kvs ds) : Dq K H (.ref a) (.dict ds)
inductive DqAll (K : PySem.W.Frag) (H : Hp) : List V → List PyData → Prop
  | nil : DqAll K H [] []
  | cons {v : V} {vs : List V} {d : PyData} {ds : List PyData} (h : Dq K H v d) (g : DqAll K H vs ds) : DqAll K H (v :: vs) (d :: ds)
end

theorem same_t {K : PySem.W.Frag} {H H' : Hp} {a : Addr} {xs : List V} (e : Same H H') (h : SqT K H a xs) : SqT K H' a xs := by
  rcases h with (h | ⟨o, h⟩) | h
  · exact .inl (.inl (e _ _ h))
  · exact .inl (.inr ⟨o, e _ _ h⟩)
  · exact .inr h
theorem same_upd {H : Hp} {p : Addr} {o : HO} (h : H p = none) : Same H (upd H p o) := fun b x e => by
  rw [upd_ne (ne_of_none e h)]
  exact e
theorem Nq.same {K : PySem.W.Frag} {H H' : Hp} (e : Same H H') {v : V} {d : PyData} (h : Nq K H v d) : Nq K H' v d := by
  cases h with
  | int i => exact .int i
  | tup h => exact .tup (same_t e h)
theorem NqD.same {K : PySem.W.Frag} {H H' : Hp} (e : Same H H') : ∀ {kvs : List (Key × V)} {ds : List (PyData × PyData)}, NqD K H kvs ds → NqD K H' kvs ds
  | _, _, .nil => .nil
  | _, _, .cons ⟨z, h1, h2, h3⟩ g => .cons ⟨z, h1, h2, h3.same e⟩ (NqD.same e g)
mutual
theorem Dq.same {K : PySem.W.Frag} {H H' : Hp} (e : Same H H') : ∀ {v : V} {d : PyData}, Dq K H v d → Dq K H' v d
  | _, _, .non => .non
  | _, _, .bl b => .bl b
  | _, _, .int i => .int i
  | _, _, .str x => .str x
  | _, _, .lst h g => .lst (e.seq h) (DqAll.same e g)
  | _, _, .tup h g => .tup (same_t e h) (DqAll.same e g)
  | _, _, .dic h => .dic (e _ _ h)
  | _, _, .dct h ne g => .dct (e _ _ h) ne (g.same e)
theorem DqAll.same {K : PySem.W.Frag} {H H' : Hp} (e : Same H H') : ∀ {v : List V} {d : List PyData}, DqAll K H v d → DqAll K H' v d
  | _, _, .nil => .nil
  | _, _, .cons h g => .cons (Dq.same e h) (DqAll.same e g)
end

/-- the table of modules stands, and is a dict -/
def SysOk (h : Heap) : Prop := ∃ o es ep, h.get? sysModules = some o ∧ o.data = Data.dict es ep

section
variable {X : Cx} {pins : List (Addr × Obj)} {σ : L2.St} {H : Hp} {s : Shared}
theorem no_sys (B : SysOk X.base) (I : Inv X pins σ H s) {a : Addr} {o : Obj} {vs : Array Value} {n : Nat} (h : s.heap.get? a = some o) (hd : o.data = .seq vs n) : sysModules ≠ a := by
  obtain ⟨o', es, ep, e1, e2⟩ := B
  intro z
  have e3 := I.bk _ _ e1
  rw [z, h] at e3
  cases e3
  rw [hd] at e2
  cases e2
theorem dict0 (I : Inv X pins σ H s) {a : Addr} (h : H a = some (.dK [])) : ∃ o es ep, s.heap.get? a = some o ∧ o.cls = .type "dict" ∧ o.data = Data.dict es ep ∧ es.toList = [] ∧ sysModules ≠ a := by
  obtain ⟨_, h1, vs, kv, o, es, ep, e1, e2, e3, _, e5, _⟩ := (show ObjOk X.prog X.w H s.heap a (.dK []) from I.hok a _ h)
  have e6 : vs = [] := by
    have := Paired.length kv
    cases vs with
    | nil => rfl
    | cons _ _ => simp at this
  subst e6
  refine ⟨o, es, ep, e1, e2.1, e3, ?_, fun z => ?_⟩
  · generalize es.toList = l at e5
    cases e5
    rfl
  · rw [← z] at h1
    exact absurd h1 (by decide)
theorem Nq.reads {v : V} {d : PyData} {u : Value} (I : Inv X pins σ H s) (h : Nq X.K H v d) (r : RelV v u) : Reads s.heap u d [] := by
  cases h with
  | int i =>
    obtain ⟨t, rfl⟩ := r
    exact .int i t
  | tup h =>
    cases r
    obtain ⟨its, rv, ⟨o, ho, hc, n, hd⟩, _⟩ := I.tuple h
    cases rv with
    | cons r1 rv =>
      cases rv with
      | cons r2 rv =>
        cases rv
        obtain ⟨t1, rfl⟩ := r1
        obtain ⟨t2, rfl⟩ := r2
        exact Reads.tuple ho hc hd (.cons (.int _ _) (.cons (.int _ _) .nil))
theorem NqD.reads (I : Inv X pins σ H s) : ∀ {kvs : List (Key × V)} {ds : List (PyData × PyData)} {vs : List (Key × Value)} {es : List DictEntry}, NqD X.K H kvs ds → KV kvs vs → Pairs (mixKind X.prog X.w) es vs →
    ReadsAll s.heap (es.map fun e => e.key) (ds.map fun q => q.1) [] ∧ ReadsAll s.heap (es.map fun e => e.val) (ds.map fun q => q.2) []
  | _, _, _, _, .nil, .nil, .nil => ⟨.nil, .nil⟩
  | (k0, v0) :: _, (d0, d1) :: _, (k2, u2) :: _, e :: _, .cons ⟨z, h1, h2, h3⟩ g, .cons ⟨k1, r1⟩ k, .cons p1 p2 p => by
    obtain ⟨i1, i2⟩ := NqD.reads I g k p
    cases (show k0 = Sum.inr z from h1)
    cases (show d0 = PyData.str z from h2)
    cases (show Sum.inr z = k2 from k1)
    constructor
    · have p1' : keyIs (Sum.inr z) e.key = true := p1
      rcases keyIs_shape p1' with ⟨i, t, q, _⟩ | ⟨x, t, q, e2⟩
      · cases q
      · cases q
        refine ReadsAll.cons (as := []) (bs := []) ?_ i1
        show Reads s.heap e.key (.str z) []
        rw [e2]
        exact .str z t
    · refine ReadsAll.cons (as := []) (bs := []) ?_ i2
      show Reads s.heap e.val d1 []
      rw [p2]
      exact Nq.reads I h3 r1
mutual
theorem Dq.reads (B : SysOk X.base) (I : Inv X pins σ H s) : ∀ (d : PyData) (v : V) (u : Value), Dq X.K H v d → RelV v u → ∃ as, Reads s.heap u d as ∧ sysModules ∉ as
  | .none, _, _, h, r => by
    cases h
    cases r
    exact ⟨_, Reads.none, by simp⟩
  | .bool b, _, _, h, r => by
    cases h
    cases r
    exact ⟨_, Reads.bool b, by simp⟩
  | .int i, _, _, h, r => by
    cases h
    obtain ⟨t, rfl⟩ := r
    exact ⟨_, Reads.int i t, by simp⟩
  | .str x, _, _, h, r => by
    cases h
    obtain ⟨t, rfl⟩ := r
    exact ⟨_, Reads.str x t, by simp⟩
  | .list ds, _, _, h, r => by
    cases h with
    | lst hs ha =>
      cases r
      obtain ⟨its, rv, ⟨o, n, ho, hc, _, hd⟩, _⟩ := I.list hs
      obtain ⟨as, hr, hn⟩ := DqAll.reads B I ds _ its ha rv
      refine ⟨_, Reads.list ho hc hd hr, fun z => ?_⟩
      rcases List.mem_cons.mp z with z | z
      · exact no_sys B I ho hd z
      · exact hn z
  | .tuple ds, _, _, h, r => by
    cases h with
    | tup hs ha =>
      cases r
      obtain ⟨its, rv, ⟨o, ho, hc, n, hd⟩, _⟩ := I.tuple hs
      obtain ⟨as, hr, hn⟩ := DqAll.reads B I ds _ its ha rv
      exact ⟨_, Reads.tuple ho hc hd hr, hn⟩
  | .dict kvs, _, _, h, r => by
    cases h with
    | dic h =>
      cases r
      obtain ⟨o, es, ep, e1, e2, e3, e4, e5⟩ := dict0 I h
      refine ⟨_, Reads.dict (as := []) (bs := []) e1 e2 e3 ?_ ?_, fun z => ?_⟩
      · rw [e4]
        exact .nil
      · rw [e4]
        exact .nil
      · rcases List.mem_cons.mp z with z | z
        · exact e5 z
        · simp at z
    | dct h ne g =>
      rename_i a kvs'
      cases r
      obtain ⟨_, h1, vs, kv, o, es, ep, e1, e2, e3, _, e5, _⟩ := (show ObjOk X.prog X.w H s.heap a (.dK kvs') from I.hok a _ h)
      obtain ⟨r1, r2⟩ := NqD.reads I g kv e5
      refine ⟨_, Reads.dict (as := []) (bs := []) e1 e2.1 e3 r1 r2, fun z => ?_⟩
      have z' : sysModules = a := by simpa using z
      rw [← z'] at h1
      exact absurd h1 (by decide)
theorem DqAll.reads (B : SysOk X.base) (I : Inv X pins σ H s) : ∀ (ds : List PyData) (vs : List V) (us : List Value), DqAll X.K H vs ds → Vals vs us → ∃ as, ReadsAll s.heap us ds as ∧ sysModules ∉ as
  | [], _, _, h, r => by
    cases h
    cases r
    exact ⟨_, ReadsAll.nil, by simp⟩
  | d :: ds, _, _, h, r => by
    cases h with
    | cons h1 h2 =>
      cases r with
      | cons r1 r2 =>
        obtain ⟨as, q1, n1⟩ := Dq.reads B I d _ _ h1 r1
        obtain ⟨bs, q2, n2⟩ := DqAll.reads B I ds _ _ h2 r2
        refine ⟨_, ReadsAll.cons q1 q2, fun z => ?_⟩
        rcases List.mem_append.mp z with z | z
        · exact n1 z
        · exact n2 z
end
end

/-- repr(x) of data: its text -/
def rRepr (K : PySem.W.Frag) : List V → Hp → VK → Prop := fun xs H Q =>
  ∃ (v : V) (d : PyData), xs = [v] ∧ Dq K H v d ∧ d.showable = true ∧ d.shown.length ≤ sizeLine ∧ d.depth ≤ 60 ∧ Q (.str d.shown) H
section
variable {X : Cx}
theorem call_repr (B : SysOk X.base) (hg : X.A.guards = some []) (hu : X.A.units + 64 < cLine) : CallR X (.builtin "repr") (rRepr X.K) := by
  intro pins s σ H xs us Q I r h
  obtain ⟨v, d, rfl, hd, hs, hz, hp, q⟩ := h
  obtain ⟨u, rfl, ru⟩ := vals1 r
  obtain ⟨as, r1, ns⟩ := Dq.reads B I d v u hd ru
  cases r1 with
  | none => exact PySem.P.repr_of_none ⟨.str _, H, I.tok _, ⟨_, rfl⟩, q⟩
  | bool b => exact PySem.P.repr_of_bool ⟨.str _, H, I.tok _, ⟨_, rfl⟩, q⟩
  | int i t => exact PySem.P.repr_of_int (by simpa [PyData.showable] using hs) ⟨.str _, H, I.tok _, ⟨_, rfl⟩, q⟩
  | str x t => exact PySem.P.repr_of_str ⟨.str _, H, I.tok _, ⟨_, rfl⟩, q⟩ hz
  | list h1 h2 h3 h4 => exact repr_of_reads' (Reads.list h1 h2 h3 h4) hs (fun _ => ns) hg (by omega) (fun _ _ e => e) (fun h' u tk hk => ⟨.str _, H, I.kept hk, ⟨_, rfl⟩, q⟩) hz
  | tuple h1 h2 h3 h4 => exact repr_of_reads' (Reads.tuple h1 h2 h3 h4) hs (fun _ => ns) hg (by omega) (fun _ _ e => e) (fun h' u tk hk => ⟨.str _, H, I.kept hk, ⟨_, rfl⟩, q⟩) hz
  | dict h1 h2 h3 h4 h5 => exact repr_of_reads' (Reads.dict h1 h2 h3 h4 h5) hs (fun _ => ns) hg (by omega) (fun _ _ e => e) (fun h' u tk hk => ⟨.str _, H, I.kept hk, ⟨_, rfl⟩, q⟩) hz
/-- text * int -/
def rMulS : R2 := fun x y H Q => ∃ (z : Str) (n : Int), x = .str z ∧ y = .int n ∧ MulOk z n ∧ Q (.str (Txt.mul z n)) H
theorem op_mulS : OpR X (binaryOp .Mult) rMulS := by
  intro pins s σ H x y v u Q I rx ry h
  obtain ⟨z, n, rfl, rfl, ok, q⟩ := h
  obtain ⟨t, rfl⟩ := rx
  obtain ⟨t', rfl⟩ := ry
  exact PySem.SB.mul ok fun t k => ⟨.str _, H, I.tok _, ⟨_, rfl⟩, q⟩
end

/-! ## calls by keywords alone -/
section
variable {X : Cx} {CX : CXT} {k n : Nat} {f : Addr} {fd : FuncData} {ps ks : List Str} {sp : Sp} {E : XK} {x : Str} {p pos : Pos} {kws : List Keyword} {tk : TA} {g : List Value → List Value → List Value} {gV : List V → List V → List V}
theorem pe_callW (F : FnOk X.prog X.w X.K X.mg X.base CX k f fd ps sp) (hr : Room k X.A) (hg : Gl X x) (hm : X.mg x = some (.ref f)) (hk : PySem.W.keepIn X.K (.ref f) = true) (hb : KBn X.K fd ps 0 ks g gV)
    (hx : Passes CX X E) (hkw : PK X kws tk)
    (hall : (backToKw pos (keywordEach kws X.env)).all (fun q => q.1.isSome) = true := by rfl)
    (hks : (backToKw pos (keywordEach kws X.env)).filterMap (fun q => q.1) = ks := by rfl)
    (hdb : (x == ("__debug__" : Str)) = false := by decide)
    (hpl : ((backTo pos (starEach [] X.env)).any (fun q => q.1) || (backToKw pos (keywordEach kws X.env)).any (fun q => q.1.isNone)) = false := by rfl) :
    PE X (.Call (.Name x p) [] kws pos) (tCallN 0 ks.length sp gV E tNil tk) := by
  constructor
  intro pins s σ H Q I h
  refine wpAny_Call_Name_kw (ld_glob I hg hm ?_ hdb)
  refine PySem.W.callWith_KW0 (h₀ := X.base) I.ok.mod.kin hk hall ?_ hpl
  refine thn (hkw.run pos pins s σ H _ I h) fun ws s2 hq => ?_
  obtain ⟨zs, H2, I2, rz, l1, l2, q2⟩ := hq
  refine ⟨I2.kIn, ?_⟩
  rw [hks]
  exact run_fnN (us := []) (vs := []) F hr hb hx I2 .nil rz rfl l2 q2
/-- one keyword for the one parameter -/
theorem kb1 {K : PySem.W.Frag} {y qual : Str} {params : Arguments} {body : List Stmt} {scope : Scope} {kw : List (Str × V)} {f : Addr} {fd : FuncData} {a : Str} (F : FunD K y qual params body scope [] kw f fd)
    (h : ∀ (kV doc pm : Value) (an : Option Addr) (cdv ct v : Value), bindArgs (PySem.W.fnOf y qual params body scope .none kV doc pm an cdv ct) ⟨[], [(a, v)]⟩ = pure [(a, v)]) :
    KBn K fd [a] 0 [a] (fun _ ws => ws) (fun _ zs => zs) := by
  obtain ⟨oc, od, dV, kV, doc, pm, an, cdv, ct, osl, rfl, lk, hcd, hD, hK⟩ := F.ex
  rcases hD with ⟨_, rfl⟩ | ⟨e, _⟩
  · refine ⟨fun s us ws X l1 l2 => ?_, fun _ r => r⟩
    match us, ws, l1, l2 with
    | [], [v], _, _ => exact .of_eq (h kV doc pm an cdv ct v)
  · exact absurd rfl e
end

/-! ## defs that are called where no repr is under way -/
structure FnG (P : Program) (w : World) (K : PySem.W.Frag) (mg : Str → Option Value) (base : Heap) (CX : CXT) (k : Nat) (f : Addr) (fd : FuncData) (ps : List Str) (sp : Sp) : Prop where
  len : ∀ vs H Q E, sp vs H Q E → vs.length = ps.length
  run : ∀ (A : Around) (outer : List Env) (s : Shared) (H : Hp) (args : Args) (us : List Value) (vs : List V) (Q : VK) (E : XK),
    A.guards = some [] → Room k A → Env0 P w K mg base A outer s H → BindsTo s fd args (ps.zip us) → Vals vs us → sp vs H Q E →
      codeAny (model P w) A (.call (.ref f) args) (CR CX outer P w H s Q E) s
section
variable {P : Program} {w : World} {K : PySem.W.Frag} {mg : Str → Option Value} {base : Heap} {x qual : Str} {params : Arguments} {body : List Stmt} {scope : Scope} {dvs : List V} {kws : List (Str × V)} {f : Addr} {fd : FuncData}
theorem fn_g {CX : CXT} {N ps : List Str} {k : Nat} {sp : Sp} (F : FunD K x qual params body scope dvs kws f fd) (S : FnScope N ps scope) (len : ∀ vs H Q E, sp vs H Q E → vs.length = ps.length)
    (hbody : ∀ (cdv : Value) (A : Around) (outer : List Env) (s : Shared) (H : Hp) (vs : List V) (Q : VK) (E : XK),
      A.guards = some [] → Room k (A.deeper (envOfC qual scope s.heap.objs.size f cdv)) → sp vs H Q E →
      ∃ t, PSs (cxOf CX P w K mg base N qual scope f cdv A outer s H E) body t ∧ t { nx := fun _ H' => Q .non H', rt := Q } (start N vs) H) :
    FnG P w K mg base CX (k + 1) f fd ps sp := by
  obtain ⟨oc, od, dV, kV, doc, pm, an, cdv, ct, osl, rfl, lk, hcd, _, _⟩ := F.ex
  refine ⟨len, fun A outer s H args us vs Q E hg hr e0 hb r hsp => ?_⟩
  have hk := fun b o e => (e0.bs b o e).1
  have KX : K.In s.heap := e0.mod.kin.keeps hk
  have lim : s.heap.NoLimit := e0.mod.nolimit.keeps hk
  have hkind : ∀ y ∈ ps.zip us, scope.names.lookup y.1 = some .local ∨ (scope.names.lookup y.1 = some .cell ∧ ((cellsFrom (s.heap.objs.size + 1) scope.names []).lookup y.1).isSome = true) := by
    rintro ⟨n, v⟩ hy
    exact (S.par n (List.of_mem_zip hy).1).imp (fun q => q) fun q => ⟨q, PySem.W.cellsFrom_some _ _ _ (.inl q)⟩
  refine codeAny_call_function hr.depth (KX _ _ lk) rfl S.co S.gen rfl (PySem.W.codeRec_of KX hcd) (hb _ _ _ _ ?_)
  refine wpAny_newFunctionEnv_cells S.kind hkind fun env he s1 y => ?_
  subst he
  obtain ⟨t, ht, hq⟩ := hbody cdv A outer s H vs Q E hg (hr.deeper _) hsp
  have I := inv_start (CX := CX) (E := E) S hr.hd e0 (len _ _ _ _ hsp) r y
  refine ⟨lim.keeps y.toInCall.keep, codeAny_func (wpAny_mono (ht.run [] s1 (start N vs) H _ I hq) (fun fl s' hs => ?_) fun e s' hs => hs)⟩
  cases fl with
  | ret u =>
    obtain ⟨v, σ', H', J, rv, q⟩ := hs
    exact ⟨v, H', J.os, J.bare, J.base, J.hok, rv, q⟩
  | next =>
    obtain ⟨σ', H', J, q⟩ := hs
    exact ⟨V.non, H', J.os, J.bare, J.base, J.hok, rfl, q⟩
  | brk => exact hs.elim fun _ z => z.elim fun _ z => z.2.elim
  | cont => exact hs.elim fun _ z => z.elim fun _ z => z.2.elim
end
section
variable {X : Cx} {CX : CXT} {k : Nat} {f : Addr} {fd : FuncData} {ps : List Str} {sp : Sp} {dvs : List V} {ds : List Value} {E : XK} {x : Str} {p pos : Pos} {e : Expr} {es : List Expr} {t : TA}
theorem run_g {pins : List (Addr × Obj)} {σ : L2.St} {H : Hp} {s : Shared} {Q : VK} {us : List Value} {vs : List V} (F : FnG X.prog X.w X.K X.mg X.base CX k f fd ps sp) (hgd : X.A.guards = some []) (hr : Room k X.A) (hb : Binds X.K fd ps ds) (hd : Vals dvs ds) (hx : Passes CX X E)
    (I : Inv X pins σ H s) (r : Vals vs us) (h : sp (vs ++ dvs) H Q E) : wpAny (model X.prog X.w) X.A (call (.ref f) us) (EP X pins σ Q) X.xe s := by
  have r2 : Vals (vs ++ dvs) (us ++ ds) := r.append hd
  have hl : (us ++ ds).length = ps.length := r2.length.symm.trans (F.len _ _ _ _ h)
  refine wpAny_call (codeAny_mono (F.run X.A X.stack s H ⟨us, []⟩ _ _ Q E hgd hr I.env0 (hb s us I.kIn hl) r2 h) fun r s' hq => ?_)
  match r, hq with
  | .error e, hq => exact hx pins σ H s e s' I hq
  | .ok (.ret u), hq => exact I.after hq
  | .ok .next, hq => exact False.elim hq
  | .ok .brk, hq => exact False.elim hq
  | .ok .cont, hq => exact False.elim hq
theorem pe_callg (F : FnG X.prog X.w X.K X.mg X.base CX k f fd ps sp) (hgd : X.A.guards = some []) (hr : Room k X.A) (hg : Gl X x) (hm : X.mg x = some (.ref f)) (hk : PySem.W.keepIn X.K (.ref f) = true) (hb : Binds X.K fd ps ds) (hd : Vals dvs ds) (hx : Passes CX X E)
    (ha : PA X (e :: es) t) (hdb : (x == ("__debug__" : Str)) = false := by decide) (he : starEach (e :: es) X.env = (false, eval e X.env) :: starEach es X.env := by rfl)
    (hpl : (backTo pos (starEach es X.env)).any (fun q => q.1) = false := by rfl) : PE X (.Call (.Name x p) (e :: es) [] pos) (tCall sp dvs E t) := by
  constructor
  intro pins s σ H Q I h
  refine wpAny_Call_Name_kw (ld_glob I hg hm (PySem.W.callWith_K (h₀ := X.base) I.ok.mod.kin hk ?_ he hpl) hdb)
  exact thn (ha.run pos pins s σ H _ I h) fun us s1 ⟨vs, H1, I1, r, q⟩ => ⟨I1.kIn, run_g F hgd hr hb hd hx I1 r q⟩
theorem pe_callg0 (F : FnG X.prog X.w X.K X.mg X.base CX k f fd ps sp) (hgd : X.A.guards = some []) (hr : Room k X.A) (hg : Gl X x) (hm : X.mg x = some (.ref f)) (hk : PySem.W.keepIn X.K (.ref f) = true) (hb : Binds X.K fd ps ds) (hd : Vals dvs ds) (hx : Passes CX X E)
    (hdb : (x == ("__debug__" : Str)) = false := by decide) : PE X (.Call (.Name x p) [] [] pos) (tCall sp dvs E tNil) := by
  constructor
  intro pins s σ H Q I h
  exact wpAny_Call_Name_kw (ld_glob I hg hm (PySem.W.callWith_K0 I.kIn hk (run_g (us := []) F hgd hr hb hd hx I .nil h)) hdb)
end

/-! ## the law's own call -/
theorem law_g {P : Program} {w : World} {K : PySem.W.Frag} {mg mb : Str → Option Value} {CX : CXT} {k : Nat} {fa a : Addr} {fd : FuncData} {x : Str} {sp : Sp} {s₁ : Shared} {vs : List Value} {ns : List Int}
    (KX : K.In s₁.heap) (hns : s₁.heap.Ns mainGlobals mg) (hb : s₁.heap.Ns builtinsNs mb) (hbb : ∀ x : Str, x ≠ "__name__" → mb x = bootBuiltins x) (hlim : s₁.heap.NoLimit) (hsy : SysOk s₁.heap) (hg : s₁.gens = #[])
    (ha : s₁.heap.get? a = some { cls := .type "list", data := .seq vs.toArray }) (hi : IntsAre vs ns) (hl : ns.length ≤ sizeLine) (hr : Room k callerA)
    (F : ∀ base : Heap, K.In base → base.Ns mainGlobals mg → SysOk base → FnG P w K mg base CX k fa fd [x] sp) (hbind : ∀ (s : Shared) (u : Value), BindsTo s fd ⟨[u], []⟩ [(x, u)])
    (hsp : ∀ H : Hp, Only H → SqL K H a (ns.map V.int) → sp [.ref a] H (fun v _ => v = .bl true) fun _ _ _ => False)
    (hCX : ∀ H e s', CX [] H s₁ (fun _ _ _ => False) e s' → False) :
    codeAny (model P w) callerA (.call (.ref fa) ⟨[.ref a], []⟩) (fun r s' => r = .ok (.ret (.bool true)) ∧ OldK s₁.heap s'.heap ∧ s'.os = s₁.os ∧ AllBare s'.gens) s₁ := by
  have rv := vals_ints hi
  have core : ∀ H : Hp, Only H → SqL K H a (ns.map V.int) → HOk P w H s₁.heap → (∀ b, H b ≠ none → b = a) → (H a ≠ none → K.lookup a = none) →
      codeAny (model P w) callerA (.call (.ref fa) ⟨[.ref a], []⟩) (fun r s' => r = .ok (.ret (.bool true)) ∧ OldK s₁.heap s'.heap ∧ s'.os = s₁.os ∧ AllBare s'.gens) s₁ := by
    intro H hO hS hok hA hK
    -- a dict is not the script: it is not tracked
    have noA : ∀ {b : Addr} {o : Obj} {es : Array DictEntry} {ep : Nat}, s₁.heap.get? b = some o → o.data = Data.dict es ep → H b = none := by
      intro b o es ep e d
      refine Classical.byContradiction fun z => ?_
      have e' := hA b z
      subst e'
      rw [ha] at e
      cases e
      cases d
    have nsK : ∀ {b : Addr} {m : Str → Option Value}, s₁.heap.Ns b m → (hidT s₁.heap H).Ns b m := by
      rintro b m ⟨o, es, ep, e, d, r⟩
      exact ⟨o, es, ep, hidT_get e (noA e d), d, r⟩
    have hKb : K.In (hidT s₁.heap H) := by
      intro b o e
      refine hidT_get (KX b o e) (Classical.byContradiction fun z => ?_)
      have e' := hA b z
      subst e'
      rw [hK z] at e
      cases e
    have hM : Mod K mg (hidT s₁.heap H) := by
      obtain ⟨mc, h1, h2⟩ := hlim
      exact ⟨hKb, nsK hns, ⟨mb, nsK hb, hbb⟩, ⟨mc, nsK h1, h2⟩⟩
    have hB : SysOk (hidT s₁.heap H) := by
      obtain ⟨o, es, ep, e1, e2⟩ := hsy
      exact ⟨o, es, ep, hidT_get e1 (noA e1 e2), e2⟩
    have e0 : Env0 P w K mg (hidT s₁.heap H) callerA [] s₁ H := ⟨rfl, hM, fun b o e => of_hidT e, Nat.le_of_eq (hidT_size _ _), trivial, fun b hb => absurd (show b ∈ ([] : List Addr) from hb) (by simp), hok, .of_eq hg⟩
    have run := (F _ hKb (nsK hns) hB).run callerA [] s₁ H ⟨[.ref a], []⟩ [.ref a] [.ref a] _ _ rfl hr e0 (hbind s₁ (.ref a)) (.cons rfl .nil) (hsp H hO hS)
    refine codeAny_mono run fun r s' h => ?_
    match r, h with
    | .error e, h => exact (hCX H e s' h).elim
    | .ok .next, h => exact False.elim h
    | .ok .brk, h => exact False.elim h
    | .ok .cont, h => exact False.elim h
    | .ok (.ret u), h =>
      obtain ⟨v, H', os, bare, un, hok', r', q⟩ := h
      cases (show v = .bl true from q)
      cases (show u = Value.bool true from r')
      refine ⟨rfl, OldK.of_keep fun b o e => ?_, os, bare⟩
      rcases hO b with z | ⟨ob, xs, z⟩
      · exact un.keep b o e z (by intro y; exact absurd (show b ∈ ([] : List Addr) from y) (by simp)) (by simp)
      · have e1 := (hok b _ z).1
        rw [e] at e1
        cases e1
        exact (hok' b _ (un.frzs b _ _ z)).1
  cases hk : K.lookup a with
  | some o =>
    have e := KX a o hk
    rw [ha] at e
    cases e
    refine core (fun _ => none) (fun _ => .inl rfl) (.inr ⟨_, vs.toArray, _, hk, rfl, rfl, rfl, ?_, ?_⟩) (fun b u z => nomatch z) (fun b z => absurd rfl z) fun z => absurd rfl z
    · rw [List.size_toArray, hi.length]
      exact hl
    · simpa using rv
  | none =>
    refine core (upd (fun _ => none) a (.frz { cls := .type "list", data := .seq vs.toArray } (.lst (ns.map V.int)))) (fun b => ?_) (.inl (.inr ⟨_, upd_same⟩)) (fun b u z => ?_) (fun b z => ?_) fun _ => hk
    · by_cases hb : b = a
      · exact .inr ⟨_, _, by rw [hb]; exact upd_same⟩
      · exact .inl (by rw [upd_ne hb])
    · by_cases hb : b = a
      · subst hb
        rw [upd_same] at z
        cases z
        exact ⟨ha, by rw [List.length_map]; exact hl, vs, _, rv, ha⟩
      · rw [upd_ne hb] at z
        cases z
    · exact Classical.byContradiction fun hb => z (by rw [upd_ne hb])

theorem walk_g {l : PySem.W.OpenLaw} {n k : Nat} {q : Program} {loose : List Str} {XP : (Str → Option Value) → Heap → Prop} {YP : World → Heap → Prop} {d : DefRec} {CX : CXT} {x : Str}
    (hn : l.most = some n) (hn2 : n ≤ sizeLine) (hdf : d.params.defaults = []) (hi : importsNone q = true) (hr : Room k callerA)
    (F : ∀ (w : World) (mg : Str → Option Value) (fa : Addr) (h : Heap), YP w h → h.Ns mainGlobals mg → mg d.name = some (.ref fa) →
      ∃ (K : PySem.W.Frag) (fd : FuncData) (sp : Sp), K.In h ∧ (∀ (s : Shared) (u : Value), BindsTo s fd ⟨[u], []⟩ [(x, u)]) ∧
        (∀ (H : Hp) (a : Addr) (ns : List Int), ns.length ≤ n → Only H → SqL K H a (ns.map V.int) → sp [.ref a] H (fun v _ => v = .bl true) fun _ _ _ => False) ∧
        ∀ base : Heap, K.In base → base.Ns mainGlobals mg → SysOk base → FnG l.prog w K mg base CX k fa fd [x] sp)
    (hCX : ∀ (H : Hp) (s : Shared) (e : Value) (s' : Shared), CX [] H s (fun _ _ _ => False) e s' → False) :
    PySem.W.WalkO q loose XP YP l.row.toRowW d [] (fun f vs => PySem.call f vs) := by
  refine Att.attach_call hn hdf fun w s₀ s₁ mg mb fa o pm cd doc a vs ns G Y ho hd hcd hmg hobj hints hlen hg => ?_
  obtain ⟨K, fd, sp, KX, hb, hsp, hF⟩ := F w mg fa _ Y G.T.g hmg
  have hsy : SysOk s₁.heap := by
    obtain ⟨mm, ⟨o, es, ep, e1, e2, _⟩, _⟩ := (G.T.seer hi).mods
    exact ⟨o, es, ep, e1, e2⟩
  exact law_g KX G.T.g G.T.b G.T.builtins G.T.nolimit hsy hg hobj hints (Nat.le_trans hlen hn2) hr hF hb (fun H hO hS => hsp H a ns hlen hO hS) fun H e s' => hCX H s₁ e s'
end Lw

set_option Elab.async false
set_option linter.all false
set_option maxRecDepth 100000
set_option maxHeartbeats 2000000
namespace Lw
open PySem PySem.Spec PyProof.Rows L2

/-! ## the heap without one object -/
def off (H : Hp) (a : Addr) : Hp := fun b => if b = a then none else H b
theorem off_ne {H : Hp} {a b : Addr} (h : b ≠ a) : off H a b = H b := by
  unfold off
  rw [if_neg h]
theorem off_self {H : Hp} {a : Addr} : off H a a = none := by
  unfold off
  rw [if_pos rfl]
theorem off_get {H : Hp} {a b : Addr} {o : HO} (h : off H a b = some o) : b ≠ a ∧ H b = some o := by
  by_cases e : b = a
  · rw [e, off_self] at h
    cases h
  · exact ⟨e, (off_ne e).symm.trans h⟩
theorem off_same {H : Hp} {a : Addr} : Same (off H a) H := fun _ _ h => (off_get h).2
/-- all but a is as it was -/
def Off (a : Addr) (H H' : Hp) : Prop := Same (off H a) (off H' a)
theorem Off.refl {a : Addr} {H : Hp} : Off a H H := fun _ _ h => h
theorem Off.trans {a : Addr} {H H1 H2 : Hp} (x : Off a H H1) (y : Off a H1 H2) : Off a H H2 := fun b o h => y b o (x b o h)
theorem Off.get {a b : Addr} {H H' : Hp} {o : HO} (x : Off a H H') (h : H b = some o) (n : b ≠ a) : H' b = some o := by
  have e := x b o ((off_ne n).trans h)
  exact (off_get e).2
theorem Off.at {a : Addr} {H : Hp} {o : HO} : Off a H (upd H a o) := by
  intro b u h
  obtain ⟨n, e⟩ := off_get h
  rw [off_ne n, upd_ne n]
  exact e
theorem Off.new {a p : Addr} {H : Hp} {o : HO} (h : H p = none) : Off a H (upd H p o) := by
  intro b u g
  obtain ⟨n, e⟩ := off_get g
  rw [off_ne n, upd_ne (ne_of_none e h)]
  exact e
theorem Off.same {a : Addr} {H H' : Hp} (x : Same H H') : Off a H H' := by
  intro b u g
  obtain ⟨n, e⟩ := off_get g
  rw [off_ne n]
  exact x _ _ e
theorem Off.free {a p : Addr} {H H' : Hp} (x : Off a H H') (h : H' p = none) (ha : ∃ o, H a = some o) (n : p ≠ a) : H p = none := by
  cases e : H p with
  | none => rfl
  | some o =>
    rw [x.get e n] at h
    cases h

/-! ## the pot -/
def PotAt (H : Hp) (a : Addr) : Prop := ∃ p q : Int, H a = some (.lst [.int p, .int q]) ∧ 0 ≤ q ∧ q < 2147483648
theorem PotAt.new {H : Hp} {a p : Addr} {o : HO} (h : PotAt H a) (n : H p = none) : PotAt (upd H p o) a := by
  obtain ⟨x, y, e, r⟩ := h
  exact ⟨x, y, by rw [upd_ne (ne_of_none e n)]; exact e, r⟩
theorem PotAt.same {H H' : Hp} {a : Addr} (h : PotAt H a) (s : Same H H') : PotAt H' a := by
  obtain ⟨x, y, e, r⟩ := h
  exact ⟨x, y, s _ _ e, r⟩
theorem PotAt.ne {H : Hp} {a p : Addr} (h : PotAt H a) (n : H p = none) : p ≠ a := by
  obtain ⟨x, y, e, r⟩ := h
  exact (ne_of_none e n).symm

/-! ## data: kinds -/
def tyD : PyData → String
  | .none => "NoneType"
  | .bool _ => "bool"
  | .int _ => "int"
  | .str _ => "str"
  | .list _ => "list"
  | .tuple _ => "tuple"
  | .dict _ => "dict"
theorem Dq.ty {K : PySem.W.Frag} {H : Hp} {v : V} {d : PyData} (h : Dq K H v d) : TyX K H v (.type (tyD d)) := by
  cases h with
  | non => exact .base .non
  | bl b => exact .base (.bl b)
  | int i => exact .base (.int i)
  | str x => exact .base (.str x)
  | lst h _ =>
    rcases h with (h | ⟨o, h⟩) | ⟨o, xs, n, h1, h2, _⟩
    · exact .base (.lst h)
    · exact .base (.frz h)
    · exact .kList h1 h2
  | tup h _ =>
    rcases h with (h | ⟨o, h⟩) | ⟨o, xs, n, h1, h2, _⟩
    · exact .base (.tup h)
    · exact .fTuple h
    · exact .kTuple h1 h2
  | dic h => exact .base (.dK h)
  | dct h _ _ => exact .base (.dK h)
/-- isinstance of data and a built-in class -/
theorem isi_ty {K : PySem.W.Frag} {H : Hp} {v : V} {d : PyData} {T : String} {b : Bool} {Q : VK} (h : Dq K H v d) (e : kitB (tyD d) T = some b) (q : Q (.bl b) H) : rIsi K [v, .ty T] H Q :=
  ⟨v, .ty T, .type (tyD d), .type T, b, rfl, .ty T, h.ty, kit_ty e, q⟩

/-! ## data: sizes -/
theorem len_list2 (a b : Str) : (listText [a, b]).length = a.length + b.length + 4 := by
  show (((("[" : Str) ++ ("" : String) ++ a) ++ (", " : String) ++ b) ++ ("]" : Str)).length = _
  simp only [strLen_append]
  show 1 + 0 + a.length + 2 + b.length + 1 = _
  omega
theorem len_list3 (a b c : Str) : (listText [a, b, c]).length = a.length + b.length + c.length + 6 := by
  show ((((("[" : Str) ++ ("" : String) ++ a) ++ (", " : String) ++ b) ++ (", " : String) ++ c) ++ ("]" : Str)).length = _
  simp only [strLen_append]
  show 1 + 0 + a.length + 2 + b.length + 2 + c.length + 1 = _
  omega
theorem len_bool (b : Bool) : (PyData.bool b).shown.length ≤ 5 := by cases b <;> decide
/-- data that can be shown in a row -/
structure Small (n : Nat) (d : PyData) : Prop where
  sh : d.showable = true
  ln : d.shown.length ≤ n
  dp : d.depth ≤ 10
theorem Small.mono {n m : Nat} {d : PyData} (h : Small n d) (e : n ≤ m) : Small m d := ⟨h.sh, Nat.le_trans h.ln e, h.dp⟩

/-! ## texts of single signs -/
def Bytes (z : Str) : Prop := ∀ c ∈ z.cps.toList, c < 256
theorem small_text {z : Str} {n : Nat} (h : Bytes z) (l : z.length ≤ n) : Small (10 * n + 2) (.str z) := by
  refine ⟨rfl, ?_, ?_⟩
  · have e := StrLaws.reprText_len z fun c hc => Nat.lt_trans (h c hc) (by decide)
    show (reprText z).length ≤ _
    omega
  · simp [PyData.depth]
theorem bytes_join : ∀ (ys : List Str), (∀ y ∈ ys, y.length = 1 ∧ Bytes y) → (Str.join "" ys).length = ys.length ∧ Bytes (Str.join "" ys)
  | [], _ => ⟨rfl, fun c hc => by cases hc⟩
  | [x], h => ⟨(h x (by simp)).1, (h x (by simp)).2⟩
  | x :: y :: r, h => by
    obtain ⟨h1, h2⟩ := bytes_join (y :: r) fun z hz => h z (List.mem_cons_of_mem _ hz)
    obtain ⟨h3, h4⟩ := h x (by simp)
    have e : Str.join "" (x :: y :: r) = x ++ ("" : Str) ++ Str.join "" (y :: r) := rfl
    constructor
    · rw [e, strLen_append, strLen_append, h1, h3]
      show 1 + 0 + (y :: r).length = (y :: r).length + 1
      omega
    · intro c hc
      rw [e] at hc
      have hc' : c ∈ x.cps.toList ++ ([] : List Nat) ++ (Str.join "" (y :: r)).cps.toList := by
        have : (x ++ ("" : Str) ++ Str.join "" (y :: r)).cps.toList = x.cps.toList ++ ([] : List Nat) ++ (Str.join "" (y :: r)).cps.toList := by
          show ((x.cps ++ #[]) ++ (Str.join "" (y :: r)).cps).toList = _
          simp
        rw [← this]
        exact hc
      simp only [List.append_nil, List.mem_append] at hc'
      rcases hc' with q | q
      · exact h4 c q
      · exact h2 c q
theorem sum_ones {ys : List Str} (h : ∀ y ∈ ys, y.length = 1 ∧ Bytes y) : (ys.map fun y => y.length).sum = ys.length := by
  induction ys with
  | nil => rfl
  | cons y r ih =>
    rw [List.map_cons, List.sum_cons, ih fun z hz => h z (List.mem_cons_of_mem _ hz), (h y (by simp)).1, List.length_cons]
    omega
/-- an item of a list, at a place that is told -/
theorem at_in {α : Type} {xs : List α} {i : Int} (h0 : 0 ≤ i) (h1 : i < xs.length) : ∃ v, v ∈ xs ∧ xs[i.toNat]? = some v ∧ atI xs i = some v := by
  have h2 : i.toNat < xs.length := by omega
  refine ⟨xs[i.toNat], List.getElem_mem h2, List.getElem?_eq_getElem h2, ?_⟩
  have q := atI_nat (xs := xs) (j := i.toNat) (List.getElem?_eq_getElem h2)
  rw [Int.toNat_of_nonneg h0] at q
  exact q

/-! ## an own def, with all that a call wants -/
structure Own (P : Program) (w : World) (K : PySem.W.Frag) (mg : Str → Option Value) (base : Heap) (CX : CXT) (k : Nat) (x : Str) (ps : List Str) (sp : Sp) (f : Addr) (fd : FuncData) : Prop where
  ok : FnOk P w K mg base CX k f fd ps sp
  m : mg x = some (.ref f)
  kp : PySem.W.keepIn K (.ref f) = true
  b : Binds K fd ps []
structure OwnG (P : Program) (w : World) (K : PySem.W.Frag) (mg : Str → Option Value) (base : Heap) (CX : CXT) (k : Nat) (x : Str) (ps : List Str) (sp : Sp) (f : Addr) (fd : FuncData) : Prop where
  ok : FnG P w K mg base CX k f fd ps sp
  m : mg x = some (.ref f)
  kp : PySem.W.keepIn K (.ref f) = true
  b : Binds K fd ps []
section
variable {X : Cx} {CX : CXT} {k : Nat} {f : Addr} {fd : FuncData} {ps ks : List Str} {sp : Sp} {x : Str} {p pos : Pos} {e : Expr} {es : List Expr} {t tk : TA} {kws : List Keyword} {g : List Value → List Value → List Value} {gV : List V → List V → List V}
theorem pe_own (O : Own X.prog X.w X.K X.mg X.base CX0 k x ps sp f fd) (hr : Room k X.A) (ha : PA X (e :: es) t) (hg : Gl X x := by rfl) (hdb : (x == ("__debug__" : Str)) = false := by decide)
    (he : starEach (e :: es) X.env = (false, eval e X.env) :: starEach es X.env := by rfl) (hpl : (backTo pos (starEach es X.env)).any (fun q => q.1) = false := by rfl) :
    PE X (.Call (.Name x p) (e :: es) [] pos) (tCall sp [] E0 t) := pe_call O.ok hr hg O.m O.kp O.b .nil pass0 ha hdb he hpl
theorem pe_own0 (O : Own X.prog X.w X.K X.mg X.base CX0 k x ps sp f fd) (hr : Room k X.A) (hg : Gl X x := by rfl) (hdb : (x == ("__debug__" : Str)) = false := by decide) :
    PE X (.Call (.Name x p) [] [] pos) (tCall sp [] E0 tNil) := pe_call0 O.ok hr hg O.m O.kp O.b .nil pass0 hdb
theorem pe_owng (O : OwnG X.prog X.w X.K X.mg X.base CX0 k x ps sp f fd) (hgd : X.A.guards = some []) (hr : Room k X.A) (ha : PA X (e :: es) t) (hg : Gl X x := by rfl) (hdb : (x == ("__debug__" : Str)) = false := by decide)
    (he : starEach (e :: es) X.env = (false, eval e X.env) :: starEach es X.env := by rfl) (hpl : (backTo pos (starEach es X.env)).any (fun q => q.1) = false := by rfl) :
    PE X (.Call (.Name x p) (e :: es) [] pos) (tCall sp [] E0 t) := pe_callg O.ok hgd hr hg O.m O.kp O.b .nil pass0 ha hdb he hpl
theorem pe_owng0 (O : OwnG X.prog X.w X.K X.mg X.base CX0 k x ps sp f fd) (hgd : X.A.guards = some []) (hr : Room k X.A) (hg : Gl X x := by rfl) (hdb : (x == ("__debug__" : Str)) = false := by decide) :
    PE X (.Call (.Name x p) [] [] pos) (tCall sp [] E0 tNil) := pe_callg0 O.ok hgd hr hg O.m O.kp O.b .nil pass0 hdb
theorem pe_ownW (O : Own X.prog X.w X.K X.mg X.base CX0 k x ps sp f fd) (hb : KBn X.K fd ps 0 ks g gV) (hr : Room k X.A) (hkw : PK X kws tk) (hg : Gl X x := by rfl)
    (hall : (backToKw pos (keywordEach kws X.env)).all (fun q => q.1.isSome) = true := by rfl)
    (hks : (backToKw pos (keywordEach kws X.env)).filterMap (fun q => q.1) = ks := by rfl)
    (hdb : (x == ("__debug__" : Str)) = false := by decide)
    (hpl : ((backTo pos (starEach [] X.env)).any (fun q => q.1) || (backToKw pos (keywordEach kws X.env)).any (fun q => q.1.isNone)) = false := by rfl) :
    PE X (.Call (.Name x p) [] kws pos) (tCallN 0 ks.length sp gV E0 tNil tk) := pe_callW O.ok hr hg O.m O.kp hb pass0 hkw hall hks hdb hpl
/-- a constant of the module -/
theorem pe_gi {i : Int} (h : ∃ t, X.mg x = some (.int i t)) (hg : Gl X x := by rfl) (hd : (x == ("__debug__" : Str)) = false := by decide) : PE X (.Name x pos) (tC (.int i)) :=
  h.elim fun t e => pe_glob hg e ⟨t, rfl⟩ hd
theorem pe_gs {z : Str} (h : ∃ t, X.mg x = some (.str z t)) (hg : Gl X x := by rfl) (hd : (x == ("__debug__" : Str)) = false := by decide) : PE X (.Name x pos) (tC (.str z)) :=
  h.elim fun t e => pe_glob hg e ⟨t, rfl⟩ hd
end
end Lw
namespace Lw
open PySem PySem.Spec PyProof.Rows L2
theorem Off.put {a D : Addr} {H H' : Hp} {o : HO} (x : Off a H H') (h : H D = none) : Off a H (upd H' D o) := by
  intro b u g
  obtain ⟨n, e⟩ := off_get g
  rw [off_ne n, upd_ne (ne_of_none e h)]
  exact x.get e n
theorem PotAt.put {H : Hp} {a D : Addr} {o : HO} (h : PotAt H a) (n : D ≠ a) : PotAt (upd H D o) a := by
  obtain ⟨x, y, e, r⟩ := h
  exact ⟨x, y, by rw [upd_ne n.symm]; exact e, r⟩
theorem small_int {i : Int} (h : i.natAbs < 2 ^ 1000) : Small 2000 (.int i) := by
  have h1 : i.natAbs.log2 < 1920 := Nat.lt_of_lt_of_le (PySem.Flt.log2_lt_of (by decide) h) (by decide)
  refine ⟨?_, ?_, ?_⟩
  · show decide (i.natAbs.log2 < 1920) = true
    exact decide_eq_true h1
  · have e := int_text_len_1921 h1
    show (Str.ofString (toString i)).length ≤ 2000
    omega
  · simp [PyData.depth]

/-! ## displays of data -/
def Mk (K : PySem.W.Frag) (te : TE) (d : PyData) : Prop := ∀ σ H (Q : VK), (∀ v H', Same H H' → (∀ a, H a ≠ none → Dq K (off H' a) v d) → Q v H') → te σ H Q
def MkA (K : PySem.W.Frag) (ta : TA) (ds : List PyData) : Prop := ∀ σ H (Q : List V → Hp → Prop), (∀ vs H', Same H H' → vs.length = ds.length → (∀ a, H a ≠ none → DqAll K (off H' a) vs ds) → Q vs H') → ta σ H Q
theorem off_mono {H H' : Hp} {a : Addr} (s : Same H H') : Same (off H a) (off H' a) := Off.same s
theorem same_some {H H' : Hp} {a : Addr} (s : Same H H') (h : H a ≠ none) : H' a ≠ none := by
  cases e : H a with
  | none => exact absurd e h
  | some o =>
    rw [s _ _ e]
    exact fun z => nomatch z
section
variable {K : PySem.W.Frag}
theorem Mk.non : Mk K (tC .non) .none := fun _ H Q h => h _ H (Same.refl H) fun _ _ => .non
theorem Mk.bl {b : Bool} : Mk K (tC (.bl b)) (.bool b) := fun _ H Q h => h _ H (Same.refl H) fun _ _ => .bl b
theorem Mk.int {i : Int} : Mk K (tC (.int i)) (.int i) := fun _ H Q h => h _ H (Same.refl H) fun _ _ => .int i
theorem Mk.str {x : Str} : Mk K (tC (.str x)) (.str x) := fun _ H Q h => h _ H (Same.refl H) fun _ _ => .str x
theorem Mk.neg {i : Int} : Mk K (tUn (rU fun i => .int (-i)) (tC (.int i))) (.int (-i)) := fun _ H Q h => ⟨i, rfl, h _ H (Same.refl H) fun _ _ => .int _⟩
theorem MkA.nil : MkA K tNil [] := fun _ H Q h => h _ H (Same.refl H) rfl fun _ _ => .nil
theorem MkA.cons {te : TE} {ta : TA} {d : PyData} {ds : List PyData} (h1 : Mk K te d) (h2 : MkA K ta ds) : MkA K (tCons te ta) (d :: ds) := by
  intro σ H Q h
  refine h1 σ H _ fun v H1 s1 q1 => h2 σ H1 _ fun vs H2 s2 l2 q2 => h _ H2 (s1.trans s2) (congrArg Nat.succ l2) fun a ha => ?_
  exact .cons (Dq.same (off_mono s2) (q1 a ha)) (q2 a (same_some s1 ha))
theorem mk_new {H : Hp} {p a : Addr} {o : HO} (hp : H p = none) (ha : H a ≠ none) : off (upd H p o) a p = some o := by
  have n : p ≠ a := fun e => ha (e ▸ hp)
  rw [off_ne n, upd_same]
theorem Mk.tup {ta : TA} {ds : List PyData} (h1 : MkA K ta ds) (hl : ds.length ≤ 1000 := by decide) : Mk K (tTup ta) (.tuple ds) := by
  intro σ H Q h
  refine h1 σ H _ fun vs H1 s1 l1 q1 => ⟨?_, fun p hp => h _ _ (s1.trans (same_upd hp)) fun a ha => ?_⟩
  · rw [l1]
    exact Nat.le_of_lt (small1000 hl)
  · exact .tup (.inl (.inl (mk_new hp (same_some s1 ha)))) (DqAll.same (off_mono (same_upd hp)) (q1 a ha))
theorem Mk.lst {ta : TA} {ds : List PyData} (h1 : MkA K ta ds) (hl : ds.length ≤ 1000 := by decide) : Mk K (tLst ta) (.list ds) := by
  intro σ H Q h
  refine h1 σ H _ fun vs H1 s1 l1 q1 => ⟨?_, fun p hp => h _ _ (s1.trans (same_upd hp)) fun a ha => ?_⟩
  · rw [l1]
    exact Nat.le_of_lt (small1000 hl)
  · exact .lst (.inl (.inl (mk_new hp (same_some s1 ha)))) (DqAll.same (off_mono (same_upd hp)) (q1 a ha))
theorem Mk.dict : Mk K tDNewK (.dict []) := by
  intro σ H Q h
  intro p hp
  exact h _ _ (same_upd hp) fun a ha => .dic (mk_new hp ha)
theorem dq_at {H : Hp} : ∀ {vs : List V} {ds : List PyData}, DqAll K H vs ds → ∀ v ∈ vs, ∃ d ∈ ds, Dq K H v d
  | _, _, .nil, v, h => nomatch h
  | _, _, .cons h g, v, hv => by
    rcases List.mem_cons.mp hv with rfl | hv
    · exact ⟨_, List.mem_cons_self .., h⟩
    · obtain ⟨d, hd, e⟩ := dq_at g v hv
      exact ⟨d, List.mem_cons_of_mem _ hd, e⟩
theorem dq_app {H : Hp} : ∀ {vs ws : List V} {ds es : List PyData}, DqAll K H vs ds → DqAll K H ws es → DqAll K H (vs ++ ws) (ds ++ es)
  | _, _, _, _, .nil, q => q
  | _, _, _, _, .cons h g, q => .cons h (dq_app g q)
end
end Lw
namespace Lw
open PySem PySem.Spec PyProof.Rows L2
section
variable {K : PySem.W.Frag}
theorem s_lst {ta : TA} {ds : List PyData} {i : Nat} {u : TS} {D : Ends} {σ : L2.St} {H : Hp} (h : MkA K ta ds) (hl : ds.length ≤ 1000)
    (k : ∀ vs H1 p, Same H H1 → vs.length = ds.length → (∀ a, H a ≠ none → DqAll K (off H1 a) vs ds) → H1 p = none → u D (σ.set i (some (.ref p))) (upd H1 p (.lst vs))) :
    tSeq (tAsg (tLst ta) (gName i)) u D σ H := by
  refine h σ H _ fun vs H1 s l d => ⟨?_, fun p np => k vs H1 p s l d np⟩
  rw [l]
  exact Nat.le_of_lt (small1000 hl)
/-- x + [..] -/
theorem e_cat {ta : TA} {ds : List PyData} {i : Nat} {σ : L2.St} {H : Hp} {Q : VK} {t : Addr} {xs : List V} (h : MkA K ta ds) (hl : xs.length + ds.length ≤ 1000) (hi : σ[i]? = some (some (.ref t))) (ht : H t = some (.lst xs))
    (k : ∀ vs H1 p, Same H H1 → vs.length = ds.length → (∀ a, H a ≠ none → DqAll K (off H1 a) vs ds) → H1 p = none → Q (.ref p) (upd H1 p (.lst (xs ++ vs)))) :
    tOp rCat (tVar i) (tLst ta) σ H Q := by
  refine ⟨.ref t, hi, h σ H _ fun vs H1 s l d => ⟨?_, fun p np => ⟨t, p, xs, vs, rfl, rfl, ?_, upd_same, ?_, fun p2 np2 => ?_⟩⟩⟩
  · rw [l]
    exact Nat.le_of_lt (small1000 (by omega))
  · rw [upd_ne (ne_of_none (s _ _ ht) np)]
    exact s _ _ ht
  · rw [l]
    exact Nat.le_of_lt (small1000 hl)
  · refine k vs (upd H1 p (.lst vs)) p2 (s.trans (same_upd np)) l (fun a ha => DqAll.same (off_mono (same_upd np)) (d a ha)) np2
def rLenQ (K : PySem.W.Frag) : List V → Hp → VK → Prop := fun xs H Q => ∃ (p : Addr) (ys : List V), xs = [.ref p] ∧ (SqL K H p ys ∨ SqT K H p ys) ∧ Q (.int ys.length) H
theorem call_lenQ {X : Cx} : CallR X (.builtin "len") (rLenQ X.K) := call_len_seq
end
end Lw

set_option Elab.async false
set_option linter.all false
set_option maxRecDepth 100000
set_option maxHeartbeats 4000000
namespace Lw
open PySem PySem.Spec PyProof.Rows L2

/-! ## own exceptions over one of the built-in ones -/
/-- own classes, then the mro of a built-in one -/
def refsT (tl : List Value) : List Value → Bool
  | .ref _ :: r => refsT tl r
  | l => l == tl
theorem refsT_or (tl : List Value) (l : List Value) (h : refsT tl l = true) : (∃ c r, l = .ref c :: r ∧ refsT tl r = true) ∨ l = tl := by
  cases l with
  | nil => exact .inr (beq_iff_eq.mp h)
  | cons a r =>
    cases a with
    | ref c => exact .inl ⟨c, r, rfl, h⟩
    | _ => exact .inr (beq_iff_eq.mp h)
/-- what the built-in class says -/
structure ExB (B newId initId : String) (tl : List Value) : Prop where
  fb : ExcBaseFacts B newId initId tl
  kf : PySem.W.KxsFacts B initId
  pass : ∀ self, PySem.refuseLoop self "__setattr__" tl = pure ()
  obj : tl.contains (.type "object") = true
  nn : tl ≠ []
abbrev tlOf (B : String) : List Value := [.type B, .type "Exception", .type "BaseException", .type "object"]
theorem exb_V : ExB "ValueError" "ValueError.__new__" "ValueError.__init__" (tlOf "ValueError") := ⟨F.excBase_ValueError, PySem.W.kxs_ValueError, F.store_ValueError.passes, by decide +kernel, by simp⟩
theorem exb_L : ExB "LookupError" "LookupError.__new__" "LookupError.__init__" (tlOf "LookupError") := ⟨F.excBase_LookupError, PySem.W.kxs_LookupError, F.store_LookupError.passes, by decide +kernel, by simp⟩
theorem exb_R : ExB "RuntimeError" "RuntimeError.__new__" "RuntimeError.__init__" (tlOf "RuntimeError") := ⟨F.excBase_RuntimeError, PySem.W.kxs_RuntimeError, F.store_RuntimeError.passes, by decide +kernel, by simp⟩
theorem exb_A : ExB "ArithmeticError" "ArithmeticError.__new__" "ArithmeticError.__init__" (tlOf "ArithmeticError") := ⟨F.excBase_ArithmeticError, PySem.W.kxs_ArithmeticError, F.store_ArithmeticError.passes, by decide +kernel, by simp⟩
theorem refsT_pass {B newId initId : String} {tl : List Value} (E : ExB B newId initId tl) (self : Value) : ∀ l : List Value, refsT tl l = true → PySem.refuseLoop self "__setattr__" l = pure () := by
  intro l
  induction l with
  | nil =>
    intro h
    exact absurd (beq_iff_eq.mp h).symm E.nn
  | cons a r ih =>
    intro h
    rcases refsT_or tl _ h with ⟨c, r', q, g⟩ | q
    · cases q
      rw [PySem.refuseLoop_ref]
      exact ih g
    · rw [q]
      exact E.pass self
theorem refsT_obj {B newId initId : String} {tl : List Value} (E : ExB B newId initId tl) : ∀ l : List Value, refsT tl l = true → l.contains (.type "object") = true ∧ l.isEmpty = false := by
  intro l
  induction l with
  | nil =>
    intro h
    exact absurd (beq_iff_eq.mp h).symm E.nn
  | cons a r ih =>
    intro h
    refine ⟨?_, rfl⟩
    rcases refsT_or tl _ h with ⟨c, r', q, g⟩ | q
    · cases q
      rw [List.contains_cons, (ih g).1, Bool.or_true]
    · rw [q]
      exact E.obj
/-- what the written part says of a class of exceptions -/
def clsB (K : PySem.W.Frag) (C : Addr) (tl : List Value) (newId : String) : Bool :=
  PySem.W.excInitIn K C tl newId && (((PySem.W.clsIn K C).any fun cd => cd.hasDict && refsT tl cd.mro) && (decide (PySem.W.findIn K (.ref C) "__setattr__" = some (some (.builtin "object.__setattr__"))) &&
    (decide (PySem.W.subIn K (.ref C) (.type "BaseException") = some true) && (decide (PySem.W.typeIn K (.ref C) = some (.type "type")) && PySem.W.keepIn K (.ref C)))))
structure ExcK (K : PySem.W.Frag) (C : Addr) (tl : List Value) (newId : String) : Prop where
  ini : PySem.W.excInitIn K C tl newId = true
  cls : ∃ cd, PySem.W.clsIn K C = some cd ∧ cd.hasDict = true ∧ refsT tl cd.mro = true
  sa : PySem.W.findIn K (.ref C) "__setattr__" = some (some (.builtin "object.__setattr__"))
  exC : PySem.W.subIn K (.ref C) (.type "BaseException") = some true
  tyC : PySem.W.typeIn K (.ref C) = some (.type "type")
  kC : PySem.W.keepIn K (.ref C) = true
theorem clsB_ok {K : PySem.W.Frag} {C : Addr} {tl : List Value} {newId : String} (h : clsB K C tl newId = true) : ExcK K C tl newId := by
  unfold clsB at h
  simp only [Bool.and_eq_true, decide_eq_true_eq] at h
  obtain ⟨h1, h2, h3, h4, h5, h6⟩ := h
  obtain ⟨cd, e, h7⟩ := (Option.any_eq_true _ _).mp h2
  rw [Bool.and_eq_true] at h7
  exact ⟨h1, ⟨cd, e, h7.1, h7.2⟩, h3, h4, h5, h6⟩

section
open PySem.Builtin PySem.Builtin.ObjectAttr
variable {prog : Program} {w : World} {A : Around} {R : Result → Shared → Prop} {hp : Heap} {g : Array GenState} {d : Drawn} {t : Nat} {os : OsState}
/-- the first field of an exception -/
theorem osa_b {B newId initId : String} {tl : List Value} (EB : ExB B newId initId tl) {K : PySem.W.Frag} {name : Str} {tk : Tok} {v : Value} {x C : Addr} {fv : Array Value} {cd : ClassData}
    (X : K.In hp) (hx : hp.get? x = some { cls := .ref C, data := .fields fv }) (hcd : PySem.W.clsIn K C = some cd) (hm : refsT tl cd.mro = true) (hh : cd.hasDict = true) (ha : PySem.W.findIn K (.ref C) name = some none)
    (hq : ∀ h' tk' dx, (∀ b o, b ≠ x → hp.get? b = some o → h'.get? b = some o) → hp.objs.size ≤ dx → dx ≠ x → h'.get? x = some { cls := .ref C, dict := some dx, data := .fields fv } →
      h'.Ns1 dx (fun y => if y = name then some v else none) → R (.ok (.ret .none)) ⟨h', g, d, tk', os⟩) :
    codeAny (model prog w) A (.call (.builtin "object.__setattr__") ⟨[.ref x, .str name tk, v], []⟩) R ⟨hp, g, d, t, os⟩ := by
  obtain ⟨hob, hne⟩ := refsT_obj EB _ hm
  have I : PySem.W.InstAt hp x { cls := .ref C, data := .fields fv } C none := ⟨hx, rfl, rfl, trivial⟩
  have SF := F.store_object
  have hxs : x ≠ hp.objs.size := Nat.ne_of_lt (Heap.lt_size hx)
  have hmro : PySem.W.mroIn K C (.type "object") = some true := by
    unfold PySem.W.mroIn
    rw [hcd, Option.bind_some, if_neg (by rw [hne]; decide), hob]
  have sub : PySem.W.Looks (model prog w) hp (isInstance (.ref x) (.type "object")) true := I.type.andThen (PySem.W.looks_mroIn X hmro)
  refine codeAny_call_builtin SF.slot.plain SF.entry (@PySem.W.check_slot (model prog w) _ _ ⟨hp, g, d, t, os⟩ "object.__setattr__" "object" "__setattr__" (.ref x) [.str name tk, v] [] _ SF.kind SF.split sub (SF.args (.ref x) (.str name tk) v) ?_)
  have hcls : PySem.W.Looks (model prog w) hp (classData C) cd := PySem.W.looks_clsIn X hcd
  have hmr : PySem.W.Looks (model prog w) hp (mroOf (.ref C)) cd.mro := hcls.andThen .now
  have L3 : PySem.W.Looks (model prog w) hp (storeTaker? none) none := .now
  rw [PySem.W.osa_eq, refuse_eq]
  refine wpAny_bind (wpAny_bind (I.type.at (wpAny_bind (hmr.at ?_))))
  rw [refsT_pass EB _ _ hm]
  refine wpAny_pure (wpAny_bind (I.type.at (wpAny_bind ((PySem.W.looks_findIn X ha).at (wpAny_bind (L3.at ?_))))))
  show wpAny _ _ (storeInOwnDict (.ref x) (.ref C) (.str name tk) name v false) _ _ _
  obtain ⟨nm, bs, mro, ns, qn, hd, sn, sb, ab, col, del⟩ := cd
  dsimp only at hh
  subst hh
  unfold storeInOwnDict ownDictForStores
  repeat (first | with_reducible refine HandSPX.store_in_new ?_ ?_ | with_reducible refine wpAny_loadPart_at hx ?_ | with_reducible refine hcls.at ?_ | wp_step)
  · exact ⟨_, #[], _, (Heap.get?_update_ne _ _ _ _ hxs.symm).trans (Heap.get?_push_at rfl rfl), rfl, fun e he => absurd he (by simp), fun _ => rfl⟩
  · intro h' tk' hn' hs
    have hx₁ : (hp.push { cls := .type "dict", data := .dict #[] }).get? x = some { cls := .ref C, data := .fields fv } := Heap.get?_push_of_some _ hx
    refine hq h' tk' hp.objs.size (fun b o hb ho => ?_) (Nat.le_refl _) hxs.symm ?_ hn'
    · exact (hs.2 b (Nat.ne_of_lt (Heap.lt_size ho))).trans ((Heap.get?_update_ne _ _ _ _ hb).trans (Heap.get?_push_of_some _ ho))
    · exact (hs.2 x hxs).trans (Heap.get?_update_self _ hx₁ rfl)
end
end Lw

set_option Elab.async false
set_option linter.all false
set_option maxRecDepth 100000
set_option maxHeartbeats 4000000
namespace Lw
open PySem PySem.Spec PyProof.Rows L2

/-- the words of a def `__init__` that closes over its class -/
structure IniW where
  name : Str
  qual : Str
  params : Arguments
  body : List Stmt
  scope : Scope
/-- such a def as it stands behind the top: its cell cc, its code object cda, its class C -/
structure IniK (P : Program) (K : PySem.W.Frag) (mg : Str → Option Value) (W : IniW) (f cc cda C : Addr) (B initId : String) : Prop where
  lk : ∃ (oc doc pm ct : Value) (od : Option Addr) (osl : Array (Option Value)), K.lookup f = some ⟨oc, od, .func (PySem.W.fnX W.name W.qual W.params W.body W.scope [("__class__", cc)] .none .none doc pm none (.ref cda) ct), osl⟩
  hcd : PySem.W.codeIn K (.ref cda) W.qual = true
  code : ∃ (ccl : Value) (cdd : Option Addr) (vs : Array Value) (ccs : Array (Option Value)) (file : Str) (tf : Tok), K.lookup cda = some ⟨ccl, cdd, .fields vs, ccs⟩ ∧ vs[2]? = some (.str file tf) ∧ ((P.main.file : Str) == file) = true
  cell : ∃ (cl : Value) (cld : Option Addr) (csl : Array (Option Value)), K.lookup cc = some ⟨cl, cld, .cell (some (.ref C)), csl⟩
  top : (P.main.scope.names.lookup ("super" : Str)).isSome = false
  sup : mg "super" = none
  self : (W.params.posonlyargs ++ W.params.args).head?.map (fun a => a.arg) = some "self"
  kind : W.scope.kind = .function
  ksup : W.scope.names.lookup ("super" : Str) = some .globalImplicit
  kcls : W.scope.names.lookup ("__class__" : Str) = some .free
  kself : W.scope.names.lookup ("self" : Str) = some .local
  opq : PySem.W.nsIn K cStatics "thirdparty.any" = some none
  meth : PySem.W.ks_superIn K C C "__init__" = some (some (.builtin initId))
  subB : PySem.W.subIn K (.ref C) (.type B) = some true
  subC : PySem.W.mroIn K C (.ref C) = some true

section
variable {X : Cx} {pins : List (Addr × Obj)} {σ : L2.St} {H : Hp} {s : Shared} {a f cc cda C : Addr} {W : IniW} {B newId initId : String} {tl : List Value} {body : List Stmt} {E : Value → Shared → Prop}
/-- the built-in __init__, bound to the exception, is called -/
theorem mw_call (EB : ExB B newId initId tl) (T : ExcK X.K C tl newId) (I : Inv X pins σ H s) (ha : H a = some (exo a C none)) {u : Addr} (hu : s.heap.get? u = some (PySem.W.kxs_mw initId a)) {rest : List Value} (hz : rest.length ≤ sizeLine)
    {Q : Value → Shared → Prop} (h : ∀ s', Inv X pins σ H s' → Q .none s') : wpAny (model X.prog X.w) X.A (call (.ref u) rest) Q E s := by
  obtain ⟨nm, N', qn, bs, bm, hdct, sn, sub, ab, col, dd, k0, k1, k2, k3, k5, hC, hT⟩ := PySem.W.excInit_of I.kIn T.ini
  obtain ⟨t1, he⟩ := exo_at I.hok ha
  obtain ⟨hh, g, d, tk, os⟩ := s
  refine wpAny_call (codeAny_of_tree ?_)
  show wpAny _ X.A.in1 (callAny (.ref u) ⟨rest, []⟩) _ _ _
  simp only [callAny]
  refine wpAny_bind (wpAny_load hu ?_)
  have e1 : (Value.type "method-wrapper" == Value.type "method" || Value.type "method-wrapper" == Value.type "builtin_function_or_method" || Value.type "method-wrapper" == Value.type "method-wrapper") = true := by decide
  simp only [PySem.W.kxs_mw, e1, if_true]
  refine PySem.W.KFB.if_so (by decide) ?_
  refine wpAny_bind (PySem.W.check_bound_init EB.fb.toExcCallFacts hC he rfl ?_)
  refine wpAny_bind (wpAny_pure (wpAny_pure ?_))
  refine ⟨plainId_quiet EB.fb.init.plain _, codeAny_builtin EB.fb.initEntry ?_⟩
  refine PySem.W.exc_init_tree (cls := .ref C) (t0 := t1) (dv := none) (c2 := .none) (c3 := .none) (b4 := .bool false) he hz fun h' k e' t' => ?_
  have J := I.write (t' := tk) (x := a) (e := a) (o := exo a C none) (by rw [ha]; exact True.intro) (.inl rfl) k ⟨_, e'⟩ (exo_ok e')
  have eu : upd H a (exo a C none) = H := by
    funext b
    by_cases hb : b = a
    · rw [hb, upd_same, ha]
    · rw [upd_ne hb]
  rw [eu] at J
  exact h _ J

/-- super().__init__('..') -/
theorem sup_stmt {p0 p1 p2 p3 p4 p5 : Pos} {j : Nat} {msg : Str} (EB : ExB B newId initId tl) (T : ExcK X.K C tl newId) (S : IniK X.prog X.K X.mg W f cc cda C B initId) (I : Inv X pins σ H s)
    (hsc : X.env.scope = W.scope) (hfn : X.env.func = some f) (hco : X.env.code = .ref cda) (hce : X.env.cells = [(("__class__" : Str), cc)])
    (hN : X.N[0]? = some ("self" : Str)) (h0 : σ[0]? = some (some (.ref a))) (ha : H a = some (exo a C none)) {pl : Sem Bool}
    (hev : eval (.Call (.Attribute (.Call (.Name "super" p0) [] [] p1) "__init__" p2) [.Constant (.str msg) j p3] [] p4) X.env = (do
      let ov ← attributeBase (.Call (.Name "super" p0) [] [] p1) "__init__" X.env (eval (.Call (.Name "super" p0) [] [] p1) X.env)
      standAt p2.atName
      let fx ← holding [ov] (getMethod ov "__init__" pl)
      callWith p4 fx.1 fx.2 (backTo p4 (starEach [.Constant (.str msg) j p3] X.env)) []))
    {Q : Flow → Shared → Prop} (h : ∀ s', Inv X pins σ H s' → Q .next s') :
    PySem.wpAt (model X.prog X.w) X.A (.func body X.env) (exec (.Expr (.Call (.Attribute (.Call (.Name "super" p0) [] [] p1) "__init__" p2) [.Constant (.str msg) j p3] [] p4) p5) X.env) Q E s := by
  have gk : ∀ x : Str, X.env.kindOf x = W.scope.names.lookup x := fun x => by
    show X.env.scope.names.lookup x = _
    rw [hsc]
  refine ks_wpAt_Expr_any ?_ I.quiet rfl
  refine ks_wpAt_MethodCall ?_ hev
  obtain ⟨oc, doc, pm, ct, od, osl, lk⟩ := S.lk
  obtain ⟨ccl, cdd, vs, ccs, file, tf, lc, hvs, hfile⟩ := S.code
  obtain ⟨cl, cld, csl, lcell⟩ := S.cell
  obtain ⟨ar, hp, har⟩ := Option.map_eq_some_iff.mp S.self
  obtain ⟨cd, hcd, _, _⟩ := T.cls
  have KX := I.kIn
  refine ks_wpAt_super_base (env := X.env) ((gk _).trans S.ksup) ((gk _).trans S.kcls) (by decide) hfn (KX _ _ lk) rfl hp hco (KX _ _ lc) rfl hvs hfile S.top ?_
  -- super
  obtain ⟨mb, b1, b2⟩ := I.mod.blt
  refine PySem.W.ks_loadName_global I.ok.kind ((gk _).trans S.ksup) (Calls.loadGlobal_builtin (by rw [I.ok.glob]; exact I.mod.glob.keeps I.bk) S.sup (by rw [I.ok.blt]; exact b1.keeps I.bk) ((b2 _ (by decide)).trans (by first | boot_by_name | rfl | kernel_rfl)) ⟨rfl, ?_⟩)
  -- __class__
  refine wpAny_loadName_free I.ok.kind ((gk _).trans S.kcls) (c := cc) (by rw [hce]; rfl) ⟨_, KX _ _ lcell, rfl⟩ ?_
  -- self
  rw [har]
  obtain ⟨m, hn, hl⟩ := I.loc
  obtain ⟨us, rs, ls⟩ := hl 0 "self" _ hN h0 (.inl (by rw [hsc]; exact S.kself))
  cases (show us = Value.ref a from rs)
  have hm : m "self" = some (.ref a) := by
    rcases ls with ⟨_, q⟩ | ⟨q, _⟩
    · exact q
    · rw [gk, S.kself] at q
      rcases q with q | q <;> cases q
  refine wpAny_loadName_local I.ok.kind ((gk _).trans S.kself) hn hm ?_
  -- the super object
  obtain ⟨t1, he⟩ := exo_at I.hok ha
  obtain ⟨oD, hD1, hD2⟩ : ∃ oD, s.heap.get? C = some oD ∧ oD.data = .cls cd := by
    unfold PySem.W.clsIn at hcd
    split at hcd
    · rename_i c d cd' sl ho
      cases hcd
      exact ⟨_, KX _ _ ho, rfl⟩
    · cases hcd
  have In : PySem.W.InstAt s.heap a { cls := .ref C, dict := none, data := .fields #[.ref t1, .none, .none, .none, .bool false, .none] } C none := ⟨he, rfl, rfl, trivial⟩
  have nac : a ≠ C := PySem.W.ks_ne KX In hcd
  have subB := S.subB
  have meth := S.meth
  have opq := S.opq
  obtain ⟨hh, g, d, t, os⟩ := s
  refine ks_wpAny_isType_cls hD1 hD2 ⟨rfl, ?_⟩
  refine ks_wpAny_call_super hD1 hD2 he rfl (fun c e => nomatch e) (PySem.W.looks_mroIn KX S.subC) (fun h' e k => ?_)
  have I2 : Inv X pins σ H ⟨h', g, d, t, os⟩ := I.kept (t' := t) k
  obtain ⟨t2, he2⟩ := exo_at I2.hok ha
  have In2 : PySem.W.InstAt h' a { cls := .ref C, dict := none, data := .fields #[.ref t2, .none, .none, .none, .bool false, .none] } C none := ⟨he2, rfl, rfl, trivial⟩
  unfold PySem.W.ks_superIn at meth
  rw [hcd] at meth
  refine PySem.W.kxs_getMethod EB.kf e (PySem.W.looks_opaque I2.kIn opq) (l₀ := cd.mro) (fun A Q E s k q => wpAny_bind ((PySem.W.looks_clsIn I2.kIn hcd) A _ E s k (wpAny_pure q))) rfl I2.kIn meth (In2.type.andThen (PySem.W.looks_subIn I2.kIn subB)) nac (by decide) ?_
  have k3 : ∀ b o, h'.get? b = some o → (h'.push (PySem.W.kxs_mw initId a)).get? b = some o := fun b o e => Heap.get?_push_of_some _ e
  have I3 : Inv X pins σ H ⟨h'.push (PySem.W.kxs_mw initId a), g, d, t + 1, os⟩ := I2.kept (t' := t + 1) k3
  have hu : (h'.push (PySem.W.kxs_mw initId a)).get? h'.objs.size = some (PySem.W.kxs_mw initId a) := Heap.get?_push_at rfl rfl
  -- the call
  show wpAny _ _ (callWith p4 (.ref h'.objs.size) [] (backTo p4 (starEach [.Constant (.str msg) j p3] X.env)) []) _ _ _
  have hse : starEach [.Constant (.str msg) j p3] X.env = (false, eval (.Constant (.str msg) j p3) X.env) :: starEach [] X.env := rfl
  rw [hse]
  refine PySem.W.kxs_callWith (i := initId) (x := a) rfl ?_
  refine Calls.evalArgs_plain ?_
  refine Calls.spliced_cons (@Calls.Constant_str _ _ _ _ _ msg j p3 _ (Calls.spliced_nil ⟨hu, ?_⟩))
  exact mw_call EB T (I3.tok _) ha hu (by show 1 ≤ sizeLine; decide) h
end

/-! ## the promise of such an `__init__` -/
section
open NdefX
variable {P : Program} {w : World} {K : PySem.W.Frag} {mg : Str → Option Value} {base : Heap} {f cc cda C : Addr} {W : IniW} {B newId initId : String} {tl : List Value}
abbrev IniW.nf (W : IniW) (cc cda : Addr) : NF := ⟨W.name, W.qual, W.params, W.body, W.scope, [("__class__", cc)], cda⟩
/-- the first statement is super().__init__('..'), the rest is walked -/
theorem ini_ok {CX : CXT} {N ps : List Str} {k : Nat} {sp : Sp} {p0 p1 p2 p3 p4 p5 : Pos} {j : Nat} {msg : Str} {rest : List Stmt} {fd : FuncData} (EB : ExB B newId initId tl) (T : ExcK K C tl newId) (S : IniK P K mg W f cc cda C B initId)
    (hb : W.body = .Expr (.Call (.Attribute (.Call (.Name "super" p0) [] [] p1) "__init__" p2) [.Constant (.str msg) j p3] [] p4) p5 :: rest)
    (SC : NScope N ps ["__class__"] W.scope) (hp0 : ps[0]? = some ("self" : Str)) (len : ∀ vs H Q E, sp vs H Q E → vs.length = ps.length)
    (hself : ∀ vs H Q E, sp vs H Q E → ∃ a, vs[0]? = some (.ref a) ∧ H a = some (exo a C none))
    (hev : ∀ L, ∃ pl, eval (.Call (.Attribute (.Call (.Name "super" p0) [] [] p1) "__init__" p2) [.Constant (.str msg) j p3] [] p4) (envF (W.nf cc cda) f L) = (do
      let ov ← attributeBase (.Call (.Name "super" p0) [] [] p1) "__init__" (envF (W.nf cc cda) f L) (eval (.Call (.Name "super" p0) [] [] p1) (envF (W.nf cc cda) f L))
      standAt p2.atName
      let fx ← holding [ov] (getMethod ov "__init__" pl)
      callWith p4 fx.1 fx.2 (backTo p4 (starEach [.Constant (.str msg) j p3] (envF (W.nf cc cda) f L))) []))
    (hbody : ∀ (A : Around) (outer : List Env) (s : Shared) (H : Hp) (vs : List V) (Q : VK) (E : XK), Room k (A.deeper (envF (W.nf cc cda) f s.heap.objs.size)) → sp vs H Q E →
      ∃ t, PSs (ncx CX P w K mg base N (W.nf cc cda) f A outer s H E) rest t ∧ t { nx := fun _ H' => Q .non H', rt := Q } (startF N vs [some (.ref C)]) H)
    (hfd : ∃ (oc : Value) (od : Option Addr) (osl : Array (Option Value)), K.lookup f = some ⟨oc, od, .func fd, osl⟩) :
    FnOk P w K mg base CX (k + 1) f fd ps sp := by
  refine ⟨len, fun A outer s H args us vs Q E hr e0 hbnd r hsp => ?_⟩
  have keep := fun b o e => (e0.bs b o e).1
  have KX : K.In s.heap := e0.mod.kin.keeps keep
  obtain ⟨oc, doc, pm, ct, od, osl, lk⟩ := S.lk
  obtain ⟨oc', od', osl', lk'⟩ := hfd
  rw [lk] at lk'
  cases lk'
  obtain ⟨cl, cld, csl, lcell⟩ := S.cell
  have hl := len _ _ _ _ hsp
  refine ks_codeAny_call_defAt (body := W.body) hr.depth (KX _ _ lk) rfl (e0.mod.nolimit.keeps keep) (PySem.W.codeRec_of KX S.hcd) rfl hbnd SC.nocell (fun y hy => SC.par y.1 (List.of_mem_zip hy).1) (fun h₁ hns kp => ?_) SC.co SC.gen SC.kind
  have CA : CellsAt [(("__class__" : Str), cc)] ["__class__"] [some (.ref C)] s.heap H := by
    refine ⟨rfl, fun y c hc => ?_, fun x y c hx hy => ?_, fun i y hy => ?_⟩
    · have e : c = cc := by
        by_cases q : y = "__class__"
        · subst q
          exact (Option.some.inj hc).symm
        · have z : ([(("__class__" : Str), cc)]).lookup y = none := by
            simp [List.lookup, show (y == ("__class__" : Str)) = false by simpa using q]
          rw [z] at hc
          cases hc
      subst e
      exact ⟨(e0.bs _ _ (e0.mod.kin _ _ lcell)).2, _, _, KX _ _ lcell, rfl⟩
    · have key : ∀ z : Str, ([(("__class__" : Str), cc)]).lookup z = some c → z = "__class__" := fun z hz => by
        refine Classical.byContradiction fun q => ?_
        simp [List.lookup, show (z == ("__class__" : Str)) = false by simpa using q] at hz
      rw [key x hx, key y hy]
    · match i, hy with
      | 0, hy =>
        cases hy
        refine ⟨cc, rfl, fun v hv => ?_⟩
        cases hv
        exact ⟨.ref C, rfl, _, KX _ _ lcell, rfl⟩
  have I : Inv (ncx CX P w K mg base N (W.nf cc cda) f A outer s H E) [] (startF N vs [some (.ref C)]) H { s with heap := h₁, toks := s.toks + (ps.zip us).length } := inv_startN SC hr.hd e0 hl r CA hns kp
  obtain ⟨a, hv0, ha⟩ := hself _ _ _ _ hsp
  have hN : N[0]? = some ("self" : Str) := by
    have q := congrArg (fun l : List Str => l[0]?) SC.pre
    have pl : 0 < ps.length := (List.getElem?_eq_some_iff.mp hp0).1
    rw [List.getElem?_take_of_lt (by omega), List.getElem?_append_left pl] at q
    exact q.trans hp0
  have h0 : (startF N vs [some (.ref C)])[0]? = some (some (.ref a)) := by
    unfold startF
    have vl : 0 < vs.length := (List.getElem?_eq_some_iff.mp hv0).1
    rw [List.getElem?_append_left (by simpa using vl), List.getElem?_map, hv0]
    rfl
  obtain ⟨pl, hev⟩ := hev s.heap.objs.size
  obtain ⟨t, ht, hq⟩ := hbody A outer s H vs Q E (hr.deeper _) hsp
  show PySem.wpAt _ _ _ (execs W.body (envF (W.nf cc cda) f s.heap.objs.size)) _ _ _
  rw [hb]
  refine ks_wpAt_execs_cons ?_
  refine sup_stmt (X := ncx CX P w K mg base N (W.nf cc cda) f A outer s H E) (W := W) EB T S I rfl rfl rfl rfl hN h0 ha hev fun s' J => ?_
  refine wpAt_of_wpAny ?_
  refine wpAny_mono (ht.run [] s' (startF N vs [some (.ref C)]) H _ J hq) (fun fl s'' hs => ?_) fun e s'' hs => hs
  cases fl with
  | ret u =>
    obtain ⟨v, σ', H', J', rv, q⟩ := hs
    exact ⟨v, H', J'.os, J'.bare, J'.base, J'.hok, rv, q⟩
  | next =>
    obtain ⟨σ', H', J', q⟩ := hs
    exact ⟨V.non, H', J'.os, J'.bare, J'.base, J'.hok, rfl, q⟩
  | brk => exact hs.elim fun _ z => z.elim fun _ z => z.2.elim
  | cont => exact hs.elim fun _ z => z.elim fun _ z => z.2.elim
end
end Lw

set_option Elab.async false
set_option linter.all false
set_option maxRecDepth 100000
set_option maxHeartbeats 4000000
namespace Lw
open PySem PySem.Spec PyProof.Rows L2
section
variable {X : Cx} {pins : List (Addr × Obj)} {σ : L2.St} {H : Hp} {s : Shared} {a C dx : Addr} {f : Str} {y : V} {u : Value} {E : Value → Shared → Prop} {A : Around} {B newId initId : String} {tl : List Value}
/-- self.f = y, the first field of an exception -/
theorem ost_b (EB : ExB B newId initId tl) (T : ExcK X.K C tl newId) (I : Inv X pins σ H s) (e : H a = some (exo a C none)) (hno : PySem.W.findIn X.K (.ref C) f = some none) (ry : L2.RelV y u) {Q : Unit → Shared → Prop}
    (h : ∀ dx s', H dx = none → dx ≠ a → Inv X pins σ (upd (upd H dx (exd dx [(f, y)])) a (exo a C (some dx))) s' → Q () s') : wpAny (model X.prog X.w) A (setAttr (.ref a) f u) Q E s := by
  obtain ⟨cd, hcd, hdict, hmro⟩ := T.cls
  obtain ⟨t1, ho⟩ := exo_at I.hok e
  obtain ⟨hp, g, d, t, os⟩ := s
  refine PySem.W.set_plain I.kIn (ox := { cls := .ref C, dict := none, data := .fields #[.ref t1, .none, .none, .none, .bool false, .none] }) (od := none) ⟨ho, rfl, rfl, trivial⟩ T.sa ?_
  refine osa_b EB I.kIn ho hcd hmro hdict hno fun h' tk' dx k dn dne hx hn => ?_
  have hnd : H dx = none := I.hok.fresh dn
  have na : ∀ {b : Addr}, H b = none → b ≠ a := fun {b} n z => by
    rw [z, e] at n
    cases n
  have nd : ∀ {b : Addr} {o : Obj}, hp.get? b = some o → b ≠ dx := fun {b o} q => Nat.ne_of_lt (Nat.lt_of_lt_of_le (Heap.lt_size q) dn)
  have keepT : ∀ {b : Addr} {o : HO}, H b = some o → exo a C none ≠ o → upd (upd H dx (exd dx [(f, y)])) a (exo a C (some dx)) b = some o := fun {b o} q ne => by
    rw [upd_ne (at_ne e q ne), upd_ne (ne_of_none q hnd)]
    exact q
  have U : Un X.fs [] H (upd (upd H dx (exd dx [(f, y)])) a (exo a C (some dx))) hp h' := by
    refine ⟨fun b o q n _ _ => k b o (na n) q, fun b o q n _ _ => ⟨o.slots, k b o (na n) q⟩, fun b o q n _ => ?_, fun b o q _ => ?_, fun b xs q => keepT q exo_tup, fun b o v q => keepT q exo_frz, fun b ps q => ⟨#[], ?_⟩⟩
    · rw [upd_ne (na n), upd_ne (nd q)]
      exact n
    · by_cases hb : b = a
      · rw [hb]
        exact ⟨_, hx⟩
      · exact ⟨o, k b o hb q⟩
    · rw [keepT q exo_tbl]
      simp
  refine h dx _ hnd dne (I.un (t' := tk') U fun b o q => ?_)
  by_cases hb : b = a
  · subst hb
    rw [upd_same] at q
    cases q
    exact exo_ok hx
  · rw [upd_ne hb] at q
    by_cases hd : b = dx
    · subst hd
      rw [upd_same] at q
      cases q
      exact exd_ok hn (relO_put (fs := []) ry fun g => True.intro)
    · rw [upd_ne hd] at q
      refine (I.hok b o q).stay (fun c v hc z => k c v ?_ z) (fun c hc => keepT hc exo_own) fun c xs hc => keepT hc exo_tup
      rcases hc with hc | hc
      · rw [hc]
        exact hb
      · exact at_ne e hc exo_own
end
/-- self.f = e as the reading of a statement -/
def tOstB (K : PySem.W.Frag) (tl : List Value) (newId : String) (f : Str) (to te : TE) : TS := fun D σ H => te σ H fun y H1 => to σ H1 fun x H2 => ∃ a C : Addr, x = .ref a ∧ ExcK K C tl newId ∧ PySem.W.findIn K (.ref C) f = some none ∧
  H2 a = some (exo a C none) ∧ ∀ dx, H2 dx = none → dx ≠ a → D.nx σ (upd (upd H2 dx (exd dx [(f, y)])) a (exo a C (some dx)))
section
variable {X : Cx} {o e : Expr} {es : List Expr} {to te : TE} {ta : TA} {f : Str} {p p' pos : Pos} {B newId initId : String} {tl : List Value}
theorem ps_ostB (EB : ExB B newId initId tl) (ho : PE X o to) (he : PE X e te) (hs : swapsWith e (some (.Attribute o f p')) pos.line X.env = pure false := by rfl) : PS X (.Assign [.Attribute o f p'] e pos) (tOstB X.K tl newId f to te) := by
  constructor
  intro pins s σ H D I h
  refine plainObj_wpAny_Assign_Attribute (thn (he.run pins s σ H _ I h) fun v s1 hv => ?_) hs
  obtain ⟨y, H1, I1, r1, q1⟩ := hv
  refine thn (ho.run pins s1 σ H1 _ I1 q1) fun u s2 hu => ?_
  obtain ⟨x, H2, I2, r2, a, C, ex, T, hno, ea, q⟩ := hu
  subst ex
  cases (show u = Value.ref a from r2)
  exact ost_b EB T I2 ea hno r1 fun dx s' n ne J => ⟨σ, _, J, q dx n ne⟩
/-- C(e, ..) as what a raise makes -/
theorem pmk_b {CX : CXT} {x : Str} {C fI : Addr} {k : Nat} {fd : FuncData} {ps : List Str} {sp : Sp} (EB : ExB B newId initId tl) (T : ExcK X.K C tl newId) (iC : PySem.W.findIn X.K (.ref C) "__init__" = some (some (.ref fI))) (tI : PySem.W.typeIn X.K (.ref fI) = some (.type "function"))
    (F1 : FnOk X.prog X.w X.K X.mg X.base CX k fI fd ps sp) (hr : Room (k + 1) X.A) (hb : Binds X.K fd ps []) (hx : Passes CX X (fun _ _ _ => False)) (hm : X.mg x = some (.ref C)) (ha : PA X (e :: es) ta) (hg : Gl X x := by rfl)
    (hdb : (x == ("__debug__" : Str)) = false := by decide) (he : starEach (e :: es) X.env = (false, eval e X.env) :: starEach es X.env := by rfl) (hpl : (backTo pos (starEach es X.env)).any (fun q => q.1) = false := by rfl) :
    PMk X (.Call (.Name x p) (e :: es) [] pos) (tMkO C sp [] ta) := by
  intro pins s σ H Q I h
  refine wpAny_Call_Name_kw (ld_glob I hg hm (PySem.W.callWith_K (h₀ := X.base) I.ok.mod.kin T.kC (thn (ha.run pos pins s σ H _ I h) fun us s1 hu => ?_) he hpl) hdb)
  obtain ⟨vs, H1, I1, r1, hz, q1⟩ := hu
  refine ⟨I1.kIn, ?_⟩
  show wpAny _ _ (call (.ref C) us) _ _ _
  obtain ⟨nm, N', qn, bs, bm, hdct, sn, sub, ab, col, dd, k0, k1, k2, k3, k5, hC, hT⟩ := PySem.W.excInit_of I1.kIn T.ini
  obtain ⟨hp, g, dr, tk, os⟩ := s1
  generalize hA : hp.objs.size + 1 = A1
  have hsz : hp.objs.size ≤ A1 := by omega
  have hq := q1 A1 (I1.hok.fresh hsz)
  have kk : ∀ b o, hp.get? b = some o → ((hp.push (PySem.W.kdv_tup us)).push (HandSPX.excO C hp.objs.size)).get? b = some o := fun b o e => Heap.get?_push_of_some _ (Heap.get?_push_of_some _ e)
  have hget : ((hp.push (PySem.W.kdv_tup us)).push (HandSPX.excO C hp.objs.size)).get? A1 = some (HandSPX.excO C hp.objs.size) := by
    rw [← hA]
    heap_get
  have I2 : Inv X pins σ (upd H1 A1 (exo A1 C none)) ⟨(hp.push (PySem.W.kdv_tup us)).push (HandSPX.excO C hp.objs.size), g, dr, tk, os⟩ :=
    I1.laid (t' := tk) (a := A1) (o := exo A1 C none) (h' := (hp.push (PySem.W.kdv_tup us)).push (HandSPX.excO C hp.objs.size)) kk hsz (exo_ok hget)
  have r2 : Vals (V.ref A1 :: (vs ++ [])) (Value.ref A1 :: (us ++ [])) := .cons rfl (r1.append .nil)
  have hl : (Value.ref A1 :: us ++ []).length = ps.length := (r2.length.symm.trans (F1.len _ _ _ _ hq))
  have hus : us.length ≤ sizeLine := by
    rw [← Paired.length r1]
    exact Nat.le_of_lt (small1000 hz)
  refine wpAny_call (HandSPX.call_own EB.fb hT hC (PySem.W.looks_findIn I1.kIn iC) (fun self => PySem.W.bind_fn I1.kIn self tI) hus ?_)
  rw [hA]
  have hbd := hb ⟨(hp.push (PySem.W.kdv_tup us)).push (HandSPX.excO C hp.objs.size), g, dr, tk, os⟩ (Value.ref A1 :: us) I2.kIn hl
  rw [List.cons_append] at hbd
  refine codeAny_mono (F1.run _ X.stack _ _ ⟨Value.ref A1 :: us, []⟩ (Value.ref A1 :: (us ++ [])) _ _ (fun _ _ _ => False) (hr.make C us []) (I2.env0.make C us []) hbd r2 hq) fun r s' hq' => ?_
  match r, hq' with
  | .error er, hq' => exact hx pins σ _ _ er s' I2 hq'
  | .ok .next, hq' => exact False.elim hq'
  | .ok .brk, hq' => exact False.elim hq'
  | .ok .cont, hq' => exact False.elim hq'
  | .ok (.ret u), hq' =>
    obtain ⟨v, H2, os2, bare2, un2, hok2, rv, ev, d, fs, ea, ed, hd1, q2⟩ := hq'
    subst ev
    obtain ⟨h2, g2, d2, t2, os'⟩ := s'
    exact ⟨rv, mk_end (raises_own T.exC T.tyC) I1 hsz kk un2 hok2 os2 bare2 ea ed hd1 q2⟩
end
end Lw

set_option Elab.async false
set_option linter.all false
set_option maxRecDepth 100000
set_option maxHeartbeats 2000000
namespace Lw
open PySem PySem.Spec PyProof.Rows L2
/-! ## common divisors -/
theorem gcd_step (a b : Int) : Int.gcd b (a.fmod b) = Int.gcd a b := by
  rw [Int.fmod_def, Int.gcd_sub_mul_left_right, Int.gcd_comm]
theorem fmod_fall (a b : Int) (h : b ≠ 0) : (a.fmod b).natAbs < b.natAbs := by
  by_cases hb : 0 < b
  · have h1 := Int.fmod_lt_of_pos a hb
    have h2 := Int.fmod_nonneg_of_pos a hb
    omega
  · have hb' : 0 < -b := by omega
    have h1 := Int.fmod_lt_of_pos (-a) hb'
    have h2 := Int.fmod_nonneg_of_pos (-a) hb'
    rw [Int.neg_fmod_neg] at h1 h2
    omega
theorem fmod_le (a b : Int) (h : b ≠ 0) {n : Nat} (hb : b.natAbs < n) : (a.fmod b).natAbs < n := Nat.lt_trans (fmod_fall a b h) hb
theorem abs_if (a : Int) : (if a < 0 then -a else a) = (a.natAbs : Int) := by
  split <;> omega
theorem gcd_pos {n d : Int} (h : d ≠ 0) : 0 < Int.gcd n d := by
  refine Nat.pos_of_ne_zero fun e => ?_
  exact h (Int.gcd_eq_zero_iff.mp e).2
theorem gcd_le {n d : Int} (h : d ≠ 0) : Int.gcd n d ≤ d.natAbs := by
  have e : (Int.gcd n d) ∣ d.natAbs := Int.ofNat_dvd_left.mp (Int.gcd_dvd_right n d)
  exact Nat.le_of_dvd (by omega) e
/-- // by a divisor of some thousand digits, of either sign -/
def CDivG (_ j : Int) : Prop := j ≠ 0 ∧ j.natAbs < 2 ^ 1000
theorem op_fdivG {X : Cx} : OpR X (binaryOp .FloorDiv) (rI CDivG fun i j => .int (i.fdiv j)) := opI fun i j _ _ _ _ _ hc q =>
  floordiv_int hc.1 q (.inl (PyProof.noPylong_of_log2 (Nat.lt_of_lt_of_le (PySem.Flt.log2_lt_of (by decide) hc.2) (by decide))))
/-- the number of a numerator and a denominator other than 0, as data -/
def lowC (n d : Int) : Int := if d < 0 then -(Int.gcd n d : Int) else (Int.gcd n d : Int)
def lowD (n d : Int) : PyData := if d.fdiv (lowC n d) = 1 then .int (n.fdiv (lowC n d)) else .tuple [.int (n.fdiv (lowC n d)), .int (d.fdiv (lowC n d))]
theorem lowC_ne {n d : Int} (h : d ≠ 0) : lowC n d ≠ 0 := by
  have := gcd_pos (n := n) h
  unfold lowC
  split <;> omega
theorem lowC_le {n d : Int} (h : d ≠ 0) : (lowC n d).natAbs ≤ d.natAbs := by
  have := gcd_le (n := n) h
  unfold lowC
  split <;> omega
theorem lowC_dvd (n d : Int) : lowC n d ∣ n ∧ lowC n d ∣ d := by
  have h1 := Int.gcd_dvd_left n d
  have h2 := Int.gcd_dvd_right n d
  unfold lowC
  split
  · exact ⟨Int.neg_dvd.mpr h1, Int.neg_dvd.mpr h2⟩
  · exact ⟨h1, h2⟩
theorem fdiv_le {n c : Int} (hc : c ≠ 0) (h : c ∣ n) : (n.fdiv c).natAbs ≤ n.natAbs := by
  obtain ⟨k, rfl⟩ := h
  rw [Int.mul_fdiv_cancel_left _ hc, Int.natAbs_mul]
  exact Nat.le_mul_of_pos_left _ (by omega)
/-- the same by a law's own words: the denominator is made positive first -/
def ratN (n d : Int) : Int := if d < 0 then -n else n
def ratL (d : Int) : Int := if d < 0 then -d else d
def ratD (n d : Int) : PyData := if ratL d = (Int.gcd (ratN n d) (ratL d) : Int) then .int ((ratN n d).fdiv (Int.gcd (ratN n d) (ratL d) : Int)) else .tuple [.int ((ratN n d).fdiv (Int.gcd (ratN n d) (ratL d) : Int)), .int ((ratL d).fdiv (Int.gcd (ratN n d) (ratL d) : Int))]
theorem rat_gcd (n d : Int) : Int.gcd (ratN n d) (ratL d) = Int.gcd n d := by
  unfold ratN ratL
  split
  · rw [Int.gcd_neg, Int.neg_gcd]
  · rfl
theorem rat_div {n d : Int} (h : d ≠ 0) : (ratN n d).fdiv (Int.gcd n d : Int) = n.fdiv (lowC n d) ∧ (ratL d).fdiv (Int.gcd n d : Int) = d.fdiv (lowC n d) := by
  have hp := gcd_pos (n := n) h
  have hg : (Int.gcd n d : Int) ≠ 0 := by omega
  obtain ⟨x, hx⟩ := Int.gcd_dvd_left n d
  obtain ⟨y, hy⟩ := Int.gcd_dvd_right n d
  generalize hG : (Int.gcd n d : Int) = G at *
  have hC : lowC n d = if d < 0 then -G else G := by
    unfold lowC
    rw [hG]
  unfold ratN ratL
  rw [hC]
  by_cases hd : d < 0
  · rw [if_pos hd, if_pos hd, if_pos hd]
    have n1 : -n = G * -x := by rw [hx, Int.mul_neg]
    have d1 : -d = G * -y := by rw [hy, Int.mul_neg]
    have n2 : n = -G * -x := by rw [hx, Int.neg_mul_neg]
    have d2 : d = -G * -y := by rw [hy, Int.neg_mul_neg]
    have e1 : (-n).fdiv G = -x := by rw [n1, Int.mul_fdiv_cancel_left _ hg]
    have e2 : (-d).fdiv G = -y := by rw [d1, Int.mul_fdiv_cancel_left _ hg]
    have e3 : n.fdiv (-G) = -x := by
      rw [n2]
      exact Int.mul_fdiv_cancel_left _ (by omega)
    have e4 : d.fdiv (-G) = -y := by
      rw [d2]
      exact Int.mul_fdiv_cancel_left _ (by omega)
    rw [e1, e2, e3, e4]
    exact ⟨rfl, rfl⟩
  · rw [if_neg hd, if_neg hd, if_neg hd]
    exact ⟨rfl, rfl⟩
theorem ratD_eq {n d : Int} (h : d ≠ 0) : ratD n d = lowD n d := by
  have hp := gcd_pos (n := n) h
  obtain ⟨e1, e2⟩ := rat_div (n := n) h
  unfold ratD lowD
  rw [rat_gcd, e1, e2]
  have key : (ratL d = (Int.gcd n d : Int)) ↔ (d.fdiv (lowC n d) = 1) := by
    rw [← e2]
    have hv : (Int.gcd n d : Int) ∣ ratL d := by
      unfold ratL
      split
      · exact Int.dvd_neg.mpr (Int.gcd_dvd_right n d)
      · exact Int.gcd_dvd_right n d
    obtain ⟨k, hk⟩ := hv
    rw [hk, Int.mul_fdiv_cancel_left _ (by omega)]
    constructor
    · intro q
      have q2 : (Int.gcd n d : Int) * k = (Int.gcd n d : Int) * 1 := by rw [q, Int.mul_one]
      exact Int.eq_of_mul_eq_mul_left (by omega) q2
    · rintro rfl
      rw [Int.mul_one]
  by_cases c : d.fdiv (lowC n d) = 1
  · rw [if_pos (key.mpr c), if_pos c]
  · rw [if_neg (fun q => c (key.mp q)), if_neg c]
/-! ## new data -/
/-- what H' has and H has not -/
def nw (H H' : Hp) : Hp := fun b => match H b with
  | some _ => none
  | none => H' b
theorem nw_at {H H' : Hp} {b : Addr} (h : H b = none) : nw H H' b = H' b := by
  unfold nw
  rw [h]
theorem nw_get {H H' : Hp} {b : Addr} {o : HO} (h : nw H H' b = some o) : H b = none ∧ H' b = some o := by
  cases e : H b with
  | none =>
    rw [nw_at e] at h
    exact ⟨rfl, h⟩
  | some u =>
    unfold nw at h
    rw [e] at h
    cases h
/-- data that lie in what is new -/
def Fresh (K : PySem.W.Frag) (H H' : Hp) (v : V) (d : PyData) : Prop := Dq K (nw H H') v d
theorem nw_same {H H' : Hp} : Same (nw H H') H' := fun _ _ h => (nw_get h).2
theorem nw_off {H H' : Hp} {a : Addr} (h : H a ≠ none) : Same (nw H H') (off H' a) := fun b o g => by
  obtain ⟨h1, h2⟩ := nw_get g
  have n : b ≠ a := fun e => by
    rw [e] at h1
    exact h h1
  rw [off_ne n]
  exact h2
theorem nw_mono {H H1 H' H2 : Hp} (s : ∀ b, H1 b = none → H b = none) (t : ∀ b o, H1 b = none → H' b = some o → H2 b = some o) : Same (nw H1 H') (nw H H2) := fun b o g => by
  obtain ⟨h1, h2⟩ := nw_get g
  rw [nw_at (s b h1)]
  exact t b o h1 h2
theorem same_none {H H' : Hp} (s : Same H H') : ∀ b, H' b = none → H b = none := fun b h => s.free h
theorem Fresh.dq {K : PySem.W.Frag} {H H' : Hp} {v : V} {d : PyData} (h : Fresh K H H' v d) : Dq K H' v d := Dq.same nw_same h
theorem Fresh.away {K : PySem.W.Frag} {H H' : Hp} {v : V} {d : PyData} {a : Addr} (h : Fresh K H H' v d) (ha : H a ≠ none) : Dq K (off H' a) v d := Dq.same (nw_off ha) h
theorem Fresh.later {K : PySem.W.Frag} {H H' H2 : Hp} {v : V} {d : PyData} (h : Fresh K H H' v d) (s : Same H' H2) : Fresh K H H2 v d := Dq.same (nw_mono (fun _ e => e) fun b o _ e => s b o e) h
theorem Fresh.sooner {K : PySem.W.Frag} {H H0 H' : Hp} {v : V} {d : PyData} (h : Fresh K H H' v d) (s : Same H0 H) : Fresh K H0 H' v d := Dq.same (nw_mono (same_none s) fun b o _ e => e) h
mutual
def slim : PyData → Bool
  | .list xs => decide (xs.length ≤ 900) && slimAll xs
  | .tuple xs => decide (xs.length ≤ 900) && slimAll xs
  | .dict (_ :: _) => false
  | _ => true
def slimAll : List PyData → Bool
  | [] => true
  | x :: xs => slim x && slimAll xs
end
theorem slim_at : ∀ {ds : List PyData} {d : PyData}, slimAll ds = true → d ∈ ds → slim d = true
  | [], _, _, h => nomatch h
  | x :: xs, d, h, hd => by
    have h' : (slim x && slimAll xs) = true := by simpa only [slimAll] using h
    rw [Bool.and_eq_true] at h'
    rcases List.mem_cons.mp hd with rfl | hd
    · exact h'.1
    · exact slim_at h'.2 hd
theorem depth_at : ∀ {ds : List PyData} {d : PyData}, d ∈ ds → d.depth ≤ PyData.depthAll ds
  | [], _, h => nomatch h
  | x :: xs, d, hd => by
    simp only [PyData.depthAll]
    rcases List.mem_cons.mp hd with rfl | hd
    · omega
    · have := depth_at (ds := xs) hd
      omega
theorem dqall_snoc {K : PySem.W.Frag} {H : Hp} : ∀ {vs : List V} {ds : List PyData} {v : V} {d : PyData}, DqAll K H vs ds → Dq K H v d → DqAll K H (vs ++ [v]) (ds ++ [d])
  | _, _, _, _, .nil, h => .cons h .nil
  | _, _, _, _, .cons h g, q => .cons h (dqall_snoc g q)
theorem dq_get {K : PySem.W.Frag} {H : Hp} : ∀ {vs : List V} {ds : List PyData} {i : Nat} {v : V}, DqAll K H vs ds → vs[i]? = some v → ∃ d, ds[i]? = some d ∧ Dq K H v d
  | _, _, _, _, .nil, e => by simp at e
  | _, _, 0, _, .cons h _, e => by
    simp at e
    subst e
    exact ⟨_, rfl, h⟩
  | _, _, i + 1, v, .cons _ g, e => by
    obtain ⟨d, h1, h2⟩ := dq_get g (i := i) (v := v) (by simpa using e)
    exact ⟨d, by simpa using h1, h2⟩
theorem dq_len {K : PySem.W.Frag} {H : Hp} : ∀ {vs : List V} {ds : List PyData}, DqAll K H vs ds → vs.length = ds.length
  | _, _, .nil => rfl
  | _, _, .cons _ g => congrArg Nat.succ (dq_len g)
end Lw

set_option Elab.async false
set_option linter.all false
set_option maxRecDepth 100000
set_option maxHeartbeats 2000000
namespace Lw
open PySem PySem.Spec PyProof.Rows L2
/-! ## the text of an integer -/
def iTx (i : Int) : Str := Str.ofString (toString i)
def sgnL (i : Int) : List Nat := if i < 0 then 45 :: TL.numL i.natAbs else TL.numL i.natAbs
theorem tl_iTx (i : Int) : TL.tl (iTx i) = sgnL i := by
  unfold iTx sgnL
  by_cases h : i < 0
  · have e : (0 : Int) - i = ((i.natAbs : Nat) : Int) := by omega
    have n := TL.tl_num i.natAbs
    rw [if_pos h, toString_neg h, e]
    rw [TL.tl_ofString] at n ⊢
    rw [String.toList_append, List.map_append, n]
    rfl
  · rw [if_neg h]
    have e : i = ((i.natAbs : Nat) : Int) := by omega
    conv => lhs; rw [e]
    exact TL.tl_num i.natAbs
def digN (c : Nat) : Bool := decide (48 ≤ c) && decide (c ≤ 57)
theorem digits_tl : ("0123456789" : Str).cps.toList = [48, 49, 50, 51, 52, 53, 54, 55, 56, 57] := by decide +kernel
theorem dig_mem (c : Nat) : decide (c ∈ ("0123456789" : Str).cps.toList) = digN c := by
  rw [digits_tl]
  unfold digN
  rw [Bool.eq_iff_iff, Bool.and_eq_true, decide_eq_true_eq, decide_eq_true_eq, decide_eq_true_eq]
  simp only [List.mem_cons, List.not_mem_nil, or_false]
  omega
theorem digN_iff {c : Nat} : digN c = true ↔ 48 ≤ c ∧ c ≤ 57 := by
  unfold digN
  rw [Bool.and_eq_true, decide_eq_true_eq, decide_eq_true_eq]
theorem all_dig {l : List Nat} : l.all digN = true ↔ NumText.AllDigits l := by
  rw [List.all_eq_true]
  exact ⟨fun h c hc => digN_iff.mp (h c hc), fun h c hc => digN_iff.mpr (h c hc)⟩
/-- behind a minus sign -/
def cut1 : List Nat → List Nat
  | 45 :: r => r
  | l => l
def minus1 : List Nat → Bool
  | 45 :: _ => true
  | _ => false
theorem cut_yes {l : List Nat} (h : minus1 l = true) : l = 45 :: cut1 l := by
  unfold minus1 at h
  split at h
  · rfl
  · cases h
theorem cut_no {l : List Nat} (h : minus1 l = false) : cut1 l = l := by
  unfold minus1 at h
  split at h
  · cases h
  · rename_i n
    unfold cut1
    split
    · exact absurd rfl (n _)
    · rfl
theorem minus_dig {l : List Nat} (h : NumText.AllDigits l) : minus1 l = false := by
  unfold minus1
  split
  · have := h 45 (List.mem_cons_self ..)
    omega
  · rfl
/-- the texts of integers, and what they say -/
def itx (l : List Nat) : Bool := decide (l = [48]) || (decide (cut1 l ≠ []) && (decide ((cut1 l).head? ≠ some 48) && (cut1 l).all digN))
def ivl (l : List Nat) : Int := if minus1 l = true then -((NumText.digitsVal (cut1 l) : Nat) : Int) else ((NumText.digitsVal (cut1 l) : Nat) : Int)
theorem ofNat_dig {c : Nat} (h1 : 48 ≤ c) (h2 : c ≤ 57) : (Char.ofNat c).toNat = c := by
  have e : c = 48 ∨ c = 49 ∨ c = 50 ∨ c = 51 ∨ c = 52 ∨ c = 53 ∨ c = 54 ∨ c = 55 ∨ c = 56 ∨ c = 57 := by omega
  rcases e with rfl | rfl | rfl | rfl | rfl | rfl | rfl | rfl | rfl | rfl <;> rfl
theorem back_dig : ∀ {l : List Nat}, NumText.AllDigits l → (l.map Char.ofNat).map Char.toNat = l
  | [], _ => rfl
  | c :: r, h => by
    have hc := h c (List.mem_cons_self ..)
    rw [List.map_cons, List.map_cons, ofNat_dig hc.1 hc.2, back_dig fun x hx => h x (List.mem_cons_of_mem _ hx)]
theorem num_back {c : Nat} {r : List Nat} (h : NumText.AllDigits (c :: r)) (h0 : c ≠ 48) : TL.numL (NumText.digitsVal (c :: r)) = c :: r ∧ 0 < NumText.digitsVal (c :: r) := by
  have hc := h c (List.mem_cons_self ..)
  have e := NumText.toDigits_digitsVal r.length (c :: r) rfl h (.inr ⟨c, r, rfl, by omega⟩)
  refine ⟨?_, NumText.digitsVal_pos (by omega)⟩
  unfold TL.numL
  rw [e, back_dig h]
theorem itx_cases {l : List Nat} (h : itx l = true) : l = [48] ∨ ∃ c r, cut1 l = c :: r ∧ c ≠ 48 ∧ NumText.AllDigits (c :: r) := by
  unfold itx at h
  simp only [Bool.or_eq_true, Bool.and_eq_true, decide_eq_true_eq] at h
  rcases h with h | ⟨h1, h2, h3⟩
  · exact .inl h
  · cases e : cut1 l with
    | nil => exact absurd e h1
    | cons c r =>
      rw [e] at h2 h3
      exact .inr ⟨c, r, rfl, fun z => h2 (by rw [z]; rfl), all_dig.mp h3⟩
theorem sgn_zero : sgnL 0 = [48] := by
  show TL.numL 0 = [48]
  rw [TL.numL_lt (by decide)]
/-- a text of an integer is the text of what it says -/
theorem itx_num {l : List Nat} (h : itx l = true) : sgnL (ivl l) = l := by
  rcases itx_cases h with rfl | ⟨c, r, e, c0, hd⟩
  · show sgnL (((NumText.digitsVal [48] : Nat) : Int)) = [48]
    exact sgn_zero
  · obtain ⟨e1, p1⟩ := num_back hd c0
    unfold ivl
    rw [e]
    by_cases m : minus1 l = true
    · rw [if_pos m]
      unfold sgnL
      rw [if_pos (by omega), Int.natAbs_neg, Int.natAbs_natCast, e1]
      have := cut_yes m
      rw [e] at this
      exact this.symm
    · rw [if_neg m]
      unfold sgnL
      rw [if_neg (by omega), Int.natAbs_natCast, e1, ← e]
      exact cut_no (Bool.eq_false_iff.mpr m)
theorem itx_tx {z : Str} (h : itx (TL.tl z) = true) : iTx (ivl (TL.tl z)) = z := by
  refine TL.ext_tl ?_
  rw [tl_iTx]
  exact itx_num h
theorem cut_num (n : Nat) : minus1 (TL.numL n) = false ∧ cut1 (TL.numL n) = TL.numL n := ⟨minus_dig (TL.numL_digits n), cut_no (minus_dig (TL.numL_digits n))⟩
theorem ivl_sgn (i : Int) : ivl (sgnL i) = i := by
  unfold ivl sgnL
  by_cases h : i < 0
  · rw [if_pos h]
    show (if true = true then -((NumText.digitsVal (TL.numL i.natAbs) : Nat) : Int) else _) = i
    rw [if_pos rfl, TL.numL_val]
    omega
  · rw [if_neg h, (cut_num _).1, (cut_num _).2, if_neg (by decide), TL.numL_val]
    omega
theorem num_head : ∀ n : Nat, 0 < n → (TL.numL n).head? ≠ some 48 := by
  intro n
  induction n using Nat.strongRecOn with
  | _ n ih =>
    intro h
    by_cases l : n < 10
    · rw [TL.numL_lt l]
      show some (48 + n) ≠ some 48
      intro z
      have := Option.some.inj z
      omega
    · have q := ih (n / 10) (by omega) (by omega)
      rw [TL.numL_step (by omega)]
      have ne := TL.numL_ne (n / 10)
      revert q ne
      generalize TL.numL (n / 10) = l
      intro q ne
      cases l with
      | nil => exact absurd rfl ne
      | cons a r => exact q
theorem itx_sgn (i : Int) : itx (sgnL i) = true := by
  by_cases z : i = 0
  · subst z
    rw [sgn_zero]
    rfl
  · have c : cut1 (sgnL i) = TL.numL i.natAbs := by
      unfold sgnL
      by_cases h : i < 0
      · rw [if_pos h]
        rfl
      · rw [if_neg h]
        exact (cut_num _).2
    unfold itx
    rw [c, Bool.or_eq_true, Bool.and_eq_true, Bool.and_eq_true, decide_eq_true_eq, decide_eq_true_eq, decide_eq_true_eq]
    exact .inr ⟨TL.numL_ne _, num_head _ (by omega), all_dig.mpr (TL.numL_digits _)⟩
theorem sgn_free {i : Int} {c : Nat} (h : c = 47 ∨ c = 32 ∨ c = 10) : c ∉ sgnL i := by
  have n : c ∉ TL.numL i.natAbs := TL.numL_free (by omega)
  unfold sgnL
  split
  · intro z
    rcases List.mem_cons.mp z with z | z
    · omega
    · exact n z
  · exact n
theorem sgn_len {i : Int} {k : Nat} (hk : 0 < k) (h : i.natAbs < 10 ^ k) : (sgnL i).length ≤ k + 1 := by
  have := TL.numL_len hk h
  unfold sgnL
  split
  · rw [List.length_cons]
    omega
  · omega
theorem iTx_len {i : Int} {k : Nat} (hk : 0 < k) (h : i.natAbs < 10 ^ k) : (iTx i).length ≤ k + 1 := by
  rw [TL.len_tl, tl_iTx]
  exact sgn_len hk h
theorem sgn_ascii (i : Int) : ∀ c ∈ sgnL i, c < 128 := by
  have n : ∀ c ∈ TL.numL i.natAbs, c < 128 := fun c hc => by
    have := TL.numL_digits _ c hc
    omega
  unfold sgnL
  split
  · intro c hc
    rcases List.mem_cons.mp hc with rfl | hc
    · decide
    · exact n c hc
  · exact n
theorem fold_lt : ∀ (l : List Nat) (a : Nat), NumText.AllDigits l → l.foldl (fun acc c => acc * 10 + (c - 48)) a < (a + 1) * 10 ^ l.length
  | [], a, _ => by
    show a < (a + 1) * 1
    omega
  | c :: r, a, h => by
    have hc := h c (List.mem_cons_self ..)
    have ih := fold_lt r (a * 10 + (c - 48)) fun x hx => h x (List.mem_cons_of_mem _ hx)
    rw [List.foldl_cons, List.length_cons]
    refine Nat.lt_of_lt_of_le ih ?_
    rw [Nat.pow_succ, Nat.mul_comm (10 ^ r.length) 10, ← Nat.mul_assoc]
    exact Nat.mul_le_mul_right _ (by omega)
theorem ivl_lt {l : List Nat} {k : Nat} (h : itx l = true) (hl : l.length ≤ k) : (ivl l).natAbs < 10 ^ k := by
  have hd : NumText.AllDigits (cut1 l) := by
    rcases itx_cases h with rfl | ⟨c, r, e, c0, hd⟩
    · intro c hc
      cases List.mem_singleton.mp hc
      decide
    · rw [e]
      exact hd
  have cl : (cut1 l).length ≤ l.length := by
    unfold cut1
    split
    · rw [List.length_cons]
      omega
    · exact Nat.le_refl _
  have f := fold_lt (cut1 l) 0 hd
  have e : (ivl l).natAbs = NumText.digitsVal (cut1 l) := by
    unfold ivl
    split
    · rw [Int.natAbs_neg, Int.natAbs_natCast]
    · rw [Int.natAbs_natCast]
  rw [e]
  unfold NumText.digitsVal
  have p : (10 : Nat) ^ (cut1 l).length ≤ 10 ^ k := Nat.pow_le_pow_right (by decide) (by omega)
  omega
/-! ### removeprefix, startswith, slices, int -/
theorem dash_tl : TL.tl ("-" : Str) = [45] := by decide +kernel
theorem sub_dash (z : Str) : Builtin.Str.subAt z ("-" : Str) 0 = minus1 (TL.tl z) := by
  rw [StrLaws.subAt_eq]
  show ((TL.tl z).take (Str.length ("-" : Str)) == TL.tl ("-" : Str)) = _
  rw [dash_tl, TL.len_tl, dash_tl]
  cases TL.tl z with
  | nil => rfl
  | cons c r =>
    show ([c] == [45]) = _
    by_cases h : c = 45
    · subst h
      rfl
    · have e : minus1 (c :: r) = false := by
        unfold minus1
        split
        · rename_i q
          cases q
          exact absurd rfl h
        · rfl
      rw [e]
      simpa using h
theorem tl_cut (z : Str) : TL.tl (Txt.removeprefix z ("-" : Str)) = cut1 (TL.tl z) := by
  unfold Txt.removeprefix
  rw [sub_dash]
  by_cases m : minus1 (TL.tl z) = true
  · have e := cut_yes m
    have l : z.length = (cut1 (TL.tl z)).length + 1 := by
      rw [TL.len_tl]
      conv => lhs; rw [e]
      rfl
    rw [if_pos m]
    show TL.tl (if (z.length - Str.length ("-" : Str) == z.length) = true then z else Builtin.Str.strSub z (Str.length ("-" : Str)) z.length) = _
    have d1 : Str.length ("-" : Str) = 1 := by decide +kernel
    rw [d1, if_neg (by simp; omega), TL.tl_strSub_end]
    conv => lhs; rw [e]
    rfl
  · rw [if_neg m, cut_no (Bool.eq_false_iff.mpr m)]
    rfl
theorem starts_dash (z : Str) : Txt.startswith z ("-" : Str) = minus1 (TL.tl z) := by
  unfold Txt.startswith
  rw [sub_dash]
  by_cases m : minus1 (TL.tl z) = true
  · have e := cut_yes m
    have l : z.length = (cut1 (TL.tl z)).length + 1 := by
      rw [TL.len_tl]
      conv => lhs; rw [e]
      rfl
    have d1 : Str.length ("-" : Str) = 1 := by decide +kernel
    rw [m, Bool.and_true, d1]
    exact decide_eq_true (by omega)
  · rw [Bool.eq_false_iff.mpr m, Bool.and_false]
theorem tl_head1 (z : Str) : TL.tl (cutS z none (some 1)) = (TL.tl z).take 1 := by
  show ((TL.tl z).drop (HT.sIx z.length 0 none)).take (HT.sIx z.length z.length (some ((1 : Nat) : Int)) - HT.sIx z.length 0 none) = _
  rw [HT.sIx_none, HT.sIx_nat, List.drop_zero, Nat.sub_zero, TL.len_tl]
  cases TL.tl z with
  | nil => rfl
  | cons c r => rw [Nat.min_eq_left (by rw [List.length_cons]; omega)]
theorem tl_tail1 (z : Str) : TL.tl (cutS z (some 1) none) = (TL.tl z).drop 1 := by
  show ((TL.tl z).drop (HT.sIx z.length 0 (some ((1 : Nat) : Int)))).take (HT.sIx z.length z.length none - HT.sIx z.length 0 (some ((1 : Nat) : Int))) = _
  rw [HT.sIx_none, HT.sIx_nat, TL.len_tl]
  cases TL.tl z with
  | nil => rfl
  | cons c r =>
    rw [Nat.min_eq_left (by rw [List.length_cons]; omega)]
    show r.take (r.length + 1 - 1) = r
    exact List.take_length
theorem head_dash (z : Str) : decide (V.str (cutS z none (some 1)) = V.str ("-" : Str)) = minus1 (TL.tl z) := by
  have key : (V.str (cutS z none (some 1)) = V.str ("-" : Str)) ↔ (TL.tl z).take 1 = [45] := by
    rw [← tl_head1, ← dash_tl]
    exact ⟨fun h => by rw [V.str.inj h], fun h => congrArg V.str (TL.ext_tl h)⟩
  rw [Bool.eq_iff_iff, decide_eq_true_eq, key]
  cases TL.tl z with
  | nil =>
    constructor
    · intro h
      cases h
    · intro h
      cases h
  | cons c r =>
    show [c] = [45] ↔ _
    by_cases h : c = 45
    · subst h
      exact ⟨fun _ => rfl, fun _ => rfl⟩
    · have e : minus1 (c :: r) = false := by
        unfold minus1
        split
        · rename_i q
          cases q
          exact absurd rfl h
        · rfl
      rw [e]
      constructor
      · intro q
        cases q
        exact absurd rfl h
      · intro q
        cases q
theorem int_itx {z : Str} (h : itx (TL.tl z) = true) (hl : z.length ≤ 4300) : intText? z = some (ivl (TL.tl z)) := by
  rcases itx_cases h with e | ⟨c, r, e, c0, hd⟩
  · have d : NumText.AllDigits (TL.tl z) := by
      rw [e]
      intro c hc
      cases List.mem_singleton.mp hc
      decide
    rw [intText_digits (x := z) d (by show TL.tl z ≠ []; rw [e]; simp) hl]
    unfold ivl
    rw [minus_dig d, if_neg (by decide), cut_no (minus_dig d)]
  · unfold ivl
    by_cases m : minus1 (TL.tl z) = true
    · rw [if_pos m]
      have y := cut_yes m
      rw [e] at y ⊢
      exact intText_neg (x := z) (cs := c :: r) y hd (by simp) hl
    · have n := cut_no (Bool.eq_false_iff.mpr m)
      rw [if_neg m]
      rw [n] at e ⊢
      exact intText_digits (x := z) (by show NumText.AllDigits (TL.tl z); rw [e]; exact hd) (by show TL.tl z ≠ []; rw [e]; simp) hl
/-- one digit -/
theorem int_dig {c : Nat} (h : digN c = true) : intText? (⟨#[c]⟩ : Str) = some ((c : Int) - 48) := by
  have hc := digN_iff.mp h
  rw [intText_digits (x := ⟨#[c]⟩) (by
    intro d hd
    cases List.mem_singleton.mp (show d ∈ [c] from hd)
    exact hc) (by simp) (by show 1 ≤ 4300; decide)]
  show some ((0 * 10 + (c - 48) : Nat) : Int) = _
  congr 1
  omega
/-! ### cut at slashes -/
theorem slash_tl : TL.tl ("/" : Str) = [47] := by decide +kernel
theorem slash_ok : (("/" : Str).cps.all (· < 256)) = true := by decide +kernel
theorem split_len (z : Str) : (Txt.split z ("/" : Str)).length ≤ z.length + 1 := by
  have e := TL.split_spl z ("/" : Str) (by rw [slash_tl]; simp) (TL.kind_ok slash_ok)
  have l : (Txt.split z ("/" : Str)).length = ((Txt.split z ("/" : Str)).map TL.tl).length := by rw [List.length_map]
  rw [l, e, TL.len_tl, slash_tl]
  have key : ∀ (l acc : List Nat), (TL.spl [47] 0 acc l).length ≤ l.length + 1 := by
    intro l
    induction l with
    | nil => intro acc; rw [TL.spl_nil]; exact Nat.le_refl _
    | cons c r ih =>
      intro acc
      cases p : TL.pre [47] (c :: r) with
      | true =>
        rw [TL.spl_hit p, List.length_cons, List.length_cons]
        exact Nat.succ_le_succ (ih [])
      | false =>
        rw [TL.spl_miss p, List.length_cons]
        have := ih (acc ++ [c])
        omega
  exact key _ _
theorem split_ne (z : Str) : Txt.split z ("/" : Str) ≠ [] := by
  intro h
  have e := TL.split_spl z ("/" : Str) (by rw [slash_tl]; simp) (TL.kind_ok slash_ok)
  rw [h, slash_tl] at e
  have key : ∀ (l acc : List Nat), TL.spl [47] 0 acc l ≠ [] := by
    intro l
    induction l with
    | nil => intro acc; rw [TL.spl_nil]; simp
    | cons c r ih =>
      intro acc
      cases p : TL.pre [47] (c :: r) with
      | true => rw [TL.spl_hit p]; simp
      | false => rw [TL.spl_miss p]; exact ih _
  exact key _ _ e.symm
theorem join_len {y : Str} : ∀ {ws : List Str} {x : Str}, x ∈ ws → x.length ≤ (Str.join y ws).length
  | [], _, h => nomatch h
  | [a], x, h => by
    cases List.mem_singleton.mp h
    exact Nat.le_refl _
  | a :: b :: r, x, h => by
    show x.length ≤ (a ++ y ++ Str.join y (b :: r)).length
    rw [strLen_append, strLen_append]
    rcases List.mem_cons.mp h with rfl | h
    · omega
    · have := join_len (y := y) h
      omega
theorem split_part {z x : Str} (h : x ∈ Txt.split z ("/" : Str)) : x.length ≤ z.length := by
  have e := StrLaws.join_split z ("/" : Str)
  have := join_len (y := ("/" : Str)) h
  rw [e] at this
  exact this
/-! ### texts of small signs -/
theorem bytes_iTx (i : Int) : Bytes (iTx i) := fun c hc => by
  have := sgn_ascii i c (by rw [← tl_iTx]; exact hc)
  omega
theorem bytes_app {x y : Str} (h1 : Bytes x) (h2 : Bytes y) : Bytes (x ++ y) := fun c hc => by
  have e := TL.tl_append x y
  rw [show (x ++ y).cps.toList = TL.tl (x ++ y) from rfl, e] at hc
  rcases List.mem_append.mp hc with hc | hc
  · exact h1 c hc
  · exact h2 c hc
theorem bytes_cut {x : Str} {lo hi : Option Int} (h : Bytes x) : Bytes (cutS x lo hi) := fun c hc => h c (List.mem_of_mem_drop (List.mem_of_mem_take hc))
/-! ### a while that is not gone into -/
def tWhile0 (tc : TT) : TS := fun D σ H => tc σ H fun b H1 => b = false ∧ D.nx σ H1
theorem ps_while0 {X : Cx} {pos : Pos} {c : Expr} {body : List Stmt} {tc : TT} (hp : PassesOwn (model X.prog X.w) X.A X.env X.xe) (hc : PT X c tc) : PS X (.While c body [] pos) (tWhile0 tc) := by
  refine ⟨fun pins s σ H D I h => ?_⟩
  refine wpAny_While (codeAny_whileLoop (fun n s' => Inv X pins σ H s') ?_ 0 I)
  intro n s1 I1
  refine wpAny_passesOwn hp (thn (hc.run pins s1 σ H _ I1 h) fun b s2 hq => ?_)
  obtain ⟨H2, I2, rfl, q2⟩ := hq
  rw [if_neg Bool.false_ne_true]
  exact wpAny_execs_nil ⟨σ, H2, I2, q2⟩
end Lw

set_option Elab.async false
set_option linter.all false
set_option maxRecDepth 100000
set_option maxHeartbeats 2000000
namespace Lw
open PySem PySem.Spec PyProof.Rows L2
/-! ### what is shown -/
def shl (ts : List Str) : Nat := (ts.map fun t => t.length + 2).sum
theorem textFrom_le : ∀ (ts : List Str) (k : Nat) (acc : Str), (textFrom k acc ts).length ≤ acc.length + shl ts
  | [], k, acc => by
    show acc.length ≤ acc.length + _
    omega
  | t :: r, k, acc => by
    have ih := textFrom_le r (k + 1) (acc ++ (if k > 0 then ", " else "" : String) ++ t)
    have e : (acc ++ (if k > 0 then ", " else "" : String) ++ t).length ≤ acc.length + 2 + t.length := by
      rw [strLen_append, strLen_append]
      have : ((if k > 0 then ", " else "" : String) : Str).length ≤ 2 := by
        split <;> decide
      omega
    have e2 : shl (t :: r) = t.length + 2 + shl r := by
      unfold shl
      rw [List.map_cons, List.sum_cons]
    show (textFrom (k + 1) (acc ++ (if k > 0 then ", " else "" : String) ++ t) r).length ≤ _
    omega
theorem len_list (ts : List Str) : (listText ts).length ≤ 2 + shl ts := by
  have h := textFrom_le ts 0 "["
  unfold listText
  rw [strLen_append]
  have e1 : ("[" : Str).length = 1 := rfl
  have e2 : ("]" : Str).length = 1 := rfl
  omega
theorem len_tup2 (a b : Str) : (tupleText [a, b]).length = a.length + b.length + 4 := by
  show (("(" : Str) ++ (a ++ (", " : String) ++ b) ++ (")" : String)).length = _
  simp only [strLen_append]
  show 1 + (a.length + 2 + b.length) + 1 = _
  omega
theorem shown_all : ∀ (ds : List PyData), PyData.shownAll ds = ds.map PyData.shown
  | [] => rfl
  | d :: ds => by
    show d.shown :: PyData.shownAll ds = _
    rw [shown_all ds]
    rfl
theorem small_list {n : Nat} : ∀ {ds : List PyData}, (∀ d ∈ ds, Small n d ∧ d.depth ≤ 8) → Small (2 + ds.length * (n + 2)) (.list ds) := by
  intro ds h
  have h1 : ∀ ds : List PyData, (∀ d ∈ ds, Small n d ∧ d.depth ≤ 8) → PyData.showableAll ds = true ∧ shl (ds.map PyData.shown) ≤ ds.length * (n + 2) ∧ PyData.depthAll ds ≤ 8 := by
    intro ds
    induction ds with
    | nil => exact fun _ => ⟨rfl, Nat.zero_le _, Nat.zero_le _⟩
    | cons d ds ih =>
      intro h
      obtain ⟨i1, i2, i3⟩ := ih fun x hx => h x (List.mem_cons_of_mem _ hx)
      obtain ⟨j1, j2⟩ := h d List.mem_cons_self
      refine ⟨?_, ?_, ?_⟩
      · show (d.showable && PyData.showableAll ds) = true
        rw [j1.sh, i1]
        rfl
      · have e : shl ((d :: ds).map PyData.shown) = d.shown.length + 2 + shl (ds.map PyData.shown) := by
          unfold shl
          rw [List.map_cons, List.map_cons, List.sum_cons]
        have := j1.ln
        rw [e, List.length_cons, Nat.succ_mul]
        omega
      · simp only [PyData.depthAll]
        omega
  obtain ⟨a, b, c⟩ := h1 ds h
  refine ⟨a, ?_, ?_⟩
  · show (listText (PyData.shownAll ds)).length ≤ _
    rw [shown_all]
    have := len_list (ds.map PyData.shown)
    omega
  · simp only [PyData.depth]
    omega
theorem small_tup2 {a b : PyData} {n : Nat} (h1 : Small n a) (h2 : Small n b) (d1 : a.depth ≤ 8) (d2 : b.depth ≤ 8) : Small (2 * n + 4) (.tuple [a, b]) := by
  refine ⟨?_, ?_, ?_⟩
  · have e1 := h1.sh
    have e2 := h2.sh
    simp [PyData.showable, PyData.showableAll, e1, e2]
  · show (tupleText [a.shown, b.shown]).length ≤ _
    rw [len_tup2]
    have e1 := h1.ln
    have e2 := h2.ln
    omega
  · simp only [PyData.depth, PyData.depthAll]
    omega
theorem Small.line {n : Nat} {d : PyData} (h : Small n d) (e : n ≤ 100000) : d.showable = true ∧ d.shown.length ≤ sizeLine ∧ d.depth ≤ 60 :=
  ⟨h.sh, Nat.le_trans h.ln (Nat.le_trans e (by decide)), Nat.le_trans h.dp (by decide)⟩
end Lw

set_option Elab.async false
set_option linter.all false
set_option maxRecDepth 100000
set_option maxHeartbeats 4000000
namespace Lw
open PySem PySem.Spec PyProof.Rows L2
section
open PySem.W
variable {K : Frag} {x D : Addr} {ox : Obj} {od : Option Obj}
theorem find_data {C : Addr} {name : Str} {a g : Value} (hc : (clsIn K C).isSome = true) (ha : findIn K (.ref C) name = some (some a)) (hg : specialIn K a "__get__" = some (some g)) (ht : takesIn K a = some true) : findObj K C od name = some (.bind g a) := by
  cases od with
  | none => exact findObj_dataN hc ha hg ht
  | some o => exact findObj_data hc ha hg ht
/-- the class of an exception, whatever its dict -/
theorem class_exc (T : ExcC K D) {prog : Program} {w : World} {A : Around} {E : Value → Shared → Prop} {Q : Option Value → Shared → Prop} {s : Shared} (X : K.In s.heap) (I : InstAt s.heap x ox D od)
    (h : Q (some (.ref D)) { s with toks := s.toks + 1 }) : wpAny (model prog w) A (getAttr? (.ref x) "__class__") Q E s := by
  have hsome : (clsIn K D).isSome = true := by
    obtain ⟨cd, hc, _⟩ := any_some T.hd
    rw [hc]
    rfl
  have hf : findObj K D od "__class__" = some (.bind (.builtin "getset_descriptor.__get__") (.builtin "object.__class__")) := find_data hsome T.ha T.hn T.ht
  obtain ⟨hp, g, d, t, os⟩ := s
  have L0 := I.type (M := model prog w)
  have LG := looks_findIn (M := model prog w) X T.hg
  have LK := looks_findIn (M := model prog w) X T.hk
  have LF := looks_find (M := model prog w) X I hf
  have sub : Looks (model prog w) hp (isInstance (.ref x) (.type "BaseException")) true := L0.andThen (looks_subIn X T.hs)
  have n1 : (Value.builtin "BaseException.__getattribute__" == Value.builtin "object.__getattribute__") = false := by decide +kernel
  have n2 : (onTheHeap (Value.ref D) && Value.builtin "BaseException.__getattribute__" == Value.builtin "object.__getattribute__") = false := by
    rw [n1]
    rfl
  have n3 : (false && onTheHeap (Value.builtin "BaseException.__getattribute__")) = false := rfl
  unfold getAttr? getAttrBy? getAttrBy
  refine wpAny_bind (wpAny_mkText (wpAny_bind (wpAny_attempt (wpAny_holding (wpAny_bind (L0.at (wpAny_bind (LG.at ?_))))))))
  show wpAny _ _ (if (onTheHeap (Value.ref D) && Value.builtin "BaseException.__getattribute__" == Value.builtin "object.__getattribute__") = true then _ else _) _ _ _
  rw [n2, if_neg Bool.false_ne_true]
  unfold getAttrByItsOwn hookBefore
  refine wpAny_bind ?_
  rw [if_pos (show onTheHeap (Value.ref D) = true from rfl)]
  refine LK.at (wpAny_bind (wpAny_attempt (wpAny_holding ?_)))
  unfold callGetattribute
  rw [n3, if_neg Bool.false_ne_true]
  unfold boundAndCalled
  rw [PySem.F.excAttr_ValueError.ga.bind (.ref x)]
  refine wpAny_bind (wpAny_pure ?_)
  show wpAny _ _ (call (.builtin "BaseException.__getattribute__") [.ref x, .str "__class__" t]) _ _ _
  refine wpAny_call (codeAny_call_builtin PySem.F.excAttr_ValueError.ga.plain PySem.F.entry_bexc_ga ?_)
  refine @check_slot (model prog w) _ _ ⟨hp, g, d, t + 1, os⟩ "BaseException.__getattribute__" "BaseException" "__getattribute__" (.ref x) [.str "__class__" t] [] _ (by decide +kernel) (by decide +kernel) sub (PySem.F.args_bexc_ga (.ref x) (.str "__class__" t)) ?_
  unfold Builtin.«object.__getattribute__»
  refine wpAny_bind (wpAny_of_eq (a := ((Value.ref x : Value), [Value.str "__class__" t])) (by first | rfl | (simp only [slotArgs]; rfl)) ?_)
  refine wpAny_bind (wpAny_pure (wpAny_bind (L0.at (wpAny_bind (LF.at ?_)))))
  show wpAny _ _ (holding [Value.builtin "object.__class__"] (call (.builtin "getset_descriptor.__get__") [.builtin "object.__class__", .ref x, .ref D]) >>= ret) _ _ _
  refine wpAny_bind (wpAny_holding (wpAny_call (class_get (s := ⟨hp, g, d, t + 1, os⟩) (ox := ox) (od := od) X I T.hm ?_)))
  refine wpAny_pure ?_
  show wpAny _ _ (handedOut (.ref D)) _ _ _
  rw [handedOut_of (v := .ref D) rfl]
  first
    | exact wpAny_pure (wpAny_pure h)
    | exact wpAny_pure h
    | exact wpAny_pure (wpAny_bind (wpAny_pure (wpAny_pure h)))
theorem kit_exc (T : ExcC K D) : KitX K (.ref x) (.ref D) (fun h => InstAt h x ox D od) where
  ty := fun _ _ _ I => I.type
  it := fun _ _ X _ => by
    obtain ⟨cd, hc, _⟩ := any_some T.hd
    unfold clsIn at hc
    split at hc
    · rename_i c' d' cd' sl' ho
      intro A' Q' E' s' k q
      unfold isType loadHead
      exact wpAny_bind (wpAny_loadPart (k _ _ (X _ _ ho)) (wpAny_pure q))
    · cases hc
  ne := fun h tp dd its n sl X htp => by
    obtain ⟨cd, hc, _⟩ := any_some T.hd
    refine Bool.eq_false_iff.mpr fun q => ?_
    cases Value.ref.inj (beq_iff_eq.mp q)
    unfold clsIn at hc
    split at hc
    · rename_i c' d' cd' sl' ho
      have z := (X _ _ ho).symm.trans htp
      cases z
    · cases hc
  ca := fun X I k => class_exc T X I k
end
def excB (K : PySem.W.Frag) (D : Addr) : Bool :=
  decide (PySem.W.findIn K (.ref D) "__getattribute__" = some (some (.builtin "BaseException.__getattribute__"))) && (decide (PySem.W.findIn K (.ref D) "__getattr__" = some none) && (decide (PySem.W.subIn K (.ref D) (.type "BaseException") = some true) &&
    (PySem.W.hasDictIn K D && (decide (PySem.W.findIn K (.ref D) "__class__" = some (some (.builtin "object.__class__"))) && (decide (PySem.W.specialIn K (.builtin "object.__class__") "__get__" = some (some (.builtin "getset_descriptor.__get__"))) &&
      (decide (PySem.W.takesIn K (.builtin "object.__class__") = some true) && decide (PySem.W.mroIn K D (.type "object") = some true)))))))
theorem excB_ok {K : PySem.W.Frag} {D : Addr} (h : excB K D = true) : ExcC K D := by
  unfold excB at h
  simp only [Bool.and_eq_true, decide_eq_true_eq] at h
  obtain ⟨h1, h2, h3, h4, h5, h6, h7, h8⟩ := h
  exact ⟨h1, h2, h3, h4, h5, h6, h7, h8⟩
/-- isinstance(e, c), e the exception with a dict that the suite holds -/
def rIsX (K : PySem.W.Frag) (a : Addr) (cls : Value) (d : Option Addr) : List V → Hp → VK → Prop := fun xs H Q =>
  ∃ (D dx : Addr) (c : V) (cv : Value) (b : Bool) (fs : List (Str × V)), cls = .ref D ∧ d = some dx ∧ ExcC K D ∧ xs = [.ref a, c] ∧ ClsV c cv ∧ PySem.W.kitOne K (.ref D) cv = some b ∧ H dx = some (.xd fs) ∧ Q (.bl b) H
/-- isinstance(e, (c, ..)) -/
def rIsXT (K : PySem.W.Frag) (a : Addr) (cls : Value) (d : Option Addr) : List V → Hp → VK → Prop := fun xs H Q =>
  ∃ (D dx tp : Addr) (cs : List V) (us : List Value) (b : Bool) (fs : List (Str × V)), cls = .ref D ∧ d = some dx ∧ ExcC K D ∧ xs = [.ref a, .ref tp] ∧ H tp = some (.tup cs) ∧ Paired ClsV cs us ∧ PySem.W.kitAny K (.ref D) us = some b ∧ H dx = some (.xd fs) ∧ Q (.bl b) H
section
variable {X : Cx} {a : Addr} {oe : Obj} {cls : Value} {d : Option Addr} {pn : List (Addr × Obj)}
theorem inst_of {pins : List (Addr × Obj)} {σ : L2.St} {H : Hp} {s : Shared} {D dx : Addr} {fs : List (Str × V)} (I : Inv (X.suite a ((a, oe) :: pn)) pins σ H s) (hz : Zc (.ref D) (some dx) oe) (hf : ∃ vs, oe.data = .fields vs) (hx : H dx = some (.xd fs)) :
    ∃ od, PySem.W.InstAt s.heap a oe D (some od) := by
  obtain ⟨hget, _⟩ := I.pin (a, oe) (List.mem_append_left _ List.mem_cons_self)
  obtain ⟨mA, ⟨o, es, ep, ho, _⟩, _⟩ := (show ObjOk X.prog X.w H s.heap dx (.xd fs) from I.hok dx _ hx)
  obtain ⟨vs, hv⟩ := hf
  refine ⟨o, hget, hz.1, ?_, ?_⟩
  · unfold PySem.W.notCls
    rw [hv] <;> rfl
  · rw [hz.2]
    exact ho
theorem call_isX (hz : Zc cls d oe) (hf : ∃ vs, oe.data = .fields vs) : CallR (X.suite a ((a, oe) :: pn)) (.builtin "isinstance") (rIsX X.K a cls d) := by
  intro pins s σ H xs us Q I r h
  obtain ⟨D, dx, c, cv, b, fs, rfl, rfl, T, rfl, hc, e, hx, q⟩ := h
  obtain ⟨u1, u2, rfl, r1, r2⟩ := vals2 r
  cases (show u1 = Value.ref a from r1)
  cases hc.eq r2
  obtain ⟨od, J⟩ := inst_of I hz hf hx
  exact PySem.W.kia_one (kit_exc T) I.kIn J e (fun z => nomatch z) fun tk => ⟨.bl b, H, I.tok tk, rfl, q⟩
theorem call_isXT (hz : Zc cls d oe) (hf : ∃ vs, oe.data = .fields vs) : CallR (X.suite a ((a, oe) :: pn)) (.builtin "isinstance") (rIsXT X.K a cls d) := by
  intro pins s σ H xs us Q I r h
  obtain ⟨D, dx, tp, cs, ws, b, fs, rfl, rfl, T, rfl, hT, k, e, hx, q⟩ := h
  obtain ⟨u1, u2, rfl, r1, r2⟩ := vals2 r
  cases (show u1 = Value.ref a from r1)
  cases (show u2 = Value.ref tp from r2)
  obtain ⟨od, J⟩ := inst_of I hz hf hx
  obtain ⟨_, its, rv, o, h1, h2, n, h3⟩ := (show ObjOk X.prog X.w H s.heap tp (.tup cs) from I.hok tp _ hT)
  cases ClsV.all k rv
  obtain ⟨oc, odd, dt, sl⟩ := o
  simp only at h2 h3
  subst h2 h3
  exact PySem.W.kia_tup (kit_exc T) I.kIn J h1 e (fun z => nomatch z) fun tk => ⟨.bl b, H, I.tok tk, rfl, q⟩
end
/-- an own def that may raise, called in a try -/
structure OwnX (P : Program) (w : World) (K : PySem.W.Frag) (mg : Str → Option Value) (base : Heap) (k : Nat) (x : Str) (ps : List Str) (sp : Sp) (f : Addr) (fd : FuncData) : Prop where
  ok : FnOk P w K mg base (L2.CX P w) k f fd ps sp
  m : mg x = some (.ref f)
  kp : PySem.W.keepIn K (.ref f) = true
/-- a class of exceptions with its own __init__ -/
structure OwnE (P : Program) (w : World) (K : PySem.W.Frag) (mg : Str → Option Value) (base : Heap) (k : Nat) (x : Str) (ps : List Str) (sp : Sp) (C fI : Addr) (fd : FuncData) (tl : List Value) (newId : String) : Prop where
  t : ExcK K C tl newId
  i : PySem.W.findIn K (.ref C) "__init__" = some (some (.ref fI))
  ti : PySem.W.typeIn K (.ref fI) = some (.type "function")
  ok : FnOk P w K mg base CX0 k fI fd ps sp
  b : Binds K fd ps []
  m : mg x = some (.ref C)
theorem pmk_e {X : Cx} {k : Nat} {x : Str} {ps : List Str} {sp : Sp} {C fI : Addr} {fd : FuncData} {B newId initId : String} {tl : List Value} {e : Expr} {es : List Expr} {ta : TA} {p pos : Pos} (EB : ExB B newId initId tl) (O : OwnE X.prog X.w X.K X.mg X.base k x ps sp C fI fd tl newId) (hr : Room (k + 1) X.A) (ha : PA X (e :: es) ta)
    (hg : Gl X x := by rfl) (hdb : (x == ("__debug__" : Str)) = false := by decide) (he : starEach (e :: es) X.env = (false, eval e X.env) :: starEach es X.env := by rfl) (hpl : (backTo pos (starEach es X.env)).any (fun q => q.1) = false := by rfl) :
    PMk X (.Call (.Name x p) (e :: es) [] pos) (tMkO C sp [] ta) := pmk_b EB O.t O.i O.ti O.ok hr O.b pass0 O.m ha hg hdb he hpl
end Lw

set_option Elab.async false
set_option linter.all false
set_option maxRecDepth 100000
set_option maxHeartbeats 4000000
namespace Lw
open PySem PySem.Spec PyProof.Rows L2
/-! ## the head's facts: defs, classes of exceptions with an own __init__, one more Bool -/
/-- the `__init__` of the class that a name of the module stands for -/
structure IniD where
  cls : Str
  w : IniW
  B : String
  newId : String
  initId : String
abbrev IniV : Type := Option (Str × Str × Arguments × FuncBody × Scope × Addr × List Str × Value × Value × Option Addr × Addr)
def iniAt (K : PySem.W.Frag) (d : IniD) : Addr := He.ma K (He.ga K d.cls) "__init__"
def iniObs (K : PySem.W.Frag) (d : IniD) : IniV := match K.lookup (iniAt K d) with
  | some ⟨_, _, .func fd, _⟩ => some (fd.name, fd.qualname, fd.params, fd.body, fd.scope, fd.globals, fd.closure.map (fun q => q.1), fd.defaults, fd.kwdefaults, fd.annotations, fd.builtins)
  | _ => none
def IniD.val (d : IniD) : IniV := some (d.w.name, d.w.qual, d.w.params, .stmts d.w.body, d.w.scope, mainGlobals, [("__class__" : Str)], .none, .none, none, builtinsNs)
def fileB (K : PySem.W.Frag) (file : Str) (v : Value) : Bool := match v with
  | .ref c => (match K.lookup c with
    | some ⟨_, _, .fields vs, _⟩ => (match (vs[2]? : Option Value) with
      | some (.str x _) => file == x
      | _ => false)
    | _ => false)
  | _ => false
def cellB (K : PySem.W.Frag) (C : Addr) (cl : List (Str × Addr)) : Bool := match cl with
  | [(_, cc)] => (match K.lookup cc with
    | some ⟨_, _, .cell (some (.ref D)), _⟩ => decide (D = C)
    | _ => false)
  | _ => false
/-- what is asked of the class and its __init__, as one Bool -/
def iniB (K : PySem.W.Frag) (file : Str) (d : IniD) : Bool :=
  (match K.lookup (iniAt K d) with
  | some ⟨_, _, .func fd, _⟩ => PySem.W.codeIn K fd.code d.w.qual && (fileB K file fd.code && cellB K (He.ga K d.cls) fd.closure)
  | _ => false) && (clsB K (He.ga K d.cls) (tlOf d.B) d.newId && (He.eqO (PySem.W.nsIn K cStatics "thirdparty.any") (some none) && (He.eqO (PySem.W.ks_superIn K (He.ga K d.cls) (He.ga K d.cls) "__init__") (some (some (.builtin d.initId))) &&
    (decide (PySem.W.subIn K (.ref (He.ga K d.cls)) (.type d.B) = some true) && (decide (PySem.W.mroIn K (He.ga K d.cls) (.ref (He.ga K d.cls)) = some true) &&
      (He.eqO (PySem.W.findIn K (.ref (He.ga K d.cls)) "__init__") (some (some (.ref (iniAt K d)))) && (decide (PySem.W.typeIn K (.ref (iniAt K d)) = some (.type "function")) && He.eqO (PySem.W.nsIn K mainGlobals d.cls) (some (some (.ref (He.ga K d.cls)))))))))))
/-- what of it the words alone say -/
structure IniF (P : Program) (d : IniD) : Prop where
  top : (P.main.scope.names.lookup ("super" : Str)).isSome = false
  self : (d.w.params.posonlyargs ++ d.w.params.args).head?.map (fun a => a.arg) = some "self"
  kind : d.w.scope.kind = .function
  ksup : d.w.scope.names.lookup ("super" : Str) = some .globalImplicit
  kcls : d.w.scope.names.lookup ("__class__" : Str) = some .free
  kself : d.w.scope.names.lookup ("self" : Str) = some .local
theorem fileB_ok {K : PySem.W.Frag} {file : Str} {v : Value} (h : fileB K file v = true) : ∃ c, v = .ref c ∧ ∃ (ccl : Value) (cdd : Option Addr) (vs : Array Value) (ccs : Array (Option Value)) (x : Str) (tf : Tok), K.lookup c = some ⟨ccl, cdd, .fields vs, ccs⟩ ∧ vs[2]? = some (.str x tf) ∧ (file == x) = true := by
  unfold fileB at h
  split at h
  · rename_i c
    split at h
    · rename_i ccl cdd vs ccs e
      split at h
      · rename_i x tf e2
        exact ⟨c, rfl, ccl, cdd, vs, ccs, x, tf, e, e2, h⟩
      · cases h
    · cases h
  · cases h
theorem cellB_ok {K : PySem.W.Frag} {C : Addr} {cl : List (Str × Addr)} (h : cellB K C cl = true) : ∃ x cc, cl = [(x, cc)] ∧ ∃ (a : Value) (b : Option Addr) (c : Array (Option Value)), K.lookup cc = some ⟨a, b, .cell (some (.ref C)), c⟩ := by
  unfold cellB at h
  split at h
  · rename_i x cc
    split at h
    · rename_i a b D c e
      cases of_decide_eq_true h
      exact ⟨x, cc, rfl, a, b, c, e⟩
    · cases h
  · cases h
/-- the class and its __init__, as they stand -/
structure IniR (P : Program) (K : PySem.W.Frag) (mg : Str → Option Value) (d : IniD) (C f : Addr) (fd : FuncData) : Prop where
  t : ExcK K C (tlOf d.B) d.newId
  s : ∃ cc cda, IniK P K mg d.w f cc cda C d.B d.initId
  i : PySem.W.findIn K (.ref C) "__init__" = some (some (.ref f))
  ti : PySem.W.typeIn K (.ref f) = some (.type "function")
  lk : ∃ (oc : Value) (od : Option Addr) (osl : Array (Option Value)), K.lookup f = some ⟨oc, od, .func fd, osl⟩
  m : mg d.cls = some (.ref C)
  b : ∃ (cl : List (Str × Addr)) (doc pm cdv ct : Value), fd = PySem.W.fnX d.w.name d.w.qual d.w.params d.w.body d.w.scope cl .none .none doc pm none cdv ct
theorem ini_of {P : Program} {K : PySem.W.Frag} {mg : Str → Option Value} {h : Heap} {d : IniD} (X : K.In h) (G : h.Ns mainGlobals mg) (sup : mg "super" = none) (F : IniF P d) (e : iniObs K d = d.val) (c : iniB K (P.main.file : Str) d = true) : ∃ fd, IniR P K mg d (He.ga K d.cls) (iniAt K d) fd := by
  unfold iniB at c
  simp only [Bool.and_eq_true] at c
  obtain ⟨c1, c2, c3, c4, c5, c6, c7, c8, c9⟩ := c
  unfold iniObs at e
  cases q : K.lookup (iniAt K d) with
  | none =>
    rw [q] at c1
    cases c1
  | some o =>
    obtain ⟨oc, od, dt, osl⟩ := o
    rw [q] at c1 e
    cases dt with
    | func fd =>
      obtain ⟨n1, n2, n3, n4, n5, n6, n7, n8, n9, n10, n11, n12, n13, n14, n15⟩ := fd
      have e2 : (some (n1, n2, n3, n4, n5, n6, n7.map (fun q => q.1), n8, n9, n12, n15) : IniV) = some (d.w.name, d.w.qual, d.w.params, .stmts d.w.body, d.w.scope, mainGlobals, [("__class__" : Str)], .none, .none, none, builtinsNs) := e
      simp only [Option.some.injEq, Prod.mk.injEq] at e2
      obtain ⟨h1, h2, h3, h4, h5, h6, h7, h8, h9, h10, h11⟩ := e2
      subst h1 h2 h3 h4 h5 h6 h8 h9 h10 h11
      have c1' : (PySem.W.codeIn K n13 d.w.qual && (fileB K (P.main.file : Str) n13 && cellB K (He.ga K d.cls) n7)) = true := c1
      simp only [Bool.and_eq_true] at c1'
      obtain ⟨k1, k2, k3⟩ := c1'
      obtain ⟨cda, rfl, code⟩ := fileB_ok k2
      obtain ⟨x, cc, rfl, cell⟩ := cellB_ok k3
      have hx : x = ("__class__" : Str) := by
        have := h7
        simp only [List.map_cons, List.map_nil, List.cons.injEq, and_true] at this
        exact this
      subst hx
      refine ⟨_, clsB_ok c2, ⟨cc, cda, ⟨oc, n10, n11, n14, od, osl, q⟩, k1, code, cell, F.top, sup, F.self, F.kind, F.ksup, F.kcls, F.kself, He.eqO_ok c3, He.eqO_ok c4, of_decide_eq_true c5, of_decide_eq_true c6⟩, He.eqO_ok c7, of_decide_eq_true c8, ⟨oc, od, osl, q⟩, PySem.W.mg_of X G (He.eqO_ok c9), ⟨_, _, _, _, _, rfl⟩⟩
    | _ => cases c1
/-! ## the Hook -/
abbrev AlW : Type := He.AlD × Bool × List IniV
def asW (g : Addr → Option Obj) (n : Nat) : List Addr := cStatics :: He.asD g n
def obsW (file : Str) (fa : List He.Fa) (fn : List He.DefD) (is : List IniD) (ex : PySem.W.Frag → Bool) (K : PySem.W.Frag) : AlW := (He.obsD fa fn K, (is.all (fun d => iniB K file d)) && ex K, is.map fun d => iniObs K d)
def valW (fn : List He.DefD) (is : List IniD) : AlW := (He.valD fn, true, is.map IniD.val)
structure SaysW (file : Str) (fa : List He.Fa) (fn : List He.DefD) (is : List IniD) (ex : PySem.W.Frag → Bool) (K : PySem.W.Frag) : Prop where
  d : He.SaysD fa fn K
  i : ∀ x ∈ is, iniB K file x = true ∧ iniObs K x = x.val
  ex : ex K = true
theorem map_at {α β : Type} {f g : α → β} : ∀ {l : List α}, l.map f = l.map g → ∀ x ∈ l, f x = g x
  | [], _, _, h => nomatch h
  | a :: l, e, x, h => by
    simp only [List.map_cons, List.cons.injEq] at e
    rcases List.mem_cons.mp h with rfl | h
    · exact e.1
    · exact map_at e.2 x h
theorem saysW_of {file : Str} {fa : List He.Fa} {fn : List He.DefD} {is : List IniD} {ex : PySem.W.Frag → Bool} {K : PySem.W.Frag} (e : obsW file fa fn is ex K = valW fn is) : SaysW file fa fn is ex K := by
  have e1 : He.obsD fa fn K = He.valD fn := congrArg (fun z : AlW => z.1) e
  have e2 : ((is.all (fun d => iniB K file d)) && ex K) = true := congrArg (fun z : AlW => z.2.1) e
  have e3 : is.map (fun d => iniObs K d) = is.map IniD.val := congrArg (fun z : AlW => z.2.2) e
  obtain ⟨h1, h2⟩ := He.ba e2
  exact ⟨e1, fun x hx => ⟨List.all_eq_true.mp h1 x hx, map_at e3 x hx⟩, h2⟩
def obsWG (n : Nat) (file : Str) (fa : List He.Fa) (fn : List He.DefD) (is : List IniD) (ex : PySem.W.Frag → Bool) (g : Addr → Option Obj) : AlW := obsW file fa fn is ex (He.frG g (asW g n))
def hookW (n : Nat) (file : Str) (fa : List He.Fa) (fn : List He.DefD) (is : List IniD) (ex : PySem.W.Frag → Bool) : PySem.W.Hook where
  α := AlW
  obs := fun s => obsWG n file fa fn is ex s.heap.get?
  val := fun _ => valW fn is
  says := fun _ h => ∃ K : PySem.W.Frag, K.In h ∧ SaysW file fa fn is ex K
  of := fun _ _ e => ⟨_, He.frG_in, saysW_of e⟩
  keeps := fun _ _ _ ⟨K, hK, c⟩ k => ⟨K, PySem.W.Frag.In.keeps hK k, c⟩
theorem obsWG_eq {n : Nat} {file : Str} {fa : List He.Fa} {fn : List He.DefD} {is : List IniD} {ex : PySem.W.Frag → Bool} {g : Addr → Option Obj} {s : Shared} (h : ∀ a, g a = s.heap.get? a) : obsWG n file fa fn is ex g = (hookW n file fa fn is ex).obs s := by
  have e : g = s.heap.get? := funext h
  rw [e] <;> rfl
/-- what its words bind -/
theorem IniR.binds {P : Program} {K : PySem.W.Frag} {mg : Str → Option Value} {d : IniD} {C f : Addr} {fd : FuncData} {ps : List Str} (R : IniR P K mg d C f fd)
    (h : ∀ (cl : List (Str × Addr)) (doc pm cdv ct : Value) (us : List Value), us.length = ps.length → bindArgs (PySem.W.fnX d.w.name d.w.qual d.w.params d.w.body d.w.scope cl .none .none doc pm none cdv ct) ⟨us, []⟩ = pure (ps.zip us)) : Binds K fd ps [] := by
  obtain ⟨cl, doc, pm, cdv, ct, rfl⟩ := R.b
  exact .all fun us hl => h cl doc pm cdv ct us hl
end Lw

set_option Elab.async false
set_option linter.all false
set_option maxRecDepth 100000
set_option maxHeartbeats 4000000
namespace Lw
open PySem PySem.Spec PyProof.Rows L2
/-! ## own defs that may raise, called with values by place -/
structure OwnR (P : Program) (w : World) (K : PySem.W.Frag) (mg : Str → Option Value) (base : Heap) (k : Nat) (x : Str) (sp : Sp) (f : Addr) : Prop where
  ok : FnR P w K mg base (L2.CX P w) k f sp
  m : mg x = some (.ref f)
  kp : PySem.W.keepIn K (.ref f) = true
def tR (sp : Sp) (E : L2.St → XK) (t : TA) : TE := fun σ H Q => t σ H fun vs H1 => sp vs H1 Q (E σ)
theorem passF {X : Cx} : Passes (L2.CX X.prog X.w) X E0 := fun _ _ _ _ _ _ _ h => by
  obtain ⟨_, _, _, _, _, _, _, _, _, _, _, _, h⟩ := h
  exact h.elim
section
variable {X : Cx} {k : Nat} {f : Addr} {sp : Sp} {W : WX} {E : L2.St → XK} {x : Str} {p pos : Pos} {e : Expr} {es : List Expr} {t : TA}
theorem run_at {pins : List (Addr × Obj)} {σ : L2.St} {H : Hp} {s : Shared} {Q : VK} {us : List Value} {vs : List V} (F : FnR X.prog X.w X.K X.mg X.base (L2.CX X.prog X.w) k f sp) (hr : Room k X.A) (hx : PassesAt (L2.CX X.prog X.w) X σ (E σ))
    (I : Inv X pins σ H s) (r : Vals vs us) (h : sp vs H Q (E σ)) : wpAny (model X.prog X.w) X.A (call (.ref f) us) (EP X pins σ Q) X.xe s := by
  refine wpAny_call (codeAny_mono (F X.A X.stack s H us vs Q (E σ) hr I.env0 r h) fun res st hq => ?_)
  match res, hq with
  | .error ev, hq => exact hx pins H s ev st I hq
  | .ok (.ret _), hq => exact I.after hq
  | .ok .next, hq => exact False.elim hq
  | .ok .brk, hq => exact False.elim hq
  | .ok .cont, hq => exact False.elim hq
theorem pe_at (O : OwnR X.prog X.w X.K X.mg X.base k x sp f) (hx : ∀ σ, PassesAt (L2.CX X.prog X.w) X σ (E σ)) (hr : Room k X.A) (ha : PA X (e :: es) t) (hg : Gl X x := by rfl) (hdb : (x == ("__debug__" : Str)) = false := by decide)
    (he : starEach (e :: es) X.env = (false, eval e X.env) :: starEach es X.env := by rfl) (hpl : (backTo pos (starEach es X.env)).any (fun q => q.1) = false := by rfl) :
    PE X (.Call (.Name x p) (e :: es) [] pos) (tR sp E t) := by
  constructor
  intro pins s σ H Q I h
  refine wpAny_Call_Name_kw (ld_glob I hg O.m ?_ hdb)
  exact PySem.W.callWith_K (h₀ := X.base) I.ok.mod.kin O.kp (thn (ha.run pos pins s σ H _ I h) fun us s1 ⟨vs, H1, I1, r, q⟩ => ⟨I1.kIn, run_at O.ok hr (hx σ) I1 r q⟩) he hpl
theorem pe_at0 (O : OwnR X.prog X.w X.K X.mg X.base k x sp f) (hx : ∀ σ, PassesAt (L2.CX X.prog X.w) X σ (E σ)) (hr : Room k X.A) (hg : Gl X x := by rfl) (hdb : (x == ("__debug__" : Str)) = false := by decide) :
    PE X (.Call (.Name x p) [] [] pos) (tR sp E tNil) := by
  constructor
  intro pins s σ H Q I h
  refine wpAny_Call_Name_kw (ld_glob I hg O.m ?_ hdb)
  exact PySem.W.callWith_K0 I.kIn O.kp (run_at (us := []) O.ok hr (hx σ) I .nil h)
/-- what it raises is taken at the caller -/
theorem pe_ownR (O : OwnR X.prog X.w X.K X.mg X.base k x sp f) (tk : Takes X W) (hr : Room k X.A) (ha : PA X (e :: es) t) (hg : Gl X x := by rfl) (hdb : (x == ("__debug__" : Str)) = false := by decide)
    (he : starEach (e :: es) X.env = (false, eval e X.env) :: starEach es X.env := by rfl) (hpl : (backTo pos (starEach es X.env)).any (fun q => q.1) = false := by rfl) :
    PE X (.Call (.Name x p) (e :: es) [] pos) (tR sp (WE W) t) := pe_at O (fun σ => passAt tk σ) hr ha hg hdb he hpl
theorem pe_ownR0 (O : OwnR X.prog X.w X.K X.mg X.base k x sp f) (tk : Takes X W) (hr : Room k X.A) (hg : Gl X x := by rfl) (hdb : (x == ("__debug__" : Str)) = false := by decide) :
    PE X (.Call (.Name x p) [] [] pos) (tR sp (WE W) tNil) := pe_at0 O (fun σ => passAt tk σ) hr hg hdb
/-- it raises nothing here -/
theorem pe_ownF (O : OwnR X.prog X.w X.K X.mg X.base k x sp f) (hr : Room k X.A) (ha : PA X (e :: es) t) (hg : Gl X x := by rfl) (hdb : (x == ("__debug__" : Str)) = false := by decide)
    (he : starEach (e :: es) X.env = (false, eval e X.env) :: starEach es X.env := by rfl) (hpl : (backTo pos (starEach es X.env)).any (fun q => q.1) = false := by rfl) :
    PE X (.Call (.Name x p) (e :: es) [] pos) (tR sp (fun _ => E0) t) := pe_at O (fun σ pins H s ev st I c => passF pins σ H s ev st I c) hr ha hg hdb he hpl
theorem pe_ownF0 (O : OwnR X.prog X.w X.K X.mg X.base k x sp f) (hr : Room k X.A) (hg : Gl X x := by rfl) (hdb : (x == ("__debug__" : Str)) = false := by decide) :
    PE X (.Call (.Name x p) [] [] pos) (tR sp (fun _ => E0) tNil) := pe_at0 O (fun σ pins H s ev st I c => passF pins σ H s ev st I c) hr hg hdb
theorem pe_ownXW {fd : FuncData} {ps ks : List Str} {tk : TA} {kws : List Keyword} {g : List Value → List Value → List Value} {gV : List V → List V → List V} (O : OwnX X.prog X.w X.K X.mg X.base k x ps sp f fd) (hb : KBn X.K fd ps 0 ks g gV) (hr : Room k X.A) (hkw : PK X kws tk) (hg : Gl X x := by rfl)
    (hall : (backToKw pos (keywordEach kws X.env)).all (fun q => q.1.isSome) = true := by rfl)
    (hks : (backToKw pos (keywordEach kws X.env)).filterMap (fun q => q.1) = ks := by rfl)
    (hdb : (x == ("__debug__" : Str)) = false := by decide)
    (hpl : ((backTo pos (starEach [] X.env)).any (fun q => q.1) || (backToKw pos (keywordEach kws X.env)).any (fun q => q.1.isNone)) = false := by rfl) :
    PE X (.Call (.Name x p) [] kws pos) (tCallN 0 ks.length sp gV E0 tNil tk) := pe_callW O.ok hr hg O.m O.kp hb passF hkw hall hks hdb hpl
end
theorem ownR_of {P : Program} {w : World} {K : PySem.W.Frag} {mg : Str → Option Value} {base : Heap} {k : Nat} {x : Str} {ps : List Str} {sp : Sp} {f : Addr} {fd : FuncData} (F : FnOk P w K mg base (L2.CX P w) k f fd ps sp) (hb : Binds K fd ps []) (m : mg x = some (.ref f)) (kp : PySem.W.keepIn K (.ref f) = true) :
    OwnR P w K mg base k x sp f := ⟨fun A outer s H us vs Q E hr e0 r hs => (FnOk.raw F hb .nil) A outer s H us vs Q E hr e0 r (by show sp (vs ++ []) H Q E; rw [List.append_nil]; exact hs), m, kp⟩
def flip2 {α : Type} : List α → List α
  | [a, b] => [b, a]
  | _ => []
theorem flip_rel {vs : List V} {us : List Value} (h : Vals vs us) : Vals (flip2 vs) (flip2 us) := by
  match vs, us, h with
  | [], _, .nil => exact .nil
  | [_], _, .cons _ .nil => exact .nil
  | [_, _], _, .cons a (.cons b .nil) => exact .cons b (.cons a .nil)
  | _ :: _ :: _ :: _, _, .cons a (.cons b (.cons c d)) => exact .nil
/-- two keywords, in the other order -/
theorem kb2 {K : PySem.W.Frag} {y qual : Str} {params : Arguments} {body : List Stmt} {scope : Scope} {kw : List (Str × V)} {f : Addr} {fd : FuncData} {a b : Str} (F : FunD K y qual params body scope [] kw f fd)
    (h : ∀ (kV doc pm : Value) (an : Option Addr) (cdv ct u v : Value), bindArgs (PySem.W.fnOf y qual params body scope .none kV doc pm an cdv ct) ⟨[], [(b, u), (a, v)]⟩ = pure [(a, v), (b, u)]) :
    KBn K fd [a, b] 0 [b, a] (fun _ ws => flip2 ws) (fun _ zs => flip2 zs) := by
  obtain ⟨oc, od, dV, kV, doc, pm, an, cdv, ct, osl, rfl, lk, hcd, hD, hK⟩ := F.ex
  rcases hD with ⟨_, rfl⟩ | ⟨e, _⟩
  · refine ⟨fun s us ws X l1 l2 => ?_, fun _ r => flip_rel r⟩
    match us, ws, l1, l2 with
    | [], [u, v], _, _ => exact .of_eq (h kV doc pm an cdv ct u v)
  · exact absurd rfl e
end Lw

set_option Elab.async false
set_option linter.all false
set_option maxRecDepth 100000
set_option maxHeartbeats 4000000
namespace Lw
open PySem PySem.Spec PyProof.Rows L2
section
variable {X : Cx}
/-- a list and the empty one -/
def rNeE (K : PySem.W.Frag) : R2 := fun x y H Q => ∃ (a b : Addr) (xs : List V), x = .ref a ∧ y = .ref b ∧ SqL K H a xs ∧ SqL K H b [] ∧ Q (.bl (!xs.isEmpty)) H
theorem op_neE (hu : X.A.units + 64 < cLine) : OpR X (compareOp .NotEq) (rNeE X.K) := by
  intro pins s σ H x y v u Q I rx ry h
  obtain ⟨a, b, xs, rfl, rfl, ha, hb, q⟩ := h
  cases (show v = Value.ref a from rx)
  cases (show u = Value.ref b from ry)
  obtain ⟨its, rv, ⟨o, n, ho, hc, _, hd⟩, _⟩ := I.list ha
  obtain ⟨its2, rv2, ⟨o2, n2, ho2, hc2, _, hd2⟩, _⟩ := I.list hb
  cases rv2
  have l1 : s.heap.IsList a its.toArray := ⟨o, ho, hc, n, hd⟩
  have l2 : s.heap.IsList b (([] : List Value).toArray) := ⟨o2, ho2, hc2, n2, hd2⟩
  cases rv with
  | nil => exact PySem.SeqAt.RcNeAt.lists (e := fun _ => true) l1 l2 rfl (by omega) (fun j h1 _ => absurd h1 (Nat.not_lt_zero _)) X.prog X.w X.xe _ ⟨.bl _, H, I, rfl, q⟩
  | cons r1 r2 => exact PySem.SeqAt.RcNeAt.lists_lengths l1 l2 rfl (by omega) X.prog X.w X.xe _ ⟨.bl _, H, I, rfl, q⟩
/-- x is True -/
def rIsB : R2 := fun x y H Q => ∃ b c : Bool, x = .bl b ∧ y = .bl c ∧ Q (.bl (b == c)) H
theorem op_isB : OpR X (compareOp .Is) rIsB := by
  intro pins s σ H x y v u Q I rx ry h
  obtain ⟨b, c, rfl, rfl, q⟩ := h
  cases rx
  cases ry
  exact is_bool ⟨.bl _, H, I, rfl, q⟩
/-- a list of bools counted -/
def rCountB (K : PySem.W.Frag) : V → List V → Hp → VK → Prop := fun x vs H Q => ∃ (a : Addr) (bs : List Bool) (c : Bool), x = .ref a ∧ vs = [.bl c] ∧ SqL K H a (bs.map V.bl) ∧ Q (.int ((bs.countP fun b => b == c : Nat) : Int)) H
theorem reads_bools {h : Heap} : ∀ {bs : List Bool} {us : List Value}, Vals (bs.map V.bl) us → ∃ as, ReadsAll h us (bs.map PyData.bool) as
  | [], _, .nil => ⟨_, .nil⟩
  | b :: bs, _, .cons r rs => by
    cases r
    obtain ⟨as, q⟩ := reads_bools (h := h) rs
    exact ⟨_, .cons (.bool b) q⟩
theorem count_bools {bs : List Bool} {c : Bool} : (bs.map PyData.bool).countP (fun y => PyData.eqv y (.bool c)) = bs.countP fun b => b == c := by
  rw [List.countP_map]
  rfl
theorem plain_bools : ∀ bs : List Bool, PyData.plainAll (bs.map PyData.bool) = true
  | [] => rfl
  | b :: bs => by
    show (PyData.plain (.bool b) && PyData.plainAll (bs.map PyData.bool)) = true
    rw [plain_bools bs]
    rfl
theorem mt_countB (hu : X.A.units + 64 < cLine) : MtR X "list.count" (rCountB X.K) := by
  intro pins s σ H x vs v us Q I rx rv h
  obtain ⟨a, bs, c, rfl, rfl, ha, q⟩ := h
  cases (show v = Value.ref a from rx)
  obtain ⟨u, rfl, ru⟩ := vals1 rv
  cases (show u = Value.bool c from ru)
  obtain ⟨its, rs, ⟨o, n, ho, hc, _, hd⟩, _⟩ := I.list ha
  obtain ⟨as, r1⟩ := reads_bools (h := s.heap) rs
  refine PySem.SeqAt.count_list_data (l := a) (vs := its.toArray) (bs := []) ⟨o, ho, hc, n, hd⟩ (by simpa using r1) (.bool c) (plain_bools bs) rfl ?_ ?_
  · have : min (PyData.depthAll (bs.map PyData.bool)) (PyData.bool c).depth ≤ 0 := by
      simp [PyData.depth]
    omega
  · rw [count_bools]
    exact ⟨.int _, H, I.tok _, ⟨_, rfl⟩, q⟩
end
end Lw

set_option Elab.async false
set_option linter.all false
set_option maxRecDepth 100000
set_option maxHeartbeats 4000000
namespace Lw
open PySem PySem.Spec PyProof.Rows L2
/-! ## try with several named clauses, one of which takes what is raised -/
/-- an exception that has come down in the frame of the try -/
structure Land (X : Cx) (pins : List (Addr × Obj)) (x : Addr) (G : Heap) (cls : Value) (dc : Option Addr) (σ : L2.St) (H : Hp) (s0 s : Shared) : Prop where
  inv : Inv X pins σ H s0
  keep : ∀ b o, s0.heap.get? b = some o → b ∉ frs X.stack → G.get? b = some o
  up : s0.heap.UpToSlots s.heap
  fly : HandSPX.FlyingZ G (X.env :: X.outer) x (Zc cls dc) s.heap
  new : H x = none
  os : s.os = s0.os
  bare : AllBare s.gens
section
variable {X : Cx} {pins : List (Addr × Obj)} {x : Addr} {G : Heap} {cls : Value} {dc : Option Addr} {σ : L2.St} {H : Hp} {s0 s : Shared} {D : Ends} {cn n : Str} {c : Value} {i : Nat} {st0 : Stmt} {sts : List Stmt} {pn ph : Pos} {more : List ExceptHandler} {ts : Addr → Value → Option Addr → TS}
theorem Land.now (L : Land X pins x G cls dc σ H s0 s) : Inv X pins σ H s := L.inv.landed L.keep L.fly.1 L.up L.os L.bare
theorem Land.frame (L : Land X pins x G cls dc σ H s0 s) : x ∉ frs (X.env :: X.outer) := fun m => by
  obtain ⟨oe, vs, he, _, hd⟩ := L.fly.there
  obtain ⟨_, o2, e2, nf⟩ := L.fly.2.2.1.mem m
  cases he.symm.trans e2
  exact nf _ hd
theorem Land.calm (L : Land X pins x G cls dc σ H s0 s) (hf : X.env.frame = some X.env.locals) : x ≠ X.env.locals ∧ x ∉ X.fs := by
  have nf := L.frame
  constructor
  · rintro rfl
    exact nf (List.mem_filterMap.mpr ⟨X.env, List.mem_cons_self, hf⟩)
  · intro m
    obtain ⟨e, he, q⟩ := List.mem_filterMap.mp m
    exact nf (List.mem_filterMap.mpr ⟨e, List.mem_cons_of_mem _ he, q⟩)
theorem Land.test (L : Land X pins x G cls dc σ H s0 s) (hf : X.env.frame = some X.env.locals) (hc : Names X cn c) {Q E : Value → Shared → Prop} (h : Q c s) :
    wpAny (model X.prog X.w) (X.A.mark (some (.ref x))) (eval (.Name cn pn) X.env) Q E s := by
  obtain ⟨oe, vs, he, _, hd⟩ := L.fly.there
  obtain ⟨n1, n2⟩ := L.calm hf
  have S := L.now.suite he hd L.new n1 n2
  obtain ⟨g, db, m | ⟨m, bv, nn⟩⟩ := hc
  · exact ld_glob S g m h db
  · exact ld_blt S g m bv h nn db
theorem Land.looks (L : Land X pins x G cls dc σ H s0 s) {b : Bool} (he : PySem.W.exmOne X.K cls c = some b) {A : Around} {Q : Bool → Shared → Prop} {E : Value → Shared → Prop} (h : Q b s) :
    wpAny (model X.prog X.w) A (excMatches (.ref x) c) Q E s := by
  obtain ⟨oe, vs, ho, hz, _⟩ := L.fly.there
  have LT : PySem.W.Looks (model X.prog X.w) s.heap (typeOf (.ref x)) cls := fun A Q E s' k q => wpAny_typeOf_ref (k _ _ ho) (by rw [hz.1]; exact q)
  exact (PySem.W.exm_one (M := model X.prog X.w) L.now.kIn LT he).here h
/-- this clause is not for it -/
theorem Land.passes_by (L : Land X pins x G cls dc σ H s0 s) (hf : X.env.frame = some X.env.locals) {m : Option Str} (hc : Names X cn c) (he : PySem.W.exmOne X.K cls c = some false)
    (h : wpAny (model X.prog X.w) X.A (handleBy (.ref x) X.env more) (SP X pins D) X.xe s) :
    wpAny (model X.prog X.w) X.A (handleBy (.ref x) X.env (.ExceptHandler (some (.Name cn pn)) m sts ph :: more)) (SP X pins D) X.xe s := by
  refine wpAny_handleBy_cons (codeAny_handlers_test (L.test hf hc (L.looks he ?_))) (fun z => nomatch z)
  exact h
/-- this clause takes it -/
theorem Land.taken (L : Land X pins x G cls dc σ H s0 s) (hf : X.env.frame = some X.env.locals) (hN : X.N.Nodup) (hi : X.N[i]? = some n) (hl : X.env.kindOf n = some .local) (hc : Names X cn c) (he : PySem.W.exmOne X.K cls c = some true)
    (hsu : ∀ (a : Addr) (oe : Obj) (cls : Value) (d : Option Addr) (pn : List (Addr × Obj)), Zc cls d oe → (∃ vs, oe.data = .fields vs) → PSs (X.suite a ((a, oe) :: pn)) (st0 :: sts) (ts a cls d))
    (h : ts x cls dc { nx := fun σ' H' => D.nx (σ'.set i none) H', rt := D.rt, bk := fun σ' H' => D.bk (σ'.set i none) H', ct := fun σ' H' => D.ct (σ'.set i none) H' } (σ.set i (some (.ref x))) H) :
    wpAny (model X.prog X.w) X.A (handleBy (.ref x) X.env (.ExceptHandler (some (.Name cn pn)) (some n) (st0 :: sts) ph :: more)) (SP X pins D) X.xe s := by
  refine wpAny_handleBy_cons (codeAny_handlers_test (L.test hf hc (L.looks he ?_))) (fun z => nomatch z)
  refine codeAny_handlers_suite_as (HandSPX.lands_againZ L.fly fun h' fl up => ?_)
  have LL : Land X pins x G cls dc σ H s0 { s with heap := h' } := ⟨L.inv, L.keep, L.up.trans up, fl, L.new, L.os, L.bare⟩
  obtain ⟨n1, n2⟩ := LL.calm hf
  obtain ⟨oe, vs, ho, hz, hd⟩ := fl.there
  have S := LL.now.suite ho hd L.new n1 n2
  refine store_ok (X := X.suite x ((x, oe) :: (X.pn ++ pins))) (v := .ref x) S hN hi (.inl hl) rfl (fun s5 S5 => ?_) (.inr hl)
  refine wpAny_mono ((hsu x oe cls dc _ hz ⟨_, hd⟩).run [] s5 _ H _ S5 h) (fun fl6 s6 z => ?_) (fun _ _ z => False.elim z)
  have ends : ∀ {σ6 : L2.St} {H6 : Hp} {Q : Shared → Prop}, Inv (X.suite x ((x, oe) :: (X.pn ++ pins))) [] σ6 H6 s6 → (∀ s7, Inv X pins (σ6.set i none) H6 s7 → Q s7) →
      wpAny (model X.prog X.w) X.A (do bindName X.env n .none; unbindBehindTheSuite X.env n ph) (fun _ s7 => Q s7) X.xe s6 := fun I6 k => gone_ok (I6.unsuite L.inv.ok) hN hi hl k
  match fl6, z with
  | .next, ⟨σ6, H6, I6, q⟩ => exact ends I6 fun s7 I7 => ⟨_, _, I7, q⟩
  | .brk, ⟨σ6, H6, I6, q⟩ => exact ends I6 fun s7 I7 => ⟨_, _, I7, q⟩
  | .cont, ⟨σ6, H6, I6, q⟩ => exact ends I6 fun s7 I7 => ⟨_, _, I7, q⟩
  | .ret u, ⟨v, σ6, H6, I6, r, q⟩ => exact ends I6 fun s7 I7 => ⟨_, _, _, I7, r, q⟩
end
/-- what two clauses wish of what the body raises: one of them takes it -/
def wTwo (K : PySem.W.Frag) (c1 c2 : Value) (i : Nat) (t1 t2 : Addr → Value → Option Addr → TS) (D : Ends) : WX := fun cls d σ H =>
  (PySem.W.exmOne K cls c1 = some true ∧ ∀ a, H a = none → t1 a cls d { nx := fun σ' H' => D.nx (σ'.set i none) H', rt := D.rt, bk := fun σ' H' => D.bk (σ'.set i none) H', ct := fun σ' H' => D.ct (σ'.set i none) H' } (σ.set i (some (.ref a))) H) ∨
  (PySem.W.exmOne K cls c1 = some false ∧ PySem.W.exmOne K cls c2 = some true ∧ ∀ a, H a = none → t2 a cls d { nx := fun σ' H' => D.nx (σ'.set i none) H', rt := D.rt, bk := fun σ' H' => D.bk (σ'.set i none) H', ct := fun σ' H' => D.ct (σ'.set i none) H' } (σ.set i (some (.ref a))) H)
theorem ps_try_two {X : Cx} {n x1 x2 : Str} {c1 c2 : Value} {i : Nat} {body u1 u2 : List Stmt} {v1 v2 : Stmt} {q1 q2 p1 p2 pos : Pos} {tb : WX → TS} {t1 t2 : Addr → Value → Option Addr → TS}
    (hs : X.stack = X.env :: X.outer) (hf : X.env.frame = some X.env.locals) (hN : X.N.Nodup) (hi : X.N[i]? = some n) (hl : X.env.kindOf n = some .local) (m1 : Names X x1 c1) (m2 : Names X x2 c2)
    (hb : ∀ (W : WX) (pn : List (Addr × Obj)) (xe : Value → Shared → Prop), Takes (X.tr pn xe) W → PSs (X.tr pn xe) body (tb W))
    (h1 : ∀ (a : Addr) (oe : Obj) (cls : Value) (d : Option Addr) (pn : List (Addr × Obj)), Zc cls d oe → (∃ vs, oe.data = .fields vs) → PSs (X.suite a ((a, oe) :: pn)) (v1 :: u1) (t1 a cls d))
    (h2 : ∀ (a : Addr) (oe : Obj) (cls : Value) (d : Option Addr) (pn : List (Addr × Obj)), Zc cls d oe → (∃ vs, oe.data = .fields vs) → PSs (X.suite a ((a, oe) :: pn)) (v2 :: u2) (t2 a cls d)) :
    PS X (.Try body [.ExceptHandler (some (.Name x1 q1)) (some n) (v1 :: u1) p1, .ExceptHandler (some (.Name x2 q2)) (some n) (v2 :: u2) p2] [] [] pos) (fun D σ H => tb (wTwo X.K c1 c2 i t1 t2 D) D σ H) := by
  constructor
  intro pins s σ H D I h
  have ok := I.ok
  refine wpAny_Try_except ?_
  have run := (hb (wTwo X.K c1 c2 i t1 t2 D) (X.pn ++ pins) (fun e s1 => wpAny (model X.prog X.w) X.A (noteFrame e X.env) (fun _ s2 => wpAny (model X.prog X.w) X.A (setFlight e none) (fun _ s3 =>
    wpAny (model X.prog X.w) X.A (handleBy e X.env [.ExceptHandler (some (.Name x1 q1)) (some n) (v1 :: u1) p1, .ExceptHandler (some (.Name x2 q2)) (some n) (v2 :: u2) p2]) (SP X pins D) X.xe s3) X.xe s2) X.xe s1) ?_).run [] s σ H D (I.toTry _) h
  · refine wpAny_mono run (fun fl s1 z => ?_) (fun _ _ z => z)
    match fl, z with
    | .next, ⟨σ1, H1, I1, q⟩ => exact wpAny_execs_nil ⟨σ1, H1, I1.ofTry ok, q⟩
    | .brk, ⟨σ1, H1, I1, q⟩ => exact ⟨σ1, H1, I1.ofTry ok, q⟩
    | .cont, ⟨σ1, H1, I1, q⟩ => exact ⟨σ1, H1, I1.ofTry ok, q⟩
    | .ret u, ⟨v, σ1, H1, I1, r, q⟩ => exact ⟨v, σ1, H1, I1.ofTry ok, r, q⟩
  · intro u s' t
    obtain ⟨a, G, s0, pins', σ', H', cls, d, rfl, I', nb, up, sky, na, os, ag, wish⟩ := t
    have J : Inv X pins σ' H' s0 := I'.ofTry ok
    have sky2 : Sky G (X.env :: X.outer) a (Zc cls d) X.env.locals s'.heap := hs ▸ sky
    refine Sky.land (M := model X.prog X.w) Zc.steady (by rw [ok.frames, hs]) hf sky2 fun h3 fl3 up3 => ?_
    have L : Land X pins a G cls d σ' H' s0 { s' with heap := h3 } := ⟨J, nb, up.trans up3, fl3, na, os, ag⟩
    rcases wish with ⟨e1, k⟩ | ⟨e1, e2, k⟩
    · exact L.taken hf hN hi hl m1 e1 h1 (k a na)
    · exact L.passes_by hf m1 e1 (L.taken hf hN hi hl m2 e2 h2 (k a na))
end Lw

set_option Elab.async false
set_option linter.all false
set_option maxRecDepth 100000
set_option maxHeartbeats 4000000
namespace Lw
open PySem PySem.Spec PyProof.Rows L2
/-! ## displays of data that are new -/
def MkF (K : PySem.W.Frag) (te : TE) (d : PyData) : Prop := ∀ σ H (Q : VK), (∀ v H', Same H H' → Dq K (nw H H') v d → Q v H') → te σ H Q
def MkG (K : PySem.W.Frag) (ta : TA) (ds : List PyData) : Prop := ∀ σ H (Q : List V → Hp → Prop), (∀ vs H', Same H H' → vs.length = ds.length → DqAll K (nw H H') vs ds → Q vs H') → ta σ H Q
theorem nw_up {H H' H2 : Hp} (s : Same H' H2) : Same (nw H H') (nw H H2) := nw_mono (fun _ e => e) fun b o _ e => s b o e
theorem nw_down {H H0 H' : Hp} (s : Same H0 H) : Same (nw H H') (nw H0 H') := nw_mono (same_none s) fun b o _ e => e
section
variable {K : PySem.W.Frag}
theorem MkF.non : MkF K (tC .non) .none := fun _ H Q h => h _ H (Same.refl H) .non
theorem MkF.bl {b : Bool} : MkF K (tC (.bl b)) (.bool b) := fun _ H Q h => h _ H (Same.refl H) (.bl b)
theorem MkF.int {i : Int} : MkF K (tC (.int i)) (.int i) := fun _ H Q h => h _ H (Same.refl H) (.int i)
theorem MkF.str {x : Str} : MkF K (tC (.str x)) (.str x) := fun _ H Q h => h _ H (Same.refl H) (.str x)
theorem MkF.neg {i : Int} : MkF K (tUn (rU fun i => .int (-i)) (tC (.int i))) (.int (-i)) := fun _ H Q h => ⟨i, rfl, h _ H (Same.refl H) (.int _)⟩
theorem MkG.nil : MkG K tNil [] := fun _ H Q h => h _ H (Same.refl H) rfl .nil
theorem MkG.cons {te : TE} {ta : TA} {d : PyData} {ds : List PyData} (h1 : MkF K te d) (h2 : MkG K ta ds) : MkG K (tCons te ta) (d :: ds) := by
  intro σ H Q h
  exact h1 σ H _ fun v H1 s1 q1 => h2 σ H1 _ fun vs H2 s2 l2 q2 => h _ H2 (s1.trans s2) (congrArg Nat.succ l2) (.cons (Dq.same (nw_up s2) q1) (DqAll.same (nw_down s1) q2))
theorem nw_new {H H1 : Hp} {p : Addr} {o : HO} (s : Same H H1) (hp : H1 p = none) : nw H (upd H1 p o) p = some o := by
  rw [nw_at (s.free hp), upd_same]
theorem MkF.tup {ta : TA} {ds : List PyData} (h1 : MkG K ta ds) (hl : ds.length ≤ 1000 := by decide) : MkF K (tTup ta) (.tuple ds) := by
  intro σ H Q h
  refine h1 σ H _ fun vs H1 s1 l1 q1 => ⟨?_, fun p hp => h _ _ (s1.trans (same_upd hp)) ?_⟩
  · rw [l1]
    exact Nat.le_of_lt (small1000 hl)
  · exact .tup (.inl (.inl (nw_new s1 hp))) (DqAll.same (nw_up (same_upd hp)) q1)
theorem MkF.lst {ta : TA} {ds : List PyData} (h1 : MkG K ta ds) (hl : ds.length ≤ 1000 := by decide) : MkF K (tLst ta) (.list ds) := by
  intro σ H Q h
  refine h1 σ H _ fun vs H1 s1 l1 q1 => ⟨?_, fun p hp => h _ _ (s1.trans (same_upd hp)) ?_⟩
  · rw [l1]
    exact Nat.le_of_lt (small1000 hl)
  · exact .lst (.inl (.inl (nw_new s1 hp))) (DqAll.same (nw_up (same_upd hp)) q1)
theorem MkF.dict : MkF K tDNewK (.dict []) := by
  intro σ H Q h
  intro p hp
  exact h _ _ (same_upd hp) (.dic (nw_new (Same.refl H) hp))
theorem s_lstF {ta : TA} {ds : List PyData} {i : Nat} {u : TS} {D : Ends} {σ : L2.St} {H : Hp} (h : MkG K ta ds) (hl : ds.length ≤ 1000)
    (k : ∀ vs H1 p, Same H H1 → vs.length = ds.length → DqAll K (nw H H1) vs ds → H1 p = none → u D (σ.set i (some (.ref p))) (upd H1 p (.lst vs))) :
    tSeq (tAsg (tLst ta) (gName i)) u D σ H := by
  refine h σ H _ fun vs H1 s l d => ⟨?_, fun p np => k vs H1 p s l d np⟩
  rw [l]
  exact Nat.le_of_lt (small1000 hl)
theorem e_catF {ta : TA} {ds : List PyData} {i : Nat} {σ : L2.St} {H : Hp} {Q : VK} {t : Addr} {xs : List V} (h : MkG K ta ds) (hl : xs.length + ds.length ≤ 1000) (hi : σ[i]? = some (some (.ref t))) (ht : H t = some (.lst xs))
    (k : ∀ vs H1 p, Same H H1 → vs.length = ds.length → DqAll K (nw H H1) vs ds → H1 p = none → Q (.ref p) (upd H1 p (.lst (xs ++ vs)))) :
    tOp rCat (tVar i) (tLst ta) σ H Q := by
  refine ⟨.ref t, hi, h σ H _ fun vs H1 s l d => ⟨?_, fun p np => ⟨t, p, xs, vs, rfl, rfl, ?_, upd_same, ?_, fun p2 np2 => ?_⟩⟩⟩
  · rw [l]
    exact Nat.le_of_lt (small1000 (by omega))
  · rw [upd_ne (ne_of_none (s _ _ ht) np)]
    exact s _ _ ht
  · rw [l]
    exact Nat.le_of_lt (small1000 hl)
  · exact k vs (upd H1 p (.lst vs)) p2 (s.trans (same_upd np)) l (DqAll.same (nw_up (same_upd np)) d) np2
/-- what is new lies off two places that were -/
theorem nw_off2 {H H' : Hp} {a b : Addr} (ha : H a ≠ none) (hb : H b ≠ none) : Same (nw H H') (off (off H' a) b) := fun c o g => by
  obtain ⟨h1, h2⟩ := nw_get g
  have n1 : c ≠ a := fun e => ha (e ▸ h1)
  have n2 : c ≠ b := fun e => hb (e ▸ h1)
  rw [off_ne n2, off_ne n1]
  exact h2
/-- behind a draw, what is new is still new -/
theorem nw_draw {H H3 H4 : Hp} {a : Addr} (ha : H a ≠ none) (o : Off a H3 H4) : Same (nw H H3) (nw H H4) := fun b u g => by
  obtain ⟨h1, h2⟩ := nw_get g
  have n : b ≠ a := fun e => ha (e ▸ h1)
  rw [nw_at h1]
  exact o.get h2 n
/-- a place put anew -/
theorem off_put {H : Hp} {l : Addr} {o : HO} : off (upd H l o) l = off H l := by
  funext b
  by_cases h : b = l
  · subst h
    unfold off
    simp
  · rw [off_ne h, off_ne h, upd_ne h]
theorem off_swap {H : Hp} {a b : Addr} : off (off H a) b = off (off H b) a := by
  funext c
  unfold off
  by_cases h1 : c = a <;> by_cases h2 : c = b <;> simp [h1, h2]
end
end Lw

set_option Elab.async false
set_option linter.all false
set_option maxRecDepth 100000
set_option maxHeartbeats 4000000
namespace Lw
open PySem PySem.Spec PyProof.Rows L2 PySem.HandSPX
section
variable {M : Model} {A : Around} {E : Value → Shared → Prop} {h : Heap} {g : Array GenState} {d : Drawn} {t : Nat} {os : OsState}
variable {nm q : Str} {C N : Addr} {bs bm bmB : List Value} {hdct : Bool} {sn : List Str} {sub : List Value} {ab : Bool} {col : Option Bool} {dd : Option Addr} {k0 k1 k2 k3 k5 : Option Value} {B newId initId : String}
/-! ## an own exception, made by keywords -/
theorem check_new_kw (F : ExcBaseFacts B newId initId bmB) (hT : ∀ X : String, bm.contains (.type X) = bmB.contains (.type X)) {rest : List Value} {kw : List (Str × Value)} {Q : Unit → Shared → Prop}
    (hC : h.get? C = some (excClassObj nm q C N bs bm hdct sn sub ab col dd k0 k1 k2 k3 k5 newId)) (hq : Q () ⟨h, g, d, t, os⟩) : wpAny M A (checkBuiltinCall newId ⟨.ref C :: rest, kw⟩) Q E ⟨h, g, d, t, os⟩ := by
  have hcont : (Value.ref C :: bm).contains (.type B) = true := by rw [List.contains_cons, hT, F.hasB, Bool.or_true]
  have hstar := F.noStar
  simp only [checkBuiltinCall, F.newKind, F.newSplit, F.newRow]
  repeat (first | refine wpAny_loadPart_at hC ?_ | (refine wpAny_isSubtype_exc hC ?_; rw [hcont]) | refine wpAny_staticBase_exc hC ?_ | refine wpAny_madeBy_exc hC ?_ | simp only [bne_self_eq_false, Bool.false_eq_true, if_false] | wp_step)
  exact hq
theorem check_type_kw {rest : List Value} {kw : List (Str × Value)} {Q : Unit → Shared → Prop} (hC : h.get? C = some (excClassObj nm q C N bs bm hdct sn sub ab col dd k0 k1 k2 k3 k5 newId))
    (hq : Q () ⟨h, g, d, t, os⟩) : wpAny M A (checkBuiltinCall "type.__call__" ⟨.ref C :: rest, kw⟩) Q E ⟨h, g, d, t, os⟩ := by
  have f3 := tc_sub
  have hT : (⟨h, g, d, t, os⟩ : Shared).TypeIs (.ref C) "type" := ⟨_, hC, rfl⟩
  simp only [checkBuiltinCall, tc_kind, tc_split]
  repeat (any_goals (first | assumption | with_reducible refine wpAny_loadPart_at hC ?_ | with_reducible refine wpAny_onRaise ?_ | with_reducible refine wpAny_map ?_ | wp_step))
end
section
variable {prog : Program} {w : World} {A : Around} {E : Value → Shared → Prop} {R : Result → Shared → Prop} {h : Heap} {g : Array GenState} {d : Drawn} {t : Nat} {os : OsState}
variable {nm q : Str} {C N : Addr} {bs bm bmB : List Value} {hdct : Bool} {sn : List Str} {sub : List Value} {ab : Bool} {col : Option Bool} {dd : Option Addr} {k0 k1 k2 k3 k5 : Option Value} {B newId initId : String}
theorem new_kw (F : ExcBaseFacts B newId initId bmB) (hT : ∀ X : String, bm.contains (.type X) = bmB.contains (.type X)) {rest : List Value} {kw : List (Str × Value)}
    (hC : h.get? C = some (excClassObj nm q C N bs bm hdct sn sub ab col dd k0 k1 k2 k3 k5 newId))
    (hq : R (.ok (.ret (.ref (h.objs.size + 1)))) ⟨(h.push { cls := .type "tuple", data := .seq rest.toArray }).push
      { cls := .ref C, data := .fields #[.ref h.objs.size, .none, .none, .none, .bool false, .none] }, g, d, t, os⟩) (hrest : rest.length ≤ sizeLine) :
    codeAny (model prog w) A (.builtin newId ⟨.ref C :: rest, kw⟩) R ⟨h, g, d, t, os⟩ := by
  have hends := F.ends
  have hcB : (Value.ref C :: bm).contains (.type B) = true := by rw [List.contains_cons, hT, F.hasB, Bool.or_true]
  have hcA : (Value.ref C :: bm).contains (.type "AttributeError") = false := by rw [List.contains_cons, hT, F.noAttr]; rfl
  have hcN : (Value.ref C :: bm).contains (.type "NameError") = false := by rw [List.contains_cons, hT, F.noName]; rfl
  refine codeAny_builtinAt F.entry ?_
  unfold Builtin.«BaseException.__new__»
  refine PySem.wpAt_bind ?_
  show PySem.wpAt _ _ _ (stack >>= _) _ _ _
  refine PySem.wpAt_bind (PySem.wpAt_stack fun p below => PySem.wpAt_of_wpAny ?_)
  wp_walk
  refine PySem.wpAt_of_wpAny ?_
  rw [F.owner]
  repeat (first | with_reducible refine wpAny_madeHere_exc F.canon hC ?_ | with_reducible refine wpAny_loadPart_at hC ?_ | (with_reducible refine wpAny_isSubtype_exc hC ?_; first | rw [hcB] | rw [hcA] | rw [hcN]) | wp_step)
  show R _ _
  rw [Heap.size_push]
  exact hq
theorem type_call_kw (F : ExcBaseFacts B newId initId bmB) (hT : ∀ X : String, bm.contains (.type X) = bmB.contains (.type X)) {rest : List Value} {kw : List (Str × Value)} {fI : Addr} {Q : Fin → Shared → Prop}
    (hC : h.get? C = some (excClassObj nm q C N bs bm hdct sn sub ab col dd k0 k1 k2 k3 k5 newId))
    (hi : W.Looks (model prog w) h (typeLookup (.ref C) "__init__") (some (.ref fI))) (hb : ∀ self, W.Looks (model prog w) h (bindSpecial (.ref fI) self) (.ref fI, [self])) (hrest : rest.length ≤ sizeLine)
    (hq : codeAny (model prog w) A (.call (.ref fI) ⟨.ref (h.objs.size + 1) :: rest, kw⟩)
      (fun r s' => match r with | .ok (.ret v) => v = .none ∧ Q (.done (.ret (.ref (h.objs.size + 1)))) s' | .ok _ => False | .error e => E e s')
      ⟨(h.push (W.kdv_tup rest)).push (excO C h.objs.size), g, d, t, os⟩) :
    wpAny (model prog w) A (Builtin.«type.__call__» ⟨.ref C :: rest, kw⟩) Q E ⟨h, g, d, t, os⟩ := by
  repeat (first | with_reducible refine wpAny_loadPart_at hC ?_ | with_reducible refine wpAny_madeBy_exc hC ?_ | wp_step)
  refine codeAny_call_builtin_code (Code.quiet_builtin _ F.quiet) (check_new_kw F hT hC ?_)
  refine new_kw F hT hC ?_ hrest
  show wpAny _ _ _ _ _ _
  have k : ∀ b o, h.get? b = some o → ((h.push (W.kdv_tup rest)).push (excO C h.objs.size)).get? b = some o := fun b o e => Heap.get?_push_of_some _ (Heap.get?_push_of_some _ e)
  have hC₁ := k _ _ hC
  have hget : ((h.push (W.kdv_tup rest)).push (excO C h.objs.size)).get? (h.objs.size + 1) = some (excO C h.objs.size) := by heap_get
  have hcC : (Value.ref C :: bm).contains (.ref C) = true := by simp
  have i1 := hi.keeps k
  have b1 := (hb (.ref (h.objs.size + 1))).keeps k
  unfold isInstance
  repeat (first | with_reducible refine wpAny_loadPart_at hget ?_ | (with_reducible refine wpAny_isSubtype_exc hC₁ ?_; rw [hcC]) | wp_step)
  show wpAny _ _ (typeLookup (.ref C) _) _ _ _
  refine i1.at ?_
  refine wpAny_holding (wpAny_bind (b1.at ?_))
  refine wpAny_bind (wpAny_call (codeAny_mono hq fun r s' z => ?_))
  rcases r with e | (v | _ | _ | _) <;> first | exact z | exact z.elim | skip
  obtain ⟨rfl, z⟩ := z
  first
    | exact wpAny_pure (wpAny_pure z)
    | (wp_walk; exact z)
theorem call_kw (F : ExcBaseFacts B newId initId bmB) (hT : ∀ X : String, bm.contains (.type X) = bmB.contains (.type X)) {rest : List Value} {kw : List (Str × Value)} {fI : Addr}
    (hC : h.get? C = some (excClassObj nm q C N bs bm hdct sn sub ab col dd k0 k1 k2 k3 k5 newId))
    (hi : W.Looks (model prog w) h (typeLookup (.ref C) "__init__") (some (.ref fI))) (hb : ∀ self, W.Looks (model prog w) h (bindSpecial (.ref fI) self) (.ref fI, [self])) (hrest : rest.length ≤ sizeLine)
    (hq : codeAny (model prog w) (A.under (.builtin "type.__call__" ⟨.ref C :: rest, kw⟩)) (.call (.ref fI) ⟨.ref (h.objs.size + 1) :: rest, kw⟩) (W.InitBack (h.objs.size + 1) R)
      ⟨(h.push (W.kdv_tup rest)).push (excO C h.objs.size), g, d, t, os⟩) :
    codeAny (model prog w) A (.call (.ref C) ⟨rest, kw⟩) R ⟨h, g, d, t, os⟩ := by
  have f1 := tc_lookup
  have f2 := tc_bind (.ref C)
  have hTy : (⟨h, g, d, t, os⟩ : Shared).TypeIs (.ref C) "type" := ⟨_, hC, rfl⟩
  refine codeAny_of_tree ?_
  show wpAny _ _ (callAny (.ref C) _) _ _ _
  repeat (any_goals (first | assumption | with_reducible refine wpAny_loadPart_at hC ?_ | wp_step))
  refine ⟨rfl, ?_⟩
  refine codeAny_call_builtin_at (Code.quiet_builtin _ (by decide +kernel)) entry_typeCall (check_type_kw hC (type_call_kw F hT hC hi hb hrest ?_))
  refine codeAny_mono hq fun r s' z => ?_
  rcases r with e | (v | _ | _ | _) <;> exact z
end
end Lw

set_option Elab.async false
set_option linter.all false
set_option maxRecDepth 100000
set_option maxHeartbeats 4000000
namespace Lw
open PySem PySem.Spec PyProof.Rows L2
/-! ## exceptions as values -/
/-- an exception of the class at D -/
def IsE (H : Hp) (v : V) (D : Addr) : Prop := ∃ a, v = .ref a ∧ ((∃ (dx : Addr) (fs : List (Str × V)), H a = some (exo a D (some dx)) ∧ H dx = some (exd dx fs)) ∨ H a = some (ExO (.ref D) a))
theorem IsE.same {H H' : Hp} {v : V} {D : Addr} (h : IsE H v D) (s : Same H H') : IsE H' v D := by
  obtain ⟨a, e, ⟨dx, fs, h1, h2⟩ | h1⟩ := h
  · exact ⟨a, e, .inl ⟨dx, fs, s _ _ h1, s _ _ h2⟩⟩
  · exact ⟨a, e, .inr (s _ _ h1)⟩
section
variable {X : Cx} {pins : List (Addr × Obj)} {σ : L2.St} {H : Hp} {s : Shared}
theorem IsE.inst {a D : Addr} (I : Inv X pins σ H s) (h : IsE H (.ref a) D) : ∃ (ox : Obj) (od : Option Obj), PySem.W.InstAt s.heap a ox D od := by
  obtain ⟨b, e, h⟩ := h
  cases e
  rcases h with ⟨dx, fs, h1, h2⟩ | h1
  · obtain ⟨t1, ho⟩ := exo_at I.hok h1
    obtain ⟨mA, ⟨o, es, ep, e1, _⟩, _⟩ := exd_at I.hok h2
    exact ⟨_, some o, ho, rfl, rfl, e1⟩
  · obtain ⟨⟨oe, vs, e1, z, d, _⟩, _⟩ := (show ObjOk X.prog X.w H s.heap a (ExO (.ref D) a) from I.hok a _ h1)
    refine ⟨oe, none, e1, z.1, ?_, ?_⟩
    · unfold PySem.W.notCls
      rw [d] <;> rfl
    · rw [z.2]
      trivial
end
/-- isinstance(e, c) -/
def rIsE (K : PySem.W.Frag) : List V → Hp → VK → Prop := fun xs H Q => ∃ (v : V) (D : Addr) (c : V) (cv : Value) (b : Bool), xs = [v, c] ∧ IsE H v D ∧ ExcC K D ∧ ClsV c cv ∧ PySem.W.kitOne K (.ref D) cv = some b ∧ Q (.bl b) H
/-- isinstance(e, (c, ..)) -/
def rIsET (K : PySem.W.Frag) : List V → Hp → VK → Prop := fun xs H Q => ∃ (v : V) (D tp : Addr) (cs : List V) (us : List Value) (b : Bool), xs = [v, .ref tp] ∧ IsE H v D ∧ ExcC K D ∧ H tp = some (.tup cs) ∧ Paired ClsV cs us ∧ PySem.W.kitAny K (.ref D) us = some b ∧ Q (.bl b) H
section
variable {X : Cx}
theorem call_isE : CallR X (.builtin "isinstance") (rIsE X.K) := by
  intro pins s σ H xs us Q I r h
  obtain ⟨v, D, c, cv, b, rfl, hv, T, hc, e, q⟩ := h
  obtain ⟨u1, u2, rfl, r1, r2⟩ := vals2 r
  obtain ⟨a, rfl, _⟩ := id hv
  cases (show u1 = Value.ref a from r1)
  cases hc.eq r2
  obtain ⟨ox, od, J⟩ := hv.inst I
  exact PySem.W.kia_one (kit_exc T) I.kIn J e (fun z => nomatch z) fun tk => ⟨.bl b, H, I.tok tk, rfl, q⟩
theorem call_isET : CallR X (.builtin "isinstance") (rIsET X.K) := by
  intro pins s σ H xs us Q I r h
  obtain ⟨v, D, tp, cs, ws, b, rfl, hv, T, hT, k, e, q⟩ := h
  obtain ⟨u1, u2, rfl, r1, r2⟩ := vals2 r
  obtain ⟨a, rfl, _⟩ := id hv
  cases (show u1 = Value.ref a from r1)
  cases (show u2 = Value.ref tp from r2)
  obtain ⟨ox, od, J⟩ := hv.inst I
  obtain ⟨_, its, rv, o, h1, h2, n, h3⟩ := (show ObjOk X.prog X.w H s.heap tp (.tup cs) from I.hok tp _ hT)
  cases ClsV.all k rv
  obtain ⟨oc, odd, dt, sl⟩ := o
  simp only at h2 h3
  subst h2 h3
  exact PySem.W.kia_tup (kit_exc T) I.kIn J h1 e (fun z => nomatch z) fun tk => ⟨.bl b, H, I.tok tk, rfl, q⟩
/-- e.f of an exception -/
def tXfE (K : PySem.W.Frag) (f : Str) (te : TE) : TE := fun σ H Q => te σ H fun x H1 => ∃ (a D dx : Addr) (fs : List (Str × V)) (v : V), x = .ref a ∧ H1 a = some (exo a D (some dx)) ∧ H1 dx = some (exd dx fs) ∧ XfC K D ∧ PySem.W.findIn K (.ref D) f = some none ∧ fs.lookup f = some v ∧ Q v H1
theorem pe_xfE {e : Expr} {te : TE} {pos : Pos} {n : Str} (he : PE X e te) (hb : attributeBase e n X.env (eval e X.env) = eval e X.env := by rfl) : PE X (.Attribute e n pos) (tXfE X.K n te) := by
  refine ⟨fun pins s σ H Q I h => ?_⟩
  refine attr_of hb (thn (he.run pins s σ H _ I h) fun u s1 hh => ?_)
  obtain ⟨x, H1, I1, rx, a, D, dx, fs, v, ex, ea, ed, T, hno, l, q⟩ := hh
  subst ex
  obtain rfl : u = Value.ref a := rx
  obtain ⟨t1, ho⟩ := exo_at I1.hok ea
  obtain ⟨mA, hns, hr⟩ := exd_at I1.hok ed
  obtain ⟨od, hod, hl⟩ := lookIn_ns hns
  obtain ⟨u, hu, ru⟩ := RelO.some_of (v := v) (o := mA n) (by rw [← l]; exact hr n)
  have J : PySem.W.InstAt s1.heap a { cls := .ref D, dict := some dx, data := .fields #[.ref t1, .none, .none, .none, .bool false, .none] } D (some od) := ⟨ho, rfl, rfl, hod⟩
  exact PySem.HandSPX.exc_get I1.kIn J T.ga T.gg T.exC (PySem.W.findObj_own T.hdC hno rfl (by rw [hl, hu])) (handed_of ru) ⟨v, H1, I1.tok _, ru, q⟩
end
/-! ## made and held -/
def tMkV (C : Addr) (sp : Sp) (ta : TA) : TE := fun σ H Q => ta σ H fun vs H1 => vs.length ≤ 1000 ∧ ∀ a, H1 a = none → sp (.ref a :: vs) (upd H1 a (exo a C none)) (fun v H2 => v = .non ∧ Q (.ref a) H2) E0
def tMkW (C : Addr) (m : Nat) (sp : Sp) (gV : List V → List V → List V) (tk : TA) : TE := fun σ H Q => tk σ H fun zs H1 => zs.length = m ∧ ∀ a, H1 a = none → sp (gV [.ref a] zs) (upd H1 a (exo a C none)) (fun v H2 => v = .non ∧ Q (.ref a) H2) E0
section
variable {X : Cx} {k : Nat} {x : Str} {ps : List Str} {sp : Sp} {C fI : Addr} {fd : FuncData} {B newId initId : String} {tl : List Value} {e : Expr} {es : List Expr} {ta tk : TA} {p pos : Pos} {ks : List Str} {kws : List Keyword} {g : List Value → List Value → List Value} {gV : List V → List V → List V}
theorem run_mkV {pins : List (Addr × Obj)} {σ : L2.St} {H : Hp} {s : Shared} {Q : VK} {us : List Value} {kw : List (Str × Value)} {all : Addr → List Value} {vs : Addr → List V} (EB : ExB B newId initId tl) (O : OwnE X.prog X.w X.K X.mg X.base k x ps sp C fI fd tl newId) (hr : Room (k + 1) X.A) (I : Inv X pins σ H s) (hus : us.length ≤ sizeLine)
    (hb : ∀ (s' : Shared) (a : Addr), X.K.In s'.heap → BindsTo s' fd ⟨.ref a :: us, kw⟩ (ps.zip (all a))) (hv : ∀ a, Vals (vs a) (all a))
    (h : ∀ a, H a = none → sp (vs a) (upd H a (exo a C none)) (fun v H2 => v = .non ∧ Q (.ref a) H2) E0) : wpAny (model X.prog X.w) X.A (call (.ref C) us kw) (EP X pins σ Q) X.xe s := by
  obtain ⟨nm, N', qn, bs, bm, hdct, sn, sub, ab, col, dd, k0, k1, k2, k3, k5, hC, hT⟩ := PySem.W.excInit_of I.kIn O.t.ini
  obtain ⟨hp, gg, dr, tk, os⟩ := s
  generalize hA : hp.objs.size + 1 = A1
  have hsz : hp.objs.size ≤ A1 := by omega
  have hq := h A1 (I.hok.fresh hsz)
  have kk : ∀ b o, hp.get? b = some o → ((hp.push (PySem.W.kdv_tup us)).push (PySem.HandSPX.excO C hp.objs.size)).get? b = some o := fun b o e => Heap.get?_push_of_some _ (Heap.get?_push_of_some _ e)
  have hget : ((hp.push (PySem.W.kdv_tup us)).push (PySem.HandSPX.excO C hp.objs.size)).get? A1 = some (PySem.HandSPX.excO C hp.objs.size) := by
    rw [← hA]
    heap_get
  have I2 : Inv X pins σ (upd H A1 (exo A1 C none)) ⟨(hp.push (PySem.W.kdv_tup us)).push (PySem.HandSPX.excO C hp.objs.size), gg, dr, tk, os⟩ :=
    I.laid (t' := tk) (a := A1) (o := exo A1 C none) (h' := (hp.push (PySem.W.kdv_tup us)).push (PySem.HandSPX.excO C hp.objs.size)) kk hsz (exo_ok hget)
  refine wpAny_call (call_kw EB.fb hT hC (PySem.W.looks_findIn I.kIn O.i) (fun self => PySem.W.bind_fn I.kIn self O.ti) hus ?_)
  rw [hA]
  refine codeAny_mono (O.ok.run _ X.stack _ _ ⟨Value.ref A1 :: us, kw⟩ (all A1) _ _ E0 (hr.make C us kw) (I2.env0.make C us kw) (hb _ A1 I2.kIn) (hv A1) hq) fun r s' hq' => ?_
  match r, hq' with
  | .error er, hq' => exact pass0 pins σ _ _ er s' I2 hq'
  | .ok .next, hq' => exact False.elim hq'
  | .ok .brk, hq' => exact False.elim hq'
  | .ok .cont, hq' => exact False.elim hq'
  | .ok (.ret u), hq' =>
    obtain ⟨v, H', I3, rv, ev, q3⟩ := I2.after hq'
    subst ev
    exact ⟨rv, ⟨V.ref A1, H', I3, rfl, q3⟩⟩
theorem pe_mkV (EB : ExB B newId initId tl) (O : OwnE X.prog X.w X.K X.mg X.base k x ps sp C fI fd tl newId) (hr : Room (k + 1) X.A) (ha : PA X (e :: es) ta)
    (hg : Gl X x := by rfl) (hdb : (x == ("__debug__" : Str)) = false := by decide) (he : starEach (e :: es) X.env = (false, eval e X.env) :: starEach es X.env := by rfl) (hpl : (backTo pos (starEach es X.env)).any (fun q => q.1) = false := by rfl) :
    PE X (.Call (.Name x p) (e :: es) [] pos) (tMkV C sp ta) := by
  constructor
  intro pins s σ H Q I h
  refine wpAny_Call_Name_kw (ld_glob I hg O.m (PySem.W.callWith_K (h₀ := X.base) I.ok.mod.kin O.t.kC (thn (ha.run pos pins s σ H _ I h) fun us s1 hu => ?_) he hpl) hdb)
  obtain ⟨vs, H1, I1, r1, hz, q1⟩ := hu
  refine ⟨I1.kIn, ?_⟩
  have hus : us.length ≤ sizeLine := by
    rw [← Paired.length r1]
    exact Nat.le_of_lt (small1000 hz)
  refine run_mkV (all := fun a => .ref a :: us) (vs := fun a => .ref a :: vs) EB O hr I1 hus (fun s' a hk => ?_) (fun a => .cons rfl r1) q1
  have hl : (Value.ref a :: us).length = ps.length := by
    have n := O.ok.len _ _ _ _ (q1 (s1.heap.objs.size) (I1.hok.fresh (Nat.le_refl _)))
    rw [← n, List.length_cons, List.length_cons, Paired.length r1]
  have b := O.b s' (Value.ref a :: us) hk (by rw [List.append_nil]; exact hl)
  rw [List.append_nil] at b
  exact b
theorem pe_mkW (EB : ExB B newId initId tl) (O : OwnE X.prog X.w X.K X.mg X.base k x ps sp C fI fd tl newId) (hb : KBn X.K fd ps 1 ks g gV) (hr : Room (k + 1) X.A) (hkw : PK X kws tk)
    (hg : Gl X x := by rfl) (hall : (backToKw pos (keywordEach kws X.env)).all (fun q => q.1.isSome) = true := by rfl)
    (hks : (backToKw pos (keywordEach kws X.env)).filterMap (fun q => q.1) = ks := by rfl)
    (hdb : (x == ("__debug__" : Str)) = false := by decide)
    (hpl : ((backTo pos (starEach [] X.env)).any (fun q => q.1) || (backToKw pos (keywordEach kws X.env)).any (fun q => q.1.isNone)) = false := by rfl) :
    PE X (.Call (.Name x p) [] kws pos) (tMkW C ks.length sp gV tk) := by
  constructor
  intro pins s σ H Q I h
  refine wpAny_Call_Name_kw (ld_glob I hg O.m ?_ hdb)
  refine PySem.W.callWith_KW0 (h₀ := X.base) I.ok.mod.kin O.t.kC hall ?_ hpl
  refine thn (hkw.run pos pins s σ H _ I h) fun ws s2 hq => ?_
  obtain ⟨zs, H2, I2, rz, l2, q2⟩ := hq
  refine ⟨I2.kIn, ?_⟩
  rw [hks]
  have lw : ws.length = ks.length := by
    rw [← Paired.length rz]
    exact l2
  exact run_mkV (us := []) (kw := ks.zip ws) (all := fun a => g [.ref a] ws) (vs := fun a => gV [.ref a] zs) EB O hr I2 (Nat.zero_le _) (fun s' a hk => hb.to s' [.ref a] ws hk rfl lw) (fun a => hb.rel (.cons rfl .nil) rz) q2
/-- a class by its name -/
theorem pe_cls {c : Addr} (m : X.mg x = some (.ref c)) (hg : Gl X x := by rfl) (hd : (x == ("__debug__" : Str)) = false := by decide) : PE X (.Name x pos) (tC (.ref c)) := pe_glob (v := .ref c) hg m rfl hd
/-- a class of exceptions without an own __init__, called with nothing -/
theorem pe_exc0 {bmB : List Value} (F : ExcBaseFacts B newId initId bmB) (q : PySem.W.excIn X.K C bmB newId = true) (gC : X.mg x = some (.ref C)) (kC : PySem.W.keepIn X.K (.ref C) = true) (hg : Gl X x) (hdb : (x == ("__debug__" : Str)) = false := by decide) :
    PE X (.Call (.Name x p) [] [] pos) (fun σ H Q => ∀ a, H a = none → Q (.ref a) (upd H a (ExO (.ref C) a))) := by
  constructor
  intro pins s σ H Q I h
  refine wpAny_Call_Name_kw (ld_glob I hg gC (PySem.W.callWith_K0 I.kIn kC ?_) hdb)
  obtain ⟨bm, N, nm, qn, bs, hdct, sn, sub, ab, col, dd, k0, k1, k2, k3, k5, mN, hC, hN, hni, T⟩ := exc_obj I.kIn q
  refine wpAny_call_exc_subT F T hC hN hni (fun h' a hm => ?_) (by show 0 ≤ sizeLine; omega)
  have hn : H a = none := I.hok.gone hm.new
  obtain ⟨t, ht, _, _⟩ := hm.there
  exact ⟨.ref a, upd H a (ExO (.ref C) a), I.laidN hm.keeps hm.new hn (exO_ok ht ⟨rfl, rfl⟩ rfl rfl rfl (show 4 < 6 by decide)), rfl, h a hn⟩
end
/-! ## a further field -/
section
open PySem.Builtin PySem.Builtin.ObjectAttr
variable {prog : Program} {w : World} {A : Around} {R : Result → Shared → Prop} {hp : Heap} {g : Array GenState} {d : Drawn} {t : Nat} {os : OsState}
theorem osa_more {B newId initId : String} {tl : List Value} (EB : ExB B newId initId tl) {K : PySem.W.Frag} {name : Str} {tk : Tok} {v : Value} {x C dx : Addr} {fv : Array Value} {cd : ClassData} {m0 : Str → Option Value} {nl : List Str}
    (X : K.In hp) (hx : hp.get? x = some { cls := .ref C, dict := some dx, data := .fields fv }) (hns : hp.Ns1 dx m0) (hw : Within m0 nl) (hz : nl.length ≤ 1000) (hcd : PySem.W.clsIn K C = some cd) (hm : refsT tl cd.mro = true) (hh : cd.hasDict = true)
    (ha : PySem.W.findIn K (.ref C) name = some none)
    (hq : ∀ h' tk', (∀ b o, b ≠ dx → hp.get? b = some o → h'.get? b = some o) → h'.Ns1 dx (fun y => if y = name then some v else m0 y) → R (.ok (.ret .none)) ⟨h', g, d, tk', os⟩) :
    codeAny (model prog w) A (.call (.builtin "object.__setattr__") ⟨[.ref x, .str name tk, v], []⟩) R ⟨hp, g, d, t, os⟩ := by
  obtain ⟨hob, hne⟩ := refsT_obj EB _ hm
  obtain ⟨oD, esD, epD, hoD, hdD, _⟩ := hns.count hw
  have I : PySem.W.InstAt hp x { cls := .ref C, dict := some dx, data := .fields fv } C (some oD) := ⟨hx, rfl, rfl, hoD⟩
  have SF := F.store_object
  have hmro : PySem.W.mroIn K C (.type "object") = some true := by
    unfold PySem.W.mroIn
    rw [hcd, Option.bind_some, if_neg (by rw [hne]; decide), hob]
  have sub : PySem.W.Looks (model prog w) hp (isInstance (.ref x) (.type "object")) true := I.type.andThen (PySem.W.looks_mroIn X hmro)
  refine codeAny_call_builtin SF.slot.plain SF.entry (@PySem.W.check_slot (model prog w) _ _ ⟨hp, g, d, t, os⟩ "object.__setattr__" "object" "__setattr__" (.ref x) [.str name tk, v] [] _ SF.kind SF.split sub (SF.args (.ref x) (.str name tk) v) ?_)
  have hcls : PySem.W.Looks (model prog w) hp (classData C) cd := PySem.W.looks_clsIn X hcd
  have hmr : PySem.W.Looks (model prog w) hp (mroOf (.ref C)) cd.mro := hcls.andThen .now
  have L3 : PySem.W.Looks (model prog w) hp (storeTaker? none) none := .now
  rw [PySem.W.osa_eq, refuse_eq]
  refine wpAny_bind (wpAny_bind (I.type.at (wpAny_bind (hmr.at ?_))))
  rw [refsT_pass EB _ _ hm]
  refine wpAny_pure (wpAny_bind (I.type.at (wpAny_bind ((PySem.W.looks_findIn X ha).at (wpAny_bind (L3.at ?_))))))
  show wpAny _ _ (storeInOwnDict (.ref x) (.ref C) (.str name tk) name v false) _ _ _
  obtain ⟨nm, bs, mro, ns, qn, hd, sn, sb, ab, col, del⟩ := cd
  dsimp only at hh
  subst hh
  unfold storeInOwnDict ownDictForStores
  repeat (first | with_reducible refine PySem.OEX.store_in_old hns hw hz ?_ | with_reducible refine wpAny_loadPart_at hx ?_ | with_reducible refine hcls.at ?_ | wp_step)
  intro h' tk' hn' hs
  exact hq h' tk' (fun b o hb ho => (hs.2 b hb).trans ho) hn'
end
section
variable {X : Cx} {pins : List (Addr × Obj)} {σ : L2.St} {H : Hp} {s : Shared} {a C dx : Addr} {f : Str} {y : V} {u : Value} {fs : List (Str × V)} {E : Value → Shared → Prop} {A : Around} {B newId initId : String} {tl : List Value}
theorem ost_more (EB : ExB B newId initId tl) (T : ExcK X.K C tl newId) (I : Inv X pins σ H s) (e : H a = some (exo a C (some dx))) (ed : H dx = some (exd dx fs)) (hl : fs.length ≤ 900) (hno : PySem.W.findIn X.K (.ref C) f = some none) (ry : L2.RelV y u) {Q : Unit → Shared → Prop}
    (h : ∀ s', Inv X pins σ (upd H dx (exd dx ((f, y) :: fs))) s' → Q () s') : wpAny (model X.prog X.w) A (setAttr (.ref a) f u) Q E s := by
  obtain ⟨cd, hcd, hdict, hmro⟩ := T.cls
  obtain ⟨t1, ho⟩ := exo_at I.hok e
  obtain ⟨mA, hns, rel⟩ := exd_at I.hok ed
  have hw := within_of rel
  obtain ⟨hp, g, d, t, os⟩ := s
  obtain ⟨oD, _, _, hoD, _, _⟩ := hns.count hw
  refine PySem.W.set_plain I.kIn (ox := { cls := .ref C, dict := some dx, data := .fields #[.ref t1, .none, .none, .none, .bool false, .none] }) (od := some oD) ⟨ho, rfl, rfl, hoD⟩ T.sa ?_
  refine osa_more EB I.kIn ho hns hw (by rw [List.length_map]; omega) hcd hmro hdict hno (fun h' tk' k hn => ?_)
  have hd : ∃ o, h'.get? dx = some o := by
    obtain ⟨o, _, _, e', _⟩ := hn
    exact ⟨o, e'⟩
  exact h _ (I.write (t' := tk') (x := dx) (e := dx) (o := exd dx ((f, y) :: fs)) (by rw [ed]; exact True.intro) (.inl rfl) k hd (exd_ok hn (relO_put ry rel)))
end
def tOstM (K : PySem.W.Frag) (tl : List Value) (newId : String) (f : Str) (to te : TE) : TS := fun D σ H => te σ H fun y H1 => to σ H1 fun x H2 => ∃ (a C dx : Addr) (fs : List (Str × V)), x = .ref a ∧ ExcK K C tl newId ∧ PySem.W.findIn K (.ref C) f = some none ∧
  H2 a = some (exo a C (some dx)) ∧ H2 dx = some (exd dx fs) ∧ fs.length ≤ 900 ∧ D.nx σ (upd H2 dx (exd dx ((f, y) :: fs)))
theorem ps_ostM {X : Cx} {o e : Expr} {to te : TE} {f : Str} {p' pos : Pos} {B newId initId : String} {tl : List Value} (EB : ExB B newId initId tl) (ho : PE X o to) (he : PE X e te) (hs : swapsWith e (some (.Attribute o f p')) pos.line X.env = pure false := by rfl) : PS X (.Assign [.Attribute o f p'] e pos) (tOstM X.K tl newId f to te) := by
  constructor
  intro pins s σ H D I h
  refine plainObj_wpAny_Assign_Attribute (thn (he.run pins s σ H _ I h) fun v s1 hv => ?_) hs
  obtain ⟨y, H1, I1, r1, q1⟩ := hv
  refine thn (ho.run pins s1 σ H1 _ I1 q1) fun u s2 hu => ?_
  obtain ⟨x, H2, I2, r2, a, C, dx, fs, ex, T, hno, ea, ed, hl, q⟩ := hu
  subst ex
  cases (show u = Value.ref a from r2)
  exact ost_more EB T I2 ea ed hl hno r1 fun s' J => ⟨σ, _, J, q⟩
end Lw

set_option Elab.async false
set_option linter.all false
set_option maxRecDepth 100000
set_option maxHeartbeats 4000000
namespace Lw
open PySem PySem.Spec PyProof.Rows L2
/-! ## exceptions with fields that are data -/
def ExF (K : PySem.W.Frag) (H : Hp) (v : V) (D : Addr) (fd : List (Str × PyData)) : Prop := ∃ (a dx : Addr) (fs : List (Str × V)), v = .ref a ∧ H a = some (exo a D (some dx)) ∧ H dx = some (exd dx fs) ∧ ∀ f d, (f, d) ∈ fd → ∃ y, fs.lookup f = some y ∧ Dq K H y d
theorem ExF.same {K : PySem.W.Frag} {H H' : Hp} {v : V} {D : Addr} {fd : List (Str × PyData)} (h : ExF K H v D fd) (s : Same H H') : ExF K H' v D fd := by
  obtain ⟨a, dx, fs, e, h1, h2, h3⟩ := h
  refine ⟨a, dx, fs, e, s _ _ h1, s _ _ h2, fun f d hf => ?_⟩
  obtain ⟨y, l, q⟩ := h3 f d hf
  exact ⟨y, l, q.same s⟩
theorem ExF.isE {K : PySem.W.Frag} {H : Hp} {v : V} {D : Addr} {fd : List (Str × PyData)} (h : ExF K H v D fd) : IsE H v D := by
  obtain ⟨a, dx, fs, e, h1, h2, _⟩ := h
  exact ⟨a, e, .inl ⟨dx, fs, h1, h2⟩⟩
/-- what may be handed to an exception -/
structure Hx (d : PyData) : Prop where
  dp : d.depth ≤ 5
  sl : slim d = true
/-- the promise of an `__init__` that keeps its arguments as fields -/
def sp_init (K : PySem.W.Frag) (C : Addr) (fl : List Str) : Sp := fun vs H Q _ => ∃ (a : Addr) (xs : List V) (ds : List PyData), vs = .ref a :: xs ∧ xs.length = fl.length ∧ H a = some (exo a C none) ∧ DqAll K (off H a) xs ds ∧ (∀ d ∈ ds, Hx d) ∧
  ∀ H', Same (off H a) H' → ExF K H' (.ref a) C (fl.zip ds) → (∀ m, H m ≠ none → m ≠ a → DqAll K (off (off H a) m) xs ds → ExF K (off H' m) (.ref a) C (fl.zip ds)) → Q .non H'
theorem off_new1 {H : Hp} {a : Addr} {o : HO} (n : H a = none) : Same H (off (upd H a o) a) := fun b u e => by
  have ne := ne_of_none e n
  rw [off_ne ne, upd_ne ne]
  exact e
theorem mk_ok {K : PySem.W.Frag} {C : Addr} {fl : List Str} {xs : List V} {ds : List PyData} {H : Hp} {Q : VK} (hd : DqAll K H xs ds) (hx : ∀ d ∈ ds, Hx d) (hl : xs.length = fl.length)
    (k : ∀ v H', Same H H' → ExF K H' v C (fl.zip ds) → (∀ m, H m ≠ none → DqAll K (off H m) xs ds → ExF K (off H' m) v C (fl.zip ds)) → Q v H') :
    ∀ a, H a = none → sp_init K C fl (.ref a :: xs) (upd H a (exo a C none)) (fun v H2 => v = .non ∧ Q (.ref a) H2) E0 := by
  intro a na
  have s0 : Same H (off (upd H a (exo a C none)) a) := off_new1 na
  refine ⟨a, xs, ds, rfl, hl, upd_same, DqAll.same s0 hd, hx, fun H' s' x' m' => ⟨rfl, k _ H' (s0.trans s') x' fun m hm hdm => m' m ?_ ?_ ?_⟩⟩
  · have n : m ≠ a := fun e => hm (e ▸ na)
    rw [upd_ne n]
    exact hm
  · exact fun e => hm (e ▸ na)
  · exact DqAll.same (off_mono s0) hdm
/-! ## lists of things by numbers -/
inductive AllX (R : Nat → Hp → V → Prop) : Hp → List V → List Nat → Prop
  | nil {H : Hp} : AllX R H [] []
  | cons {H : Hp} {v : V} {i : Nat} {vs : List V} {is : List Nat} (h : R i H v) (g : AllX R H vs is) : AllX R H (v :: vs) (i :: is)
def Mono (R : Nat → Hp → V → Prop) : Prop := ∀ i H H' v, Same H H' → R i H v → R i H' v
theorem AllX.same {R : Nat → Hp → V → Prop} (mono : Mono R) {H H' : Hp} (s : Same H H') : ∀ {vs : List V} {is : List Nat}, AllX R H vs is → AllX R H' vs is
  | _, _, .nil => .nil
  | _, _, .cons h g => .cons (mono _ _ _ _ s h) (AllX.same mono s g)
theorem AllX.app {R : Nat → Hp → V → Prop} {H : Hp} : ∀ {vs ws : List V} {is js : List Nat}, AllX R H vs is → AllX R H ws js → AllX R H (vs ++ ws) (is ++ js)
  | _, _, _, _, .nil, q => q
  | _, _, _, _, .cons h g, q => .cons h (g.app q)
theorem AllX.len {R : Nat → Hp → V → Prop} {H : Hp} : ∀ {vs : List V} {is : List Nat}, AllX R H vs is → vs.length = is.length
  | _, _, .nil => rfl
  | _, _, .cons _ g => congrArg Nat.succ g.len
theorem AllX.get {R : Nat → Hp → V → Prop} {H : Hp} : ∀ {vs : List V} {is : List Nat} {j : Nat} {v : V}, AllX R H vs is → vs[j]? = some v → ∃ i, is[j]? = some i ∧ R i H v
  | _, _, _, _, .nil, e => by simp at e
  | _, _, 0, _, .cons h _, e => by
    simp at e
    subst e
    exact ⟨_, rfl, h⟩
  | _, _, j + 1, v, .cons _ g, e => by
    obtain ⟨i, h1, h2⟩ := AllX.get (j := j) (v := v) g (by simpa using e)
    exact ⟨i, by simpa using h1, h2⟩
/-- a display of such things -/
def MkI (R : Nat → Hp → V → Prop) (ta : TA) (σ : L2.St) (H0 : Hp) (is : List Nat) : Prop := ∀ H (Q : List V → Hp → Prop), Same H0 H → (∀ vs H', Same H H' → AllX R H' vs is → Q vs H') → ta σ H Q
def Mk1 (R : Nat → Hp → V → Prop) (te : TE) (σ : L2.St) (H0 : Hp) (i : Nat) : Prop := ∀ H (Q : VK), Same H0 H → (∀ v H', Same H H' → R i H' v → Q v H') → te σ H Q
section
variable {R : Nat → Hp → V → Prop} {σ : L2.St} {H0 : Hp}
theorem MkI.nil : MkI R tNil σ H0 [] := fun H Q _ k => k _ H (Same.refl H) .nil
theorem MkI.cons (mono : Mono R) {te : TE} {ta : TA} {i : Nat} {is : List Nat} (h1 : Mk1 R te σ H0 i) (h2 : MkI R ta σ H0 is) : MkI R (tCons te ta) σ H0 (i :: is) := fun H Q s k =>
  h1 H _ s fun v H1 s1 r1 => h2 H1 _ (s.trans s1) fun vs H2 s2 r2 => k _ H2 (s1.trans s2) (.cons (mono _ _ _ _ s2 r1) r2)
theorem s_lstX {ta : TA} {is : List Nat} {i : Nat} {u : TS} {D : Ends} (h : MkI R ta σ H0 is) (hl : is.length ≤ 900)
    (k : ∀ vs H1 p, Same H0 H1 → AllX R H1 vs is → H1 p = none → u D (σ.set i (some (.ref p))) (upd H1 p (.lst vs))) : tSeq (tAsg (tLst ta) (gName i)) u D σ H0 := by
  refine h H0 _ (Same.refl H0) fun vs H1 s r => ⟨?_, fun p np => k vs H1 p s r np⟩
  rw [r.len]
  exact Nat.le_of_lt (small1000 (by omega))
theorem s_catX (mono : Mono R) {ta : TA} {is : List Nat} {i : Nat} {u : TS} {D : Ends} {t : Addr} {xs : List V} (h : MkI R ta σ H0 is) (hl : xs.length + is.length ≤ 900) (hi : σ[i]? = some (some (.ref t))) (ht : H0 t = some (.lst xs))
    (k : ∀ vs H1 p, Same H0 H1 → AllX R H1 vs is → H1 p = none → u D (σ.set i (some (.ref p))) (upd H1 p (.lst (xs ++ vs)))) : tSeq (tAsg (tOp rCat (tVar i) (tLst ta)) (gName i)) u D σ H0 := by
  refine ⟨.ref t, hi, h H0 _ (Same.refl H0) fun vs H1 s r => ⟨?_, fun p np => ⟨t, p, xs, vs, rfl, rfl, ?_, upd_same, ?_, fun p2 np2 => ?_⟩⟩⟩
  · rw [r.len]
    exact Nat.le_of_lt (small1000 (by omega))
  · rw [upd_ne (ne_of_none (s _ _ ht) np)]
    exact s _ _ ht
  · rw [r.len]
    exact Nat.le_of_lt (small1000 (by omega))
  · exact k vs (upd H1 p (.lst vs)) p2 (s.trans (same_upd np)) (r.same mono (same_upd np)) np2
end
end Lw

set_option Elab.async false
set_option linter.all false
set_option maxRecDepth 100000
set_option maxHeartbeats 4000000
namespace Lw
open PySem PySem.Spec PyProof.Rows L2
/-! ## list(zip(a, b)) of two lists of one length -/
theorem zip_no_len : typeLookup (.type "zip") "__len__" = pure none := am_miss_of_fast (by decide +kernel)
theorem zip_no_hint : typeLookup (.type "zip") "__length_hint__" = pure none := am_miss_of_fast (by decide +kernel)
structure Zst (z TI TO i1 i2 l1 l2 : Addr) (B : Nat) (xs ys : Array Value) (i : Nat) (h : Heap) : Prop where
  ti : IsPair h TI (.ref i1) (.ref i2)
  a1 : h.IsListIter i1 l1 i
  a2 : h.IsListIter i2 l2 i
  b1 : h.IsList l1 xs
  b2 : h.IsList l2 ys
  z : (IsZip h z TI TO .none ∧ ∃ a b, IsPair h TO a b) ∨ ∃ (T : Addr) (f : Bool) (oT : Obj), IsZipHeld h z TI TO T f ∧ h.get? T = some oT ∧ B ≤ T
section
variable {prog : Program} {w : World} {A : Around} {E : Value → Shared → Prop} {s : Shared} {z TI TO i1 i2 l1 l2 S : Addr} {B : Nat} {xs ys : Array Value}
theorem Zst.frame {i : Nat} {h h' : Heap} (Z : Zst z TI TO i1 i2 l1 l2 B xs ys i h) (n : ∀ b, b = z ∨ b = TI ∨ b = TO ∨ b = i1 ∨ b = i2 ∨ b = l1 ∨ b = l2 ∨ B ≤ b → b ≠ S) (k : ∀ b o, b ≠ S → h.get? b = some o → h'.get? b = some o) : Zst z TI TO i1 i2 l1 l2 B xs ys i h' := by
  refine ⟨k _ _ (n _ (by simp)) Z.ti, Z.a1.at fun o e => k _ o (n _ (by simp)) e, Z.a2.at fun o e => k _ o (n _ (by simp)) e, Z.b1.at fun o e => k _ o (n _ (by simp)) e, Z.b2.at fun o e => k _ o (n _ (by simp)) e, ?_⟩
  rcases Z.z with ⟨hz, a, b, hTO⟩ | ⟨T, f, oT, hz, hT, hB⟩
  · exact .inl ⟨k _ _ (n _ (by simp)) hz, a, b, k _ _ (n _ (by simp)) hTO⟩
  · exact .inr ⟨T, f, oT, k _ _ (n _ (by simp)) hz, k _ _ (n _ (by simp [hB])) hT, hB⟩
theorem far {B b T : Nat} (h1 : b < B) (h2 : B ≤ T) : T ≠ b := by omega
theorem zip_step (D : ZipApart z TI TO i1 i2 l1 l2) (lt : z < B ∧ TI < B ∧ TO < B ∧ i1 < B ∧ i2 < B ∧ l1 < B ∧ l2 < B) {i : Nat} (Z : Zst z TI TO i1 i2 l1 l2 B xs ys i s.heap) (hB : B ≤ s.heap.objs.size) {x y : Value} (hx : xs[i]? = some x) (hy : ys[i]? = some y)
    {Q : Option Value → Shared → Prop} (hQ : ∀ h', IsPair h' s.heap.objs.size x y → Zst z TI TO i1 i2 l1 l2 B xs ys (i + 1) h' → h'.objs.size = s.heap.objs.size + 1 → (∀ c o, c ≠ z → c ≠ TO → c ≠ i1 → c ≠ i2 → s.heap.get? c = some o → h'.get? c = some o) → Q (some (.ref s.heap.objs.size)) { s with heap := h' }) :
    wpAny (model prog w) A (pyNext (.ref z)) Q E s := by
  obtain ⟨lz, lTI, lTO, li1, li2, ll1, ll2⟩ := lt
  rcases Z.z with ⟨hz, a, b, hTO⟩ | ⟨T, f, oT, hz, hT, hT2⟩
  · refine wpAny_pyNext_zip_item D hz Z.ti hTO Z.a1 Z.a2 Z.b1 Z.b2 hx hy fun h' a1 a2 a3 a4 a5 a6 hk => ?_
    exact hQ h' a5 ⟨hk _ _ D.TIz D.TITO D.TIi1 D.TIi2 Z.ti, a3, a4, Z.b1.at fun o e => hk _ o D.l1z D.l1TO D.l1i1 D.l1i2 e, Z.b2.at fun o e => hk _ o D.l2z D.l2TO D.l2i1 D.l2i2 e, .inr ⟨_, false, _, a1, a5, hB⟩⟩ a6 hk
  · refine wpAny_pyNext_zip_item_held D hz hT Z.ti Z.a1 Z.a2 Z.b1 Z.b2 hx hy fun h' a1 a3 a4 a5 a6 hk => ?_
    exact hQ h' a5 ⟨hk _ _ D.TIz D.TIi1 D.TIi2 Z.ti, a3, a4, Z.b1.at fun o e => hk _ o D.l1z D.l1i1 D.l1i2 e, Z.b2.at fun o e => hk _ o D.l2z D.l2i1 D.l2i2 e, .inr ⟨T, true, oT, a1, hk _ _ (far lz hT2) (far li1 hT2) (far li2 hT2) hT, hT2⟩⟩ a6 fun c o c1 _ c3 c4 e => hk c o c1 c3 c4 e
/-- what the list has so far -/
def Pairs (B : Nat) (xs ys acc : Array Value) (h : Heap) : Prop := (∀ (j : Nat) (x y : Value), j < acc.size → xs[j]? = some x → ys[j]? = some y → ∃ T : Addr, acc[j]? = some (Value.ref T) ∧ B ≤ T ∧ IsPair h T x y) ∧ (∀ (j : Nat) (v : Value), acc[j]? = some v → ∃ T : Addr, v = Value.ref T ∧ B ≤ T ∧ T < h.objs.size) ∧ acc.toList.Nodup
theorem zip_loop {R : Result → Shared → Prop} (hh : A.handled = none) (D : ZipApart z TI TO i1 i2 l1 l2) (lt : z < B ∧ TI < B ∧ TO < B ∧ i1 < B ∧ i2 < B ∧ l1 < B ∧ l2 < B) (hS : ∀ b, b = z ∨ b = TI ∨ b = TO ∨ b = i1 ∨ b = i2 ∨ b = l1 ∨ b = l2 ∨ B ≤ b → b ≠ S) (hxy : xs.size = ys.size) (hn : xs.size ≤ 1000) :
    ∀ (k i : Nat) (s : Shared) (acc : Array Value) (c : Nat), xs.size - i = k → i ≤ xs.size → acc.size = i → B ≤ s.heap.objs.size → Zst z TI TO i1 i2 l1 l2 B xs ys i s.heap → s.heap.get? S = some { cls := .type "list", dict := none, data := .seq acc c, slots := #[] } → Pairs B xs ys acc s.heap →
      (∀ h' acc' c', (∀ b o, b ≠ z → b ≠ TO → b ≠ i1 → b ≠ i2 → b ≠ S → s.heap.get? b = some o → h'.get? b = some o) → h'.get? S = some { cls := .type "list", dict := none, data := .seq acc' c', slots := #[] } → acc'.size = xs.size → Pairs B xs ys acc' h' → R (.ok (.ret .none)) { s with heap := h' }) →
      codeAny (model prog w) A (.builtin "list.extend.loop" ⟨[.ref S, .ref z, .none], []⟩) R s := by
  intro k
  induction k with
  | zero =>
    intro i s acc c hk hi ha hB Z hl P hR
    have hin : i = xs.size := by omega
    subst hin
    refine codeAny_builtin F.entry_extend_loop ?_
    rw [Around.under_plainId F.plain_extend_loop _]
    show wpAny _ A.in1 (pyNext (.ref z) >>= _) _ _ s
    have hend : xs[xs.size]? = none ∨ ys[xs.size]? = none := .inl (Array.getElem?_eq_none (Nat.le_refl _))
    have fin : ∀ h', (∀ c o, c ≠ z → c ≠ TO → c ≠ i1 → c ≠ i2 → s.heap.get? c = some o → h'.get? c = some o) → R (.ok (.ret .none)) { s with heap := h' } := fun h' hk => by
      refine hR h' acc c (fun b o b1 b2 b3 b4 _ e => hk b o b1 b2 b3 b4 e) (hk _ _ (hS z (by simp)).symm (hS TO (by simp)).symm (hS i1 (by simp)).symm (hS i2 (by simp)).symm hl) ha ⟨fun j x y hj hx hy => ?_, fun j v hv => ?_, P.2.2⟩
      · obtain ⟨T, e1, e2, e3⟩ := P.1 j x y hj hx hy
        obtain ⟨lz, _, lTO, li1, li2, _⟩ := lt
        exact ⟨T, e1, e2, hk _ _ (far lz e2) (far lTO e2) (far li1 e2) (far li2 e2) e3⟩
      · obtain ⟨T, e1, e2, e3⟩ := P.2.1 j v hv
        refine ⟨T, e1, e2, ?_⟩
        have hj : j < acc.size := (Array.getElem?_eq_some_iff.mp hv).1
        have hjx : j < xs.size := by omega
        have hjy : j < ys.size := by omega
        obtain ⟨T', q1, q2, q3⟩ := P.1 j _ _ hj (Array.getElem?_eq_getElem hjx) (Array.getElem?_eq_getElem hjy)
        rw [hv, e1] at q1
        cases q1
        obtain ⟨lz, _, lTO, li1, li2, _⟩ := lt
        exact Heap.lt_size (hk _ _ (far lz q2) (far lTO q2) (far li1 q2) (far li2 q2) q3)
    rcases Z.z with ⟨hz, a, b, hTO⟩ | ⟨T, f, oT, hz, hT, hT2⟩
    · exact wpAny_bind (wpAny_pyNext_zip_end hh D hz Z.ti hTO Z.a1 Z.a2 Z.b1 Z.b2 hend fun h' hk => wpAny_pure (fin h' hk))
    · exact wpAny_bind (wpAny_pyNext_zip_end_held hh D hz hT Z.ti Z.a1 Z.a2 Z.b1 Z.b2 hend fun h' hk => wpAny_pure (fin h' fun c o c1 _ c3 c4 e => hk c o c1 c3 c4 e))
  | succ k ih =>
    intro i s acc c hk hi ha hB Z hl P hR
    have hix : i < xs.size := by omega
    have hiy : i < ys.size := by omega
    refine codeAny_builtin F.entry_extend_loop ?_
    rw [Around.under_plainId F.plain_extend_loop _]
    show wpAny _ A.in1 (pyNext (.ref z) >>= _) _ _ s
    refine wpAny_bind (zip_step D lt Z hB (Array.getElem?_eq_getElem hix) (Array.getElem?_eq_getElem hiy) fun h' e5 Z' e6 hk' => ?_)
    have hS' := hk' _ _ (hS z (by simp)).symm (hS TO (by simp)).symm (hS i1 (by simp)).symm (hS i2 (by simp)).symm hl
    show wpAny _ A.in1 (updateSeq S (·.push (.ref s.heap.objs.size)) >>= _) _ _ _
    refine wpAny_bind ?_
    have oth : ∀ b o, b ≠ S → h'.get? b = some o → (h'.update S (Obj.mapSeq (·.push (Value.ref s.heap.objs.size)))).get? b = some o := fun b o hb e => (Heap.get?_update_other _ _ (Ne.symm hb)).trans e
    have usz : (h'.update S (Obj.mapSeq (·.push (Value.ref s.heap.objs.size)))).objs.size = h'.objs.size := Heap.size_update ..
    obtain ⟨lz, _, lTO, li1, li2, _⟩ := lt
    refine wpAny_updateSeq hS' rfl (wpAny_pure ⟨plainId_quiet F.plain_extend_loop _, ih (i + 1) _ (acc.push (.ref s.heap.objs.size)) _ (by omega) (by omega) (by rw [Array.size_push, ha]) ?_ (Z'.frame hS oth) (Heap.get?_update_self _ hS' rfl) ⟨fun j x y hj hx hy => ?_, fun j v hv => ?_, ?_⟩ fun h'' acc' c' hm hl' hz' P' => ?_⟩) ?_ ?_
    · show B ≤ (h'.update S _).objs.size
      rw [usz, e6]
      omega
    · rw [Array.size_push] at hj
      by_cases hji : j = i
      · subst hji
        rw [Array.getElem?_eq_getElem hix] at hx
        rw [Array.getElem?_eq_getElem hiy] at hy
        cases hx
        cases hy
        refine ⟨s.heap.objs.size, ?_, hB, oth _ _ (hS _ (by simp [hB])) e5⟩
        rw [← ha]
        exact Array.getElem?_push_size
      · have hj' : j < acc.size := by omega
        obtain ⟨T, q1, q2, q3⟩ := P.1 j x y hj' hx hy
        refine ⟨T, ?_, q2, oth _ _ (hS T (by simp [q2])) (hk' _ _ (far lz q2) (far lTO q2) (far li1 q2) (far li2 q2) q3)⟩
        rw [Array.getElem?_push_lt hj']
        rw [Array.getElem?_eq_getElem hj'] at q1
        exact q1
    · have hj : j < acc.size + 1 := by
        have := (Array.getElem?_eq_some_iff.mp hv).1
        rw [Array.size_push] at this
        exact this
      show ∃ T, v = Value.ref T ∧ B ≤ T ∧ T < (h'.update S _).objs.size
      by_cases hji : j = acc.size
      · subst hji
        rw [Array.getElem?_push_size] at hv
        cases hv
        exact ⟨s.heap.objs.size, rfl, hB, by rw [usz, e6]; exact Nat.lt_succ_self _⟩
      · rw [Array.getElem?_push_lt (by omega)] at hv
        obtain ⟨T, q1, q2, q3⟩ := P.2.1 j v (by rw [Array.getElem?_eq_getElem (by omega)]; exact hv)
        exact ⟨T, q1, q2, by rw [usz, e6]; exact Nat.lt_succ_of_lt q3⟩
    · rw [Array.toList_push]
      refine List.nodup_append.mpr ⟨P.2.2, by simp, fun a ha' b hb => ?_⟩
      cases List.mem_singleton.mp hb
      intro e
      subst e
      obtain ⟨j, hj⟩ := List.mem_iff_getElem?.mp ha'
      rw [Array.getElem?_toList] at hj
      obtain ⟨T, q1, q2, q3⟩ := P.2.1 j _ hj
      cases q1
      exact Nat.lt_irrefl _ q3
    · refine hR h'' acc' c' (fun b o b1 b2 b3 b4 b5 e => ?_) hl' hz' P'
      exact hm b o b1 b2 b3 b4 b5 (oth b o b5 (hk' b o b1 b2 b3 b4 e))
    · rw [ha]
      exact Nat.le_of_lt (small1000 (by omega))
    · show (acc.push _).size ≤ sizeLine + 1
      rw [Array.size_push, ha]
      exact Nat.le_of_lt (Nat.lt_succ_of_lt (small1000 (by omega)))
end
section
variable {prog : Program} {w : World} {A : Around} {E : Value → Shared → Prop} {s : Shared} {l1 l2 : Nat} {N : Nat} {xs ys : Array Value}
theorem al {a b : Nat} (h : a < b) : a < b := h
theorem nl {a b : Nat} (h : a < b) : a ≠ b := Nat.ne_of_lt h
theorem ng {a b : Nat} (h : b < a) : a ≠ b := Nat.ne_of_gt h
theorem call_list_zip {Q : Value → Shared → Prop} (hh : A.handled = none) (hN : s.heap.objs.size = N + 5) (h1 : l1 < N) (h2 : l2 < N) (hxy : xs.size = ys.size) (hn : xs.size ≤ 1000)
    (hz : IsZip s.heap (N + 4) (N + 2) (N + 3) .none) (hTI : IsPair s.heap (N + 2) (.ref N) (.ref (N + 1))) (hTO : IsPair s.heap (N + 3) .none .none) (ha1 : s.heap.IsListIter N l1 0) (ha2 : s.heap.IsListIter (N + 1) l2 0) (hl1 : s.heap.IsList l1 xs) (hl2 : s.heap.IsList l2 ys)
    (hQ : ∀ h' acc' c', (∀ b o, b < N → s.heap.get? b = some o → h'.get? b = some o) → h'.get? (N + 5) = some { cls := .type "list", dict := none, data := .seq acc' c', slots := #[] } → acc'.size = xs.size → Pairs (N + 6) xs ys acc' h' → Q (.ref (N + 5)) { s with heap := h' }) :
    wpAny (model prog w) A (call (.type "list") [.ref (N + 4)]) Q E s := by
  have h1' : (l1 : Nat) < N := h1
  have h2' : (l2 : Nat) < N := h2
  have D : ZipApart (N + 4) (N + 2) (N + 3) N (N + 1) l1 l2 := by
    exact ⟨nl (by omega), nl (by omega), nl (by omega), nl (by omega), nl (by omega), ng (by omega), ng (by omega), ng (by omega), ng (by omega), nl (by omega), nl (by omega), nl (by omega), nl (by omega), nl (by omega), nl (by omega), nl (by omega), nl (by omega), nl (by omega)⟩
  refine callType_codes (Q₁ := fun obj s₁ => obj = .ref s.heap.objs.size ∧ s₁ = { s with heap := s.heap.push { cls := .type "list", data := .seq #[] } }) F.called_list (F.typeCall_list_1 _) F.entry_list_init
    (code_list_new _ ⟨rfl, rfl⟩) fun obj s₁ h₁ => ?_
  obtain ⟨rfl, rfl⟩ := h₁
  have hS : (s.heap.push { cls := .type "list", data := .seq #[] }).get? s.heap.objs.size = some { cls := .type "list", data := .seq #[] } := Heap.get?_push_size _ rfl
  refine ⟨⟨_, hS, rfl⟩, F.args_list_init_2 _ _, ?_⟩
  rw [hN] at hS ⊢
  show wpAny _ A.in1.in1 (do let old ← Builtin.List.listItems (.ref (N + 5)); Builtin.List.listUpdate (.ref (N + 5)) (fun _ => #[]); letGo old.toList.reverse; Builtin.List.listExtendWith (.ref (N + 5)) (.ref (N + 4)) .none) _ _ _
  refine wpAny_bind ?_
  unfold Builtin.List.listItems
  refine wpAny_bind (wpAny_seqItems hS rfl (wpAny_pure ?_))
  show wpAny _ A.in1.in1 (updateSeq (N + 5) (fun _ => #[]) >>= fun _ => letGo (#[] : Array Value).toList.reverse >>= fun _ => Builtin.List.listExtendWith (.ref (N + 5)) (.ref (N + 4)) .none) _ _ _
  refine wpAny_bind (wpAny_updateSeq hS rfl ?_)
  have hS2 := Heap.get?_update_self (Obj.mapSeq (fun _ => (#[] : Array Value))) hS rfl
  refine wpAny_bind (wpAny_letGo ?_)
  unfold Builtin.List.listExtendWith
  have up : ∀ (h : Heap) (f : Obj → Obj), (∀ b o, b ≠ N + 5 → s.heap.get? b = some o → h.get? b = some o) → ∀ b o, b ≠ N + 5 → s.heap.get? b = some o → (h.update (N + 5) f).get? b = some o := fun h f q b o n e =>
    (Heap.get?_update_other _ _ (Ne.symm n)).trans (q b o n e)
  have k1 : ∀ b o, b ≠ N + 5 → s.heap.get? b = some o → (s.heap.push { cls := .type "list", data := .seq #[] }).get? b = some o := fun b o _ e => Heap.get?_push_of_some _ e
  have k2 := up _ (Obj.mapSeq (fun _ => (#[] : Array Value))) k1
  have zty : ∀ {h : Heap}, (∀ b o, b ≠ N + 5 → s.heap.get? b = some o → h.get? b = some o) → IsZip h (N + 4) (N + 2) (N + 3) .none := fun {h} q => q _ _ (nl (by omega)) hz
  refine wpAny_bind (wpAny_typeOf (T := "zip") ⟨_, zty k2, rfl⟩ ?_)
  have e1 : Builtin.List.listSameRef (.ref (N + 5)) (.ref (N + 4)) = false := by simp [Builtin.List.listSameRef]
  have e2 : (Value.type "zip" == Value.type "list") = false := by decide
  have e3 : (Value.type "zip" == Value.type "tuple") = false := by decide
  simp only [e1, e2, e3, Bool.or_false, Bool.false_eq_true, if_false]
  refine wpAny_bind (wpAny_pyIter_zip (zty k2) ?_)
  refine wpAny_bind (wpAny_holding ?_)
  unfold Builtin.List.listLengthHint
  refine wpAny_bind (wpAny_specialOf (T := "zip") ⟨_, zty k2, rfl⟩ zip_no_len ?_)
  show wpAny _ A.in1.in1 (specialOf (Value.ref (N + 4)) (Str.ofString "__length_hint__") >>= _) _ _ _
  refine wpAny_bind (wpAny_specialOf (T := "zip") ⟨_, zty k2, rfl⟩ zip_no_hint ?_)
  refine wpAny_pure ?_
  show wpAny _ A.in1.in1 (rule "list.extend.makes-room" >>= fun _ => Builtin.List.listTouch (.ref (N + 5)) >>= fun _ =>
    again (.builtin "list.extend.loop" ⟨[.ref (N + 5), .ref (N + 4), .none], []⟩)) _ _ _
  refine wpAny_bind (wpAny_rule ?_)
  refine wpAny_bind ?_
  show wpAny _ A.in1.in1 (updateSeq (N + 5) (·.push .none) >>= fun _ => updateSeq (N + 5) (·.pop)) _ _ _
  refine wpAny_bind (wpAny_updateSeq hS2 rfl ?_)
  have hS3 := Heap.get?_update_self (Obj.mapSeq (·.push Value.none)) hS2 rfl
  refine wpAny_updateSeq (hz := by seq_fits) hS3 rfl ?_
  have hS4 := Heap.get?_update_self (Obj.mapSeq (·.pop)) hS3 rfl
  have k4 := up _ (Obj.mapSeq (·.pop)) (up _ (Obj.mapSeq (·.push Value.none)) k2)
  refine wpAny_pure ⟨plainId_quiet F.plain_extend_loop _, ?_⟩
  refine zip_loop (A := A.in1) (B := N + 6) (S := N + 5) hh D ⟨al (by omega), al (by omega), al (by omega), al (by omega), al (by omega), al (by omega), al (by omega)⟩ (fun b hb => by
      rcases hb with rfl | rfl | rfl | rfl | rfl | rfl | rfl | hb
      · exact nl (by omega)
      · exact nl (by omega)
      · exact nl (by omega)
      · exact nl (by omega)
      · exact nl (by omega)
      · exact nl (by omega)
      · exact nl (by omega)
      · exact ng (by omega)) hxy hn xs.size 0 _ #[] _ rfl (Nat.zero_le _) rfl ?_ ?_ hS4 ⟨fun j x y hj => absurd hj (Nat.not_lt_zero _), fun j v hv => by simp at hv, by simp⟩ fun h' acc' c' hk hl hz' P => ?_
  · show N + 6 ≤ (Heap.update _ _ _).objs.size
    rw [Heap.size_update, Heap.size_update, Heap.size_update, Heap.size_push, hN]
    exact Nat.le_refl _
  · have ni : ∀ {b : Nat}, b ≤ N + 4 → b ≠ N + 5 := fun h => by omega
    exact ⟨k4 _ _ (ni (by omega)) hTI, ha1.at fun o e => k4 _ o (ni (by omega)) e, ha2.at fun o e => k4 _ o (ni (by omega)) e, hl1.at fun o e => k4 _ o (ni (by omega)) e, hl2.at fun o e => k4 _ o (ni (by omega)) e, .inl ⟨k4 _ _ (ni (by omega)) hz, _, _, k4 _ _ (ni (by omega)) hTO⟩⟩
  · exact ⟨rfl, hQ h' acc' c' (fun b o hb e => hk b o (nl (by omega)) (nl (by omega)) (nl (by omega)) (nl (by omega)) (nl (by omega)) (k4 b o (nl (by omega)) e)) hl hz' P⟩
end
/-! ### as an expression -/
theorem look_of : ∀ {Ts : List Addr} {ps : List (V × V)} {j : Nat} {T : Addr} {p : V × V}, Ts.Nodup → Ts[j]? = some T → ps[j]? = some p → (Ts.zip ps).lookup T = some p
  | [], _, _, _, _, _, h, _ => by simp at h
  | _ :: _, [], _, _, _, _, _, h => by simp at h
  | t :: ts, q :: qs, 0, T, p, _, h1, h2 => by
    simp at h1 h2
    subst h1 h2
    simp [List.lookup]
  | t :: ts, q :: qs, j + 1, T, p, nd, h1, h2 => by
    simp at h1 h2
    have ne : T ≠ t := by
      intro e
      subst e
      exact (List.nodup_cons.mp nd).1 (List.mem_of_getElem? h1)
    have ih := look_of (ps := qs) (List.nodup_cons.mp nd).2 h1 h2
    show List.lookup T ((t, q) :: ts.zip qs) = _
    rw [List.lookup_cons, show (T == t) = false by simpa using ne]
    exact ih
theorem look_at : ∀ {Ts : List Addr} {ps : List (V × V)} {T : Addr} {p : V × V}, (Ts.zip ps).lookup T = some p → ∃ j : Nat, Ts[j]? = some T ∧ ps[j]? = some p
  | [], _, _, _, h => by simp at h
  | _ :: _, [], _, _, h => by simp at h
  | t :: ts, q :: qs, T, p, h => by
    by_cases e : T = t
    · subst e
      simp [List.lookup] at h
      subst h
      exact ⟨0, rfl, rfl⟩
    · have h' : List.lookup T ((t, q) :: ts.zip qs) = some p := h
      rw [List.lookup_cons, show (T == t) = false by simpa using e] at h'
      obtain ⟨j, h1, h2⟩ := look_at (Ts := ts) (ps := qs) h'
      exact ⟨j + 1, by simpa using h1, by simpa using h2⟩
def tListZip (K : PySem.W.Frag) (ta : TA) : TE := fun σ H Q => ta σ H fun vs H1 => ∃ (a b : Addr) (xs ys : List V), vs = [.ref a, .ref b] ∧ SqL K H1 a xs ∧ SqL K H1 b ys ∧ xs.length = ys.length ∧ xs.length ≤ 1000 ∧
  ∀ (p : Addr) (Ts : List Addr) (H2 : Hp), Same H1 H2 → H2 p = some (.lst (Ts.map V.ref)) → Ts.length = xs.length → (∀ (i : Nat) (x y : V) (T : Addr), xs[i]? = some x → ys[i]? = some y → Ts[i]? = some T → H2 T = some (.tup [x, y])) → Q (.ref p) H2
theorem addrs_of : ∀ {us : List Value}, (∀ v ∈ us, ∃ T : Addr, v = .ref T) → ∃ Ts : List Addr, us = Ts.map Value.ref
  | [], _ => ⟨[], rfl⟩
  | u :: us, h => by
    obtain ⟨T, rfl⟩ := h u (List.mem_cons_self ..)
    obtain ⟨Ts, rfl⟩ := addrs_of fun v hv => h v (List.mem_cons_of_mem _ hv)
    exact ⟨T :: Ts, rfl⟩
theorem vals_refs' : ∀ Ts : List Addr, Vals (Ts.map V.ref) (Ts.map Value.ref)
  | [] => .nil
  | _ :: r => .cons rfl (vals_refs' r)
theorem vals_get : ∀ {xs : List V} {us : List Value} {j : Nat} {x : V}, Vals xs us → xs[j]? = some x → ∃ u, us[j]? = some u ∧ L2.RelV x u
  | _, _, _, _, .nil, h => by simp at h
  | _, _, 0, _, .cons r _, h => by
    simp at h
    subst h
    exact ⟨_, rfl, r⟩
  | _, _, j + 1, _, .cons _ rs, h => by
    obtain ⟨u, e, r⟩ := vals_get (j := j) rs (by simpa using h)
    exact ⟨u, by simpa using e, r⟩
section
variable {X : Cx} {e1 e2 : Expr} {ta : TA} {p p2 pos pos2 : Pos}
theorem pe_listZip (hc : X.calm = true) (hg : Gl X "list") (hm : X.mg "list" = none) (hg2 : Gl X "zip") (hm2 : X.mg "zip" = none) (ha : PA X [e1, e2] ta)
    (hs : starEach [e1, e2] X.env = (false, eval e1 X.env) :: starEach [e2] X.env := by rfl) (hpl : (backTo pos2 (starEach [e2] X.env)).any (fun q => q.1) = false := by rfl)
    (na : starEach [.Call (.Name "zip" p2) [e1, e2] [] pos2] X.env = (false, eval (.Call (.Name "zip" p2) [e1, e2] [] pos2) X.env) :: starEach [] X.env := by rfl) :
    PE X (.Call (.Name "list" p) [.Call (.Name "zip" p2) [e1, e2] [] pos2] [] pos) (tListZip X.K ta) := by
  constructor
  intro pins s σ H Q I h
  refine Call_ (ld_blt I hg hm boot_list (PyProof.Rows.callWith_type1 (args_cons ?_ na) na))
  refine Call_ (ld_blt I hg2 hm2 PyProof.Rows.boot_zip (PyProof.Rows.callWith_type1 (thn (ha.run pos2 pins s σ H _ I h) fun us s1 hu => ?_) hs hpl))
  obtain ⟨vs, H1, I1, r1, a, b, xs, ys, ex, hqx, hqy, hl, hn, q⟩ := hu
  subst ex
  obtain ⟨u1, u2, rfl, q1, q2⟩ := vals2 r1
  cases (show u1 = Value.ref a from q1)
  cases (show u2 = Value.ref b from q2)
  obtain ⟨it1, rv1, pl1, z1⟩ := I1.list hqx
  obtain ⟨it2, rv2, pl2, z2⟩ := I1.list hqy
  have m1 : it1.length = xs.length := (Paired.length rv1).symm
  have m2 : it2.length = ys.length := (Paired.length rv2).symm
  have hl1 := pl1.isList
  have hl2 := pl2.isList
  refine call_zip_2 hl1 hl2 fun h2 b1 b2 b3 b4 b5 b6 b7 => args_nil ?_
  have l1 : a < s1.heap.objs.size := by
    obtain ⟨o, e, _⟩ := hl1
    exact Heap.lt_size e
  have l2 : b < s1.heap.objs.size := by
    obtain ⟨o, e, _⟩ := hl2
    exact Heap.lt_size e
  refine call_list_zip (s := { s1 with heap := h2 }) (N := s1.heap.objs.size) (xs := it1.toArray) (ys := it2.toArray) (I1.ok.hd hc) b6 l1 l2 (by rw [List.size_toArray, List.size_toArray, m1, m2, hl]) (by rw [List.size_toArray, m1]; exact hn) b1 b2 b3 b4 b5 (hl1.at fun o e => b7 _ o e) (hl2.at fun o e => b7 _ o e) fun h' acc c' hk hS hz P => ?_
  have kk : ∀ b o, s1.heap.get? b = some o → h'.get? b = some o := fun b o e => hk b o (Heap.lt_size e) (b7 b o e)
  obtain ⟨P1, P2, P3⟩ := P
  have hacc : ∀ v ∈ acc.toList, ∃ T : Addr, v = .ref T := fun v hv => by
    obtain ⟨j, hj⟩ := List.mem_iff_getElem?.mp hv
    rw [Array.getElem?_toList] at hj
    obtain ⟨T, e, _⟩ := P2 j v hj
    exact ⟨T, e⟩
  obtain ⟨Ts, eT⟩ := addrs_of hacc
  have lT : Ts.length = xs.length := by
    have := congrArg List.length eT
    rw [List.length_map, Array.length_toList, hz, List.size_toArray, m1] at this
    exact this.symm
  have atT : ∀ {j : Nat} {T : Addr}, Ts[j]? = some T → acc[j]? = some (.ref T) := fun {j T} hj => by
    rw [← Array.getElem?_toList, eT, List.getElem?_map, hj]
    rfl
  have ndT : Ts.Nodup := by
    rw [eT] at P3
    exact (List.pairwise_map.mp P3).imp fun h e => h (by rw [e])
  have new : ∀ {j : Nat} {T : Addr}, Ts[j]? = some T → s1.heap.objs.size + 6 ≤ (T : Nat) := fun {j T} hj => by
    obtain ⟨T', e, e2, _⟩ := P2 j _ (atT hj)
    cases e
    exact e2
  generalize hN : s1.heap.objs.size = N at *
  let H2 : Hp := fun b => if b = N + 5 then some (.lst (Ts.map V.ref)) else match (Ts.zip (xs.zip ys)).lookup b with
    | some q => some (.tup [q.1, q.2])
    | none => H1 b
  have H2S : H2 (N + 5) = some (.lst (Ts.map V.ref)) := if_pos rfl
  have H2T : ∀ {j : Nat} {T : Addr} {x y : V}, Ts[j]? = some T → xs[j]? = some x → ys[j]? = some y → H2 T = some (.tup [x, y]) := fun {j T x y} h1 h2 h3 => by
    have hT := new h1
    have lk := look_of ndT h1 (show (xs.zip ys)[j]? = some (x, y) from by rw [List.getElem?_zip_eq_some]; exact ⟨h2, h3⟩)
    show (if T = N + 5 then _ else _) = _
    rw [if_neg (ng (Nat.lt_of_lt_of_le (Nat.lt_succ_self (N + 5)) hT)), lk]
  have H2o : ∀ {b : Addr}, (b : Nat) < N → H2 b = H1 b := fun {b} hb => by
    show (if b = N + 5 then _ else _) = _
    rw [if_neg (nl (Nat.lt_of_lt_of_le hb (Nat.le_add_right N 5)))]
    cases lk : (Ts.zip (xs.zip ys)).lookup b with
    | none => rfl
    | some q =>
      obtain ⟨j, h1, _⟩ := look_at lk
      exact absurd hb (Nat.not_lt.mpr (Nat.le_trans (Nat.le_add_right N 6) (new h1)))
  have old : ∀ {b : Addr} {o : HO}, H1 b = some o → (b : Nat) < N := fun {b o} e => by
    refine Classical.byContradiction fun z => ?_
    have := I1.hok.fresh (a := b) (by rw [hN]; exact Nat.le_of_not_lt z)
    rw [this] at e
    cases e
  have sm : Same H1 H2 := fun b o e => by
    rw [H2o (old e)]
    exact e
  have U : Un X.fs [] H1 H2 s1.heap h' := {
    keep := fun b o e _ _ _ => kk b o e
    slot := fun b o e _ _ _ => ⟨o.slots, kk b o e⟩
    free := fun b o e n _ => by
      rw [H2o (by rw [← hN]; exact Heap.lt_size e)]
      exact n
    there := fun b o e _ => ⟨o, kk b o e⟩
    tups := fun b xs e => sm _ _ e
    frzs := fun b o v e => sm _ _ e
    tbls := fun b ps e => ⟨#[], by rw [sm _ _ e]; simp⟩ }
  have hok : HOk X.prog X.w H2 h' := fun b o e => by
    by_cases hb : b = N + 5
    · subst hb
      rw [H2S] at e
      cases e
      refine ⟨by rw [List.length_map, lT]; exact Nat.le_of_lt (small1000 hn), acc.toList, c', ?_, ?_⟩
      · rw [eT]
        exact vals_refs' Ts
      · rw [Array.toArray_toList]
        exact hS
    · have e' : (match (Ts.zip (xs.zip ys)).lookup b with
        | some q => some (HO.tup [q.1, q.2])
        | none => H1 b) = some o := by
        have e0 : (if b = N + 5 then some (HO.lst (Ts.map V.ref)) else match (Ts.zip (xs.zip ys)).lookup b with
          | some q => some (HO.tup [q.1, q.2])
          | none => H1 b) = some o := e
        rw [if_neg hb] at e0
        exact e0
      cases lk : (Ts.zip (xs.zip ys)).lookup b with
      | some q =>
        rw [lk] at e'
        cases e'
        obtain ⟨j, h1, h2⟩ := look_at lk
        obtain ⟨x, y⟩ := q
        rw [List.getElem?_zip_eq_some] at h2
        obtain ⟨v1, w1, w2⟩ := vals_get rv1 h2.1
        obtain ⟨v2, w3, w4⟩ := vals_get rv2 h2.2
        have hj : j < acc.size := (Array.getElem?_eq_some_iff.mp (atT h1)).1
        obtain ⟨T, t1, t2, t3⟩ := P1 j v1 v2 hj (by simpa using w1) (by simpa using w3)
        rw [atT h1] at t1
        cases t1
        exact ⟨by show 2 ≤ sizeLine; decide, [v1, v2], .cons w2 (.cons w4 .nil), _, t3, rfl, _, rfl⟩
      | none =>
        rw [lk] at e'
        exact (I1.hok b o e').stay (fun c v _ z => kk c v z) (fun c hc => sm _ _ hc) fun c xs hc => sm _ _ hc
  exact ⟨.ref (N + 5), H2, I1.un (t' := s1.toks) U hok, rfl, q _ Ts H2 sm H2S lT fun i x y T h1 h2 h3 => H2T h3 h1 h2⟩
end
end Lw

set_option Elab.async false
set_option linter.all false
set_option maxRecDepth 100000
set_option maxHeartbeats 4000000
namespace Lw
open PySem PySem.Spec PyProof.Rows L2
/-! ## instances of the text's own classes, by their special methods -/
section
variable {X : Cx} {CX : CXT} {k : Nat} {f : Addr} {fd : FuncData} {ps : List Str} {sp : Sp} {E : XK} {A : Around} {pins : List (Addr × Obj)} {σ : L2.St} {H : Hp} {s : Shared} {Q : VK} {us : List Value} {vs : List V}
theorem env_sub (hf : A.frames = X.A.frames) (I : Inv X pins σ H s) : Env0 X.prog X.w X.K X.mg X.base A X.stack s H := by
  have e := I.env0
  exact ⟨by rw [hf]; exact e.frames, e.mod, e.bs, e.bsz, e.funs, e.frf, e.hok, e.bare⟩
/-- a def that is called from below the running body -/
theorem run_sub (F : FnOk X.prog X.w X.K X.mg X.base CX k f fd ps sp) (hr : Room k A) (hf : A.frames = X.A.frames) (hb : Binds X.K fd ps []) (hx : Passes CX X E) (I : Inv X pins σ H s) (r : Vals vs us) (h : sp vs H Q E) :
    wpAny (model X.prog X.w) A (call (.ref f) us) (EP X pins σ Q) X.xe s := by
  have hl : (us ++ []).length = ps.length := by
    rw [List.append_nil, ← r.length]
    exact F.len _ _ _ _ h
  have hb' := hb s us I.kIn hl
  rw [List.append_nil] at hb'
  refine wpAny_call (codeAny_mono (F.run A X.stack s H ⟨us, []⟩ us vs Q E hr (env_sub hf I) hb' r h) fun r s' hq => ?_)
  match r, hq with
  | .error e, hq => exact hx pins σ H s e s' I hq
  | .ok (.ret u), hq => exact I.after hq
  | .ok .next, hq => exact False.elim hq
  | .ok .brk, hq => exact False.elim hq
  | .ok .cont, hq => exact False.elim hq
theorem run_subG (F : FnG X.prog X.w X.K X.mg X.base CX k f fd ps sp) (hg : A.guards = some []) (hr : Room k A) (hf : A.frames = X.A.frames) (hb : Binds X.K fd ps []) (hx : Passes CX X E) (I : Inv X pins σ H s) (r : Vals vs us) (h : sp vs H Q E) :
    wpAny (model X.prog X.w) A (call (.ref f) us) (EP X pins σ Q) X.xe s := by
  have hl : (us ++ []).length = ps.length := by
    rw [List.append_nil, ← r.length]
    exact F.len _ _ _ _ h
  have hb' := hb s us I.kIn hl
  rw [List.append_nil] at hb'
  refine wpAny_call (codeAny_mono (F.run A X.stack s H ⟨us, []⟩ us vs Q E hg hr (env_sub hf I) hb' r h) fun r s' hq => ?_)
  match r, hq with
  | .error e, hq => exact hx pins σ H s e s' I hq
  | .ok (.ret u), hq => exact I.after hq
  | .ok .next, hq => exact False.elim hq
  | .ok .brk, hq => exact False.elim hq
  | .ok .cont, hq => exact False.elim hq
end
/-- a special method of the class at C -/
structure OwnS (P : Program) (w : World) (K : PySem.W.Frag) (mg : Str → Option Value) (base : Heap) (k : Nat) (C : Addr) (name : Str) (ps : List Str) (sp : Sp) (f : Addr) (fd : FuncData) : Prop where
  ok : FnOk P w K mg base CX0 k f fd ps sp
  at_ : PySem.W.findIn K (.ref C) name = some (some (.ref f))
  fn : PySem.W.isFn K (.ref f) = true
  b : Binds K fd ps []
structure OwnSG (P : Program) (w : World) (K : PySem.W.Frag) (mg : Str → Option Value) (base : Heap) (k : Nat) (C : Addr) (name : Str) (ps : List Str) (sp : Sp) (f : Addr) (fd : FuncData) : Prop where
  ok : FnG P w K mg base CX0 k f fd ps sp
  at_ : PySem.W.findIn K (.ref C) name = some (some (.ref f))
  fn : PySem.W.isFn K (.ref f) = true
  b : Binds K fd ps []
/-- len(o) -/
def rLenO (C : Addr) (sp : Sp) : List V → Hp → VK → Prop := fun xs H Q => ∃ (a dx : Addr) (fs : List (Str × V)), xs = [.ref a] ∧ H a = some (.ins C dx fs) ∧ sp [.ref a] H (fun v H' => ∃ n : Int, v = .int n ∧ 0 ≤ n ∧ n < 2 ^ 63 ∧ Q (.int n) H') E0
/-- str(o), repr(o) -/
def rStrO (C : Addr) (sp : Sp) : List V → Hp → VK → Prop := fun xs H Q => ∃ (a dx : Addr) (fs : List (Str × V)), xs = [.ref a] ∧ H a = some (.ins C dx fs) ∧ sp [.ref a] H (fun v H' => ∃ z : Str, v = .str z ∧ Q (.str z) H') E0
section
variable {X : Cx} {k : Nat} {C f : Addr} {fd : FuncData} {ps : List Str} {sp : Sp}
theorem call_lenO (S : OwnS X.prog X.w X.K X.mg X.base k C "__len__" ps sp f fd) (hr : Room (k + 1) X.A) : CallR X (.builtin "len") (rLenO C sp) := by
  intro pins s σ H xs us Q I r h
  obtain ⟨a, dx, fs, rfl, ea, hs⟩ := h
  obtain ⟨u, rfl, ru⟩ := vals1 r
  cases (show u = Value.ref a from ru)
  obtain ⟨mA, J, _⟩ := ins_get I.hok ea
  obtain ⟨od, J, _⟩ := J.look
  obtain ⟨m, hF⟩ := I.fr
  refine PySem.W.len_K hF I.ok.mod.kin J S.at_ S.fn ?_
  refine wpAny_mono (run_sub S.ok hr.in1 rfl S.b pass0 I (vs := [.ref a]) (.cons rfl .nil) hs) (fun v s' hq => ?_) fun _ _ z => z
  obtain ⟨x, H', I', rx, n, rfl, n0, n1, q⟩ := hq
  obtain ⟨t, rfl⟩ := rx
  exact ⟨⟨n0, n1⟩, .int n, H', I'.tok _, ⟨_, rfl⟩, q⟩
theorem call_strO (S : OwnS X.prog X.w X.K X.mg X.base k C "__str__" ps sp f fd) (hr : Room (k + 2) X.A) : CallR X (.type "str") (rStrO C sp) := by
  intro pins s σ H xs us Q I r h
  obtain ⟨a, dx, fs, rfl, ea, hs⟩ := h
  obtain ⟨u, rfl, ru⟩ := vals1 r
  cases (show u = Value.ref a from ru)
  obtain ⟨mA, J, _⟩ := ins_get I.hok ea
  obtain ⟨od, J, _⟩ := J.look
  refine PySem.W.kso_call hr.in1.in1.units0 I.kIn J S.at_ S.fn ?_
  refine wpAny_mono (run_sub S.ok hr.in1.in1 rfl S.b pass0 I (vs := [.ref a]) (.cons rfl .nil) hs) (fun v s' hq => ?_) fun _ _ z => z
  obtain ⟨x, H', I', rx, n, rfl, q⟩ := hq
  obtain ⟨t, rfl⟩ := rx
  exact ⟨.str n, H', I', ⟨_, rfl⟩, q⟩
theorem call_reprO (S : OwnSG X.prog X.w X.K X.mg X.base k C "__repr__" ps sp f fd) (hg : X.A.guards = some []) (hr : Room (k + 1) X.A) : CallR X (.builtin "repr") (rStrO C sp) := by
  intro pins s σ H xs us Q I r h
  obtain ⟨a, dx, fs, rfl, ea, hs⟩ := h
  obtain ⟨u, rfl, ru⟩ := vals1 r
  cases (show u = Value.ref a from ru)
  obtain ⟨mA, J, _⟩ := ins_get I.hok ea
  obtain ⟨od, J, _⟩ := J.look
  obtain ⟨m, hF⟩ := I.fr
  refine PySem.W.repr_K hr.in1.units0 hF I.ok.mod.kin J S.at_ S.fn ?_
  refine wpAny_mono (run_subG S.ok hg hr.in1 rfl S.b pass0 I (vs := [.ref a]) (.cons rfl .nil) hs) (fun v s' hq => ?_) fun _ _ z => z
  obtain ⟨x, H', I', rx, n, rfl, q⟩ := hq
  obtain ⟨t, rfl⟩ := rx
  exact ⟨.str n, H', I', ⟨_, rfl⟩, q⟩
end
/-! ### == and != -/
/-- built-in kinds of data and the class at C: neither is above the other -/
structure Apart (K : PySem.W.Frag) (C : Addr) : Prop where
  no : ∀ T ∈ (["NoneType", "bool", "int", "str", "list", "tuple", "dict"] : List String), PySem.W.subIn K (.type T) (.ref C) = some false ∧ PySem.W.mroIn K C (.type T) = some false
def apartB (K : PySem.W.Frag) (C : Addr) : Bool := (["NoneType", "bool", "int", "str", "list", "tuple", "dict"] : List String).all fun T => decide (PySem.W.subIn K (.type T) (.ref C) = some false) && decide (PySem.W.mroIn K C (.type T) = some false)
theorem apartB_ok {K : PySem.W.Frag} {C : Addr} (h : apartB K C = true) : Apart K C := ⟨fun T hT => by
  have q := List.all_eq_true.mp h T hT
  rw [Bool.and_eq_true] at q
  exact ⟨of_decide_eq_true q.1, of_decide_eq_true q.2⟩⟩
theorem tyD_mem (d : PyData) : tyD d ∈ (["NoneType", "bool", "int", "str", "list", "tuple", "dict"] : List String) := by
  cases d <;> simp [tyD]
/-- o == y -/
def rEqO (K : PySem.W.Frag) (C : Addr) (sp : Sp) : R2 := fun x y H Q => ∃ (a dx : Addr) (fs : List (Str × V)), x = .ref a ∧ H a = some (.ins C dx fs) ∧ ((∃ (b dy : Addr) (gs : List (Str × V)), y = .ref b ∧ H b = some (.ins C dy gs)) ∨ ∃ d, Dq K H y d) ∧
  sp [x, y] H (fun v H' => ∃ b, v = .bl b ∧ Q (.bl b) H') E0
/-- y == o, y no instance -/
def rEqR (K : PySem.W.Frag) (C : Addr) (sp : Sp) : R2 := fun x y H Q => ∃ (a dx : Addr) (fs : List (Str × V)) (d : PyData), y = .ref a ∧ H a = some (.ins C dx fs) ∧ Dq K H x d ∧ sp [y, x] H (fun v H' => ∃ b, v = .bl b ∧ Q (.bl b) H') E0
theorem looks_ty {X : Cx} {pins : List (Addr × Obj)} {σ : L2.St} {H : Hp} {s : Shared} {y : V} {u : Value} {d : PyData} (I : Inv X pins σ H s) (r : RelV y u) (h : Dq X.K H y d) : s.TypeIs u (tyD d) := by
  cases h with
  | non => cases r; rfl
  | bl b => cases r; rfl
  | int i => obtain ⟨t, rfl⟩ := r; rfl
  | str z => obtain ⟨t, rfl⟩ := r; rfl
  | lst h g =>
    cases r
    obtain ⟨its, rv, ⟨o, n, ho, hc, _, hd⟩, _⟩ := I.list h
    exact ⟨o, ho, hc⟩
  | tup h g =>
    cases r
    obtain ⟨its, rv, ⟨o, ho, hc, n, hd⟩, _⟩ := I.tuple h
    exact ⟨o, ho, hc⟩
  | dic h =>
    cases r
    obtain ⟨o, es, ep, e1, e2, e3, e4, e5⟩ := dict0 I h
    exact ⟨o, e1, e2⟩
  | dct h ne g =>
    rename_i a kvs' ds'
    cases r
    obtain ⟨_, h1, vs, kv, o, es, ep, e1, e2, e3, _, e5, _⟩ := (show ObjOk X.prog X.w H s.heap a (.dK kvs') from I.hok a _ h)
    exact ⟨o, e1, e2.1⟩

theorem looks_of {M : Model} {s : Shared} {u : Value} {T : String} (h : s.TypeIs u T) : PySem.W.Looks M s.heap (typeOf u) (.type T) := by
  intro A Q E s' k q
  cases u with
  | ref a =>
    obtain ⟨o, ho, hc⟩ := h
    exact wpAny_typeOf_ref (k _ _ ho) (by rw [hc]; exact q)
  | _ => exact wpAny_of_eq h q
section
variable {X : Cx} {k : Nat} {C f : Addr} {fd : FuncData} {ps : List Str} {sp : Sp}
theorem op_eqO (S : OwnS X.prog X.w X.K X.mg X.base k C "__eq__" ps sp f fd) (AP : Apart X.K C) (hr : Room k X.A) : OpR X (compareOp .Eq) (rEqO X.K C sp) := by
  intro pins s σ H x y v u Q I rx ry h
  obtain ⟨a, dx, fs, rfl, ea, hy, hs⟩ := h
  cases (show v = Value.ref a from rx)
  obtain ⟨mA, J, _⟩ := ins_get I.hok ea
  obtain ⟨od, J, _⟩ := J.look
  obtain ⟨m, hF⟩ := I.fr
  have tb : ∃ tb, PySem.W.Looks (model X.prog X.w) s.heap (typeOf u) tb ∧ PySem.W.notFirst X.K C tb = true := by
    rcases hy with ⟨b, dy, gs, rfl, eb⟩ | ⟨d, hd⟩
    · cases (show u = Value.ref b from ry)
      obtain ⟨mB, J', _⟩ := ins_get I.hok eb
      obtain ⟨od', J', _⟩ := J'.look
      exact ⟨.ref C, J'.type, by simp [PySem.W.notFirst]⟩
    · refine ⟨.type (tyD d), looks_of (looks_ty I ry hd), ?_⟩
      unfold PySem.W.notFirst
      rw [(AP.no _ (tyD_mem d)).1]
      simp
  obtain ⟨tb, h1, h2⟩ := tb
  show wpAny (model X.prog X.w) X.A (richCompare .Eq (.ref a) u) (EP X pins σ Q) X.xe s
  refine PySem.W.cmp_K (op := .Eq) hr.units0 hF I.ok.mod.kin J h1 h2 S.at_ S.fn ?_
  refine wpAny_mono (run_sub S.ok hr rfl S.b pass0 I (vs := [.ref a, y]) (.cons rfl (.cons ry .nil)) hs) (fun v s' hq => ?_) fun _ _ z => z
  obtain ⟨x, H', I', rx, b, rfl, q⟩ := hq
  cases (show v = Value.bool b from rx)
  exact ⟨.bl b, H', I', rfl, q⟩
end
end Lw

set_option Elab.async false
set_option linter.all false
set_option maxRecDepth 100000
set_option maxHeartbeats 4000000
namespace Lw
open PySem PySem.Spec PyProof.Rows L2
section
open PySem.SeqAt
variable {prog : Program} {w : World} {A : Around} {E : Value → Shared → Prop} {s : Shared} {x C : Addr} {ox : Obj} {od : Option Obj} {K : PySem.W.Frag}
/-- the built-in == of data does not know an instance -/
theorem declines_prim {i : Int} {u : Tok} (hx : s.heap.get? x = some ox) (hp : ox.data = .plain) {Q : Fin → Shared → Prop} (q : Q (.done (.ret .notImplemented)) s) : wpAny (model prog w) A (Builtin.«int.__eq__» ⟨[.int i u, .ref x], []⟩) Q E s := by
  obtain ⟨hh, g, d, tk, os⟩ := s
  wp_walk using wpAny_load hx
  simp only [hp]
  wp_walk
  exact q
theorem declines_bool {b : Bool} (hx : s.heap.get? x = some ox) (hp : ox.data = .plain) {Q : Fin → Shared → Prop} (q : Q (.done (.ret .notImplemented)) s) : wpAny (model prog w) A (Builtin.«int.__eq__» ⟨[.bool b, .ref x], []⟩) Q E s := by
  obtain ⟨hh, g, d, tk, os⟩ := s
  wp_walk using wpAny_load hx
  simp only [hp]
  wp_walk
  exact q
theorem declines_str {z : Str} {u : Tok} (hx : s.heap.get? x = some ox) (hp : ox.data = .plain) {Q : Fin → Shared → Prop} (q : Q (.done (.ret .notImplemented)) s) : wpAny (model prog w) A (Builtin.«str.__eq__» ⟨[.str z u, .ref x], []⟩) Q E s := by
  obtain ⟨hh, g, d, tk, os⟩ := s
  wp_walk using wpAny_load hx
  simp only [hp]
  wp_walk
  exact q
theorem declines_none {Q : Fin → Shared → Prop} (q : Q (.done (.ret .notImplemented)) s) : wpAny (model prog w) A (Builtin.«NoneType.__eq__» ⟨[.none, .ref x], []⟩) Q E s := by
  obtain ⟨hh, g, d, tk, os⟩ := s
  wp_walk
  exact q
theorem declines_list {l : Addr} (hi : PySem.W.Looks (model prog w) s.heap (isInstance (.ref x) (.type "list")) false) {Q : Fin → Shared → Prop} (q : Q (.done (.ret .notImplemented)) s) : wpAny (model prog w) A (Builtin.«list.__eq__» ⟨[.ref l, .ref x], []⟩) Q E s := by
  unfold Builtin.«list.__eq__»
  refine wpAny_bind (m := slotArgs "__eq__" 1 _) (wpAny_pure ?_)
  refine wpAny_bind (hi.here ?_)
  exact wpAny_pure q
theorem declines_tuple {l : Addr} (hi : PySem.W.Looks (model prog w) s.heap (isInstance (.ref x) (.type "tuple")) false) {Q : Fin → Shared → Prop} (q : Q (.done (.ret .notImplemented)) s) : wpAny (model prog w) A (Builtin.«tuple.__eq__» ⟨[.ref l, .ref x], []⟩) Q E s := by
  unfold Builtin.«tuple.__eq__»
  refine wpAny_bind (m := slotArgs "__eq__" 1 _) (wpAny_pure ?_)
  refine wpAny_bind (hi.here ?_)
  exact wpAny_pure q
theorem declines_dict {l : Addr} (hi : PySem.W.Looks (model prog w) s.heap (isInstance (.ref x) (.type "dict")) false) {Q : Fin → Shared → Prop} (q : Q (.done (.ret .notImplemented)) s) : wpAny (model prog w) A (Builtin.«dict.__eq__» ⟨[.ref l, .ref x], []⟩) Q E s := by
  unfold Builtin.«dict.__eq__»
  refine wpAny_bind (m := Builtin.Dict.dictSlotArgs "__eq__" _) (wpAny_pure ?_)
  refine wpAny_bind (hi.here ?_)
  refine wpAny_bind (wpAny_rule ?_)
  exact wpAny_pure q
end

/-- the data of an instance -/
theorem ins_plain {P : Program} {w : World} {H : Hp} {h : Heap} {a C dx : Addr} {fs : List (Str × V)} (hok : HOk P w H h) (e : H a = some (.ins C dx fs)) : ∃ ox, h.get? a = some ox ∧ ox.data = .plain := by
  obtain ⟨mA, J, _⟩ := ins_get hok e
  exact ⟨_, J.obj, rfl⟩
section
open PySem.SeqAt
variable {X : Cx} {k : Nat} {C f : Addr} {fd : FuncData} {ps : List Str} {sp : Sp} {A : Around} {E : Value → Shared → Prop}
theorem first_declines {pins : List (Addr × Obj)} {σ : L2.St} {H : Hp} {s : Shared} {y : V} {u : Value} {d : PyData} {a dx : Addr} {fs : List (Str × V)} (AP : Apart X.K C) (I : Inv X pins σ H s) (r : RelV y u) (h : Dq X.K H y d) (ea : H a = some (.ins C dx fs)) {Q : Option Value → Shared → Prop} (q : Q none s) :
    wpAny (model X.prog X.w) A (tryCompare u "__eq__" (.ref a)) Q E s := by
  obtain ⟨ox, ho, hp⟩ := ins_plain I.hok ea
  obtain ⟨mA, J, _⟩ := ins_get I.hok ea
  obtain ⟨od, J, _⟩ := J.look
  have hi : ∀ T, PySem.W.mroIn X.K C (.type T) = some false → PySem.W.Looks (model X.prog X.w) s.heap (isInstance (.ref a) (.type T)) false := fun T e => J.type.andThen (PySem.W.looks_mroIn I.kIn e)
  have ty := looks_ty I r h
  cases h with
  | non =>
    cases (show u = Value.none from r)
    exact wpAny_tryCompare_declines ty F.slot_NoneType_eq (GQ.call_here F.slot_NoneType_eq ty F.entry_NoneType_eq (F.args_NoneType_eq_2 _ _) (declines_none ⟨rfl, q⟩))
  | bl b =>
    cases (show u = Value.bool b from r)
    exact wpAny_tryCompare_declines ty F.slot_bool_eq (GQ.call_here F.slot_bool_eq ty F.entry_int_eq (F.args_int_eq_2 _ _) (declines_bool ho hp ⟨rfl, q⟩))
  | int i =>
    obtain ⟨t, rfl⟩ := r
    exact wpAny_tryCompare_declines ty F.slot_int_eq (GQ.call_here F.slot_int_eq ty F.entry_int_eq (F.args_int_eq_2 _ _) (declines_prim ho hp ⟨rfl, q⟩))
  | str z =>
    obtain ⟨t, rfl⟩ := r
    exact wpAny_tryCompare_declines ty F.slot_str_eq (GQ.call_here F.slot_str_eq ty F.entry_str_eq (F.args_str_eq_2 _ _) (declines_str ho hp ⟨rfl, q⟩))
  | lst h g =>
    rename_i l _ _
    cases (show u = Value.ref l from r)
    exact wpAny_tryCompare_declines ty F.slot_list_eq (GQ.call_here F.slot_list_eq ty F.entry_list_eq (F.args_list_eq_2 _ _) (declines_list (hi _ (AP.no "list" (by simp)).2) ⟨rfl, q⟩))
  | tup h g =>
    rename_i l _ _
    cases (show u = Value.ref l from r)
    exact wpAny_tryCompare_declines ty F.slot_tuple_eq (GQ.call_here F.slot_tuple_eq ty F.entry_tuple_eq (F.args_tuple_eq_2 _ _) (declines_tuple (hi _ (AP.no "tuple" (by simp)).2) ⟨rfl, q⟩))
  | dic h =>
    rename_i l
    cases (show u = Value.ref l from r)
    exact wpAny_tryCompare_declines ty F.slot_dict_eq (GQ.call_here F.slot_dict_eq ty F.entry_dict_eq (F.args_dict_eq_2 _ _) (declines_dict (hi _ (AP.no "dict" (by simp)).2) ⟨rfl, q⟩))
  | dct h ne g =>
    rename_i l _ _
    cases (show u = Value.ref l from r)
    exact wpAny_tryCompare_declines ty F.slot_dict_eq (GQ.call_here F.slot_dict_eq ty F.entry_dict_eq (F.args_dict_eq_2 _ _) (declines_dict (hi _ (AP.no "dict" (by simp)).2) ⟨rfl, q⟩))
theorem op_eqR (S : OwnS X.prog X.w X.K X.mg X.base k C "__eq__" ps sp f fd) (AP : Apart X.K C) (hr : Room k X.A) : OpR X (compareOp .Eq) (rEqR X.K C sp) := by
  intro pins s σ H x y v u Q I rx ry h
  obtain ⟨a, dx, fs, d, rfl, ea, hd, hs⟩ := h
  cases (show u = Value.ref a from ry)
  obtain ⟨mA, J, _⟩ := ins_get I.hok ea
  obtain ⟨od, J, _⟩ := J.look
  have ty := looks_ty I rx hd
  show wpAny (model X.prog X.w) X.A (richCompare .Eq v (.ref a)) (EP X pins σ Q) X.xe s
  rcases hi : cmpInfo CmpOp.Eq with ⟨sym, f1, r1⟩
  cases hi
  simp only [richCompare, cmpInfo, ty.oneThing_none]
  refine wpAny_holding (wpAny_bind (wpAny_cRoomFor hr.units0 ?_))
  refine wpAny_bind (wpAny_typeOf ty (wpAny_bind (J.type.here ?_)))
  have ne : (Value.type (tyD d) != Value.ref C) = true := rfl
  simp only [ne, if_true]
  refine wpAny_bind ((PySem.W.looks_mroIn I.kIn (AP.no _ (tyD_mem d)).2).here ?_)
  simp only [Bool.false_eq_true, if_false, Bool.not_false, if_true]
  refine wpAny_bind (first_declines AP I rx hd ea ?_)
  refine wpAny_bind ?_
  unfold tryCompare
  refine wpAny_bind (PySem.W.ifBound_K I.kIn J S.at_ S.fn ?_)
  refine wpAny_mono (run_sub S.ok hr rfl S.b pass0 I (vs := [.ref a, x]) (.cons rfl (.cons rx .nil)) hs) (fun v s' hq => ?_) fun _ _ z => z
  obtain ⟨x, H', I', rx, b, rfl, q⟩ := hq
  cases (show v = Value.bool b from rx)
  exact wpAny_pure (wpAny_pure ⟨.bl b, H', I', rfl, q⟩)
/-- o != y -/
def rNeO (K : PySem.W.Frag) (C : Addr) (sp : Sp) : R2 := fun x y H Q => ∃ (a dx : Addr) (fs : List (Str × V)), x = .ref a ∧ H a = some (.ins C dx fs) ∧ ((∃ (b dy : Addr) (gs : List (Str × V)), y = .ref b ∧ H b = some (.ins C dy gs)) ∨ ∃ d, Dq K H y d) ∧
  sp [x, y] H (fun v H' => ∃ b, v = .bl b ∧ Q (.bl (!b)) H') E0
/-- no own != -/
structure NoNe (K : PySem.W.Frag) (C : Addr) : Prop where
  ne : PySem.W.findIn K (.ref C) "__ne__" = some (some (.builtin "object.__ne__"))
  ob : PySem.W.mroIn K C (.type "object") = some true
theorem op_neO (S : OwnS X.prog X.w X.K X.mg X.base k C "__eq__" ps sp f fd) (AP : Apart X.K C) (NN : NoNe X.K C) (hr : Room (k + 1) X.A) : OpR X (compareOp .NotEq) (rNeO X.K C sp) := by
  intro pins s σ H x y v u Q I rx ry h
  obtain ⟨a, dx, fs, rfl, ea, hy, hs⟩ := h
  cases (show v = Value.ref a from rx)
  obtain ⟨mA, J, _⟩ := ins_get I.hok ea
  obtain ⟨od, J, _⟩ := J.look
  have tb : ∃ tb, PySem.W.Looks (model X.prog X.w) s.heap (typeOf u) tb ∧ PySem.W.notFirst X.K C tb = true := by
    rcases hy with ⟨b, dy, gs, rfl, eb⟩ | ⟨d, hd⟩
    · cases (show u = Value.ref b from ry)
      obtain ⟨mB, J', _⟩ := ins_get I.hok eb
      obtain ⟨od', J', _⟩ := J'.look
      exact ⟨.ref C, J'.type, by simp [PySem.W.notFirst]⟩
    · refine ⟨.type (tyD d), looks_of (looks_ty I ry hd), ?_⟩
      unfold PySem.W.notFirst
      rw [(AP.no _ (tyD_mem d)).1]
      simp
  obtain ⟨tb, h1, h2⟩ := tb
  have one : wpAny (model X.prog X.w) X.A (tryCompare (.ref a) "__ne__" u) (fun r s' => ∃ b : Bool, r = some (.bool b) ∧ EP X pins σ Q (.bool b) s') X.xe s := by
    unfold tryCompare
    simp only [callSpecialIfBound?, bindSpecialIfBound?]
    refine wpAny_bind (wpAny_holding (wpAny_bind (wpAny_bind (wpAny_bind (J.type.here ((PySem.W.looks_findIn I.kIn NN.ne).here ?_))))))
    refine wpAny_bind (wpAny_askSetting (wpAny_ite ?_))
    have fin : ∀ R : Option Value → Shared → Prop, (∀ (b : Bool) s', EP X pins σ Q (.bool b) s' → R (some (.bool b)) s') → wpAny (model X.prog X.w) X.A (call (.builtin "object.__ne__") ([.ref a] ++ [u]) >>= fun v => pure (some v)) R X.xe s := by
      intro R hR
      refine wpAny_bind (wpAny_call (codeAny_call_builtin F.slot_object_ne.plain F.entry_object_ne (PySem.W.check_slot (i := "object.__ne__") (owner := "object") (n := "__ne__") (by decide +kernel) (by decide +kernel) (J.type.andThen (PySem.W.looks_mroIn I.kIn NN.ob)) (F.cmpArgs_ne _ _) ?_)))
      unfold Builtin.«object.__ne__»
      refine wpAny_bind (m := slotArgs "__ne__" 1 _) (wpAny_pure ?_)
      refine wpAny_bind (wpAny_cRoomFor hr.in1.units0 ?_)
      refine wpAny_bind (PySem.W.ifBound_K I.kIn J S.at_ S.fn ?_)
      refine wpAny_mono (run_sub S.ok hr.in1 rfl S.b pass0 I (vs := [.ref a, y]) (.cons rfl (.cons ry .nil)) hs) (fun v s' hq => ?_) fun _ _ z => z
      obtain ⟨x, H', I', rx, b, rfl, q⟩ := hq
      cases (show v = Value.bool b from rx)
      refine wpAny_bind (wpAny_truthy_bool ?_)
      exact wpAny_pure (wpAny_pure (hR _ _ ⟨.bl (!b), H', I', rfl, q⟩))
    split
    · exact wpAny_bind ((PySem.W.Looks.of_pure (F.slot_object_ne.bind _)).here (wpAny_pure (fin _ fun b s' h => wpAny_pure ⟨b, rfl, h⟩)))
    · exact wpAny_tryCatch (wpAny_bind ((PySem.W.Looks.of_pure (F.slot_object_ne.bind _)).here (wpAny_pure (fin _ fun b s' h => wpAny_pure ⟨b, rfl, h⟩))))
  show wpAny (model X.prog X.w) X.A (richCompare .NotEq (.ref a) u) (EP X pins σ Q) X.xe s
  unfold richCompare
  simp only [oneThing_ref]
  refine wpAny_holding (wpAny_bind (wpAny_cRoomFor hr.units0 ?_))
  refine wpAny_bind (J.type.here (wpAny_bind (h1.here ?_)))
  split
  · rename_i q
    have e : PySem.W.subIn X.K tb (.ref C) = some false := by
      rcases Bool.or_eq_true_iff.mp h2 with e | e
      · rw [beq_iff_eq.mp e] at q
        simp at q
      · exact beq_iff_eq.mp e
    refine wpAny_bind ((PySem.W.looks_subIn I.kIn e).here ?_)
    simp only [Bool.false_eq_true, if_false]
    refine wpAny_bind (wpAny_mono one (fun r s' z => ?_) fun _ _ e => e)
    obtain ⟨b, rfl, hq⟩ := z
    exact wpAny_pure hq
  · refine wpAny_bind (wpAny_pure ?_)
    simp only [Bool.false_eq_true, if_false]
    refine wpAny_bind (wpAny_mono one (fun r s' z => ?_) fun _ _ e => e)
    obtain ⟨b, rfl, hq⟩ := z
    exact wpAny_pure hq
end
end Lw

set_option Elab.async false
set_option linter.all false
set_option maxRecDepth 100000
set_option maxHeartbeats 4000000
namespace Lw
open PySem PySem.Spec PyProof.Rows L2
/-! ## enumerate of a tuple -/
section
open AutoSeq1 (wpAny_loadPart')
set_option maxHeartbeats 1000000 in
theorem meets_enumT {v : Value} {o : Obj} {H : Heap → Prop} (B : Begins v o H) :
    Meets (Builtin.«enumerate.__new__» ⟨[.type "enumerate", v], []⟩) (fun _ R s => H s.heap ∧
      R (.ok (.ret (.ref (s.heap.push o).objs.size))) { s with heap := (s.heap.push o).push { cls := .type "enumerate", data := .fields #[.none, .bool false, .ref s.heap.objs.size, rawInt 0, .none, .none] } }) :=
  .of_wp fun prog w A R s h => by
    obtain ⟨hp, g, d, tk, os⟩ := s; obtain ⟨h1, h⟩ := h
    have hsub := sub_enumerate
    have q1 : ∀ {A' : Around} {E : Value → Shared → Prop} {Q : Value → Shared → Prop}, Q (.ref hp.objs.size) ⟨hp.push o, g, d, tk, os⟩ → wpAny (model prog w) A' (pyIter v) Q E ⟨hp, g, d, tk, os⟩ :=
      fun q => B.iter prog w _ _ ⟨hp, g, d, tk, os⟩ _ h1 q
    wp_walk using q1
    refine wpAny_stack_any fun st => wpAny_pure ?_
    split
    · rename_i c _ _ _ _ _
      cases (c == Value.type "enumerate")
      · wp_walk using q1
        exact ⟨_, rfl, h⟩
      · wp_walk using q1
        exact ⟨_, rfl, h⟩
    · wp_walk using q1
      exact ⟨_, rfl, h⟩
end
section
variable {prog : Program} {w : World} {A : Around} {E : Value → Shared → Prop} {s : Shared}
theorem call_enumB {v : Value} {o : Obj} {H : Heap → Prop} {Q : Value → Shared → Prop} (B : Begins v o H) (h1 : H s.heap)
    (h : ∀ h', IsEnum h' (s.heap.objs.size + 1) s.heap.objs.size 0 .none → h'.get? s.heap.objs.size = some o → h'.objs.size = s.heap.objs.size + 2 →
      (∀ b o, s.heap.get? b = some o → h'.get? b = some o) → Q (.ref (s.heap.objs.size + 1)) { s with heap := h' }) :
    wpAny (model prog w) A (call (.type "enumerate") [v]) Q E s := by
  refine callType_new F.called_enumerate (by decide) (F.typeCall_enumerate_1 _) (F.newCall_enumerate_1 _) (fun obj => F.args_object_init_2 obj _) F.entry_enumerate_new
    (meets_enumT B) ⟨h1, ?_⟩
  have hz : (s.heap.push o).objs.size = s.heap.objs.size + 1 := Heap.size_push ..
  show _ ∧ _
  rw [hz]
  have he : IsEnum ((s.heap.push o).push { cls := .type "enumerate", data := .fields #[.none, .bool false, .ref s.heap.objs.size, rawInt 0, .none, .none] }) (s.heap.objs.size + 1) s.heap.objs.size 0 .none := by
    have := Heap.get?_push_size (s.heap.push o) (o := { cls := .type "enumerate", data := .fields #[.none, .bool false, .ref s.heap.objs.size, rawInt 0, .none, .none] }) rfl
    rw [hz] at this; exact this
  refine ⟨⟨_, he, rfl⟩, h _ he (Heap.get?_push_of_some _ (Heap.get?_push_size _ B.free)) (by rw [Heap.size_push, hz]) fun b o x => Heap.get?_push_of_some _ (Heap.get?_push_of_some _ x)⟩
end
/-- the tuple at a, each item in a new pair -/
def IteT (K : PySem.W.Frag) (a : Addr) : It :=
  ⟨fun i H => ∃ (xs : List V) (x : V), SqT K H a xs ∧ xs[i]? = some x, fun i H v H' => ∃ T x, v = .ref T ∧ H T = none ∧ H' = upd H T (.tup [.int (i : Nat), x]) ∧ ∀ xs, SqT K H a xs → xs[i]? = some x, fun i H => ∃ xs : List V, SqT K H a xs ∧ xs.length = i⟩
theorem turn_enumT {P : Program} {w : World} {K : PySem.W.Frag} {elts : List Expr} {kk : Nat} {tpos : Pos} (a e it : Addr) (hea : e ≠ a) (hia : a ≠ it) :
    Turn P w K (.Tuple elts kk tpos) (IteT K a) [e, it] e (fun i h => (∃ old, IsEnum h e it ((i : Nat) : Int) old) ∧ h.IsTupleIter it a i ∧ e ≠ it) where
  mem := by simp
  obj := fun i h st b hb => by
    obtain ⟨⟨old, he⟩, ⟨o, ho, hc, hd⟩, _⟩ := st
    have e' : b = e ∨ b = it := by simpa using hb
    rcases e' with z | z
    · rw [z]; exact ⟨_, he, fun v q => nomatch q⟩
    · rw [z]; exact ⟨o, ho, fun v q => by rw [hd] at q; cases q⟩
  keep := fun i h h' st k => let ⟨⟨old, he⟩, hi, hne⟩ := st; ⟨⟨old, k e (by simp) _ he⟩, hi.at fun o q => k it (by simp) o q, hne⟩
  item := by
    intro X hP hw hK hc i pins s σ H E I hf st hg
    subst hP hw hK
    obtain ⟨⟨old, he⟩, hit, hne⟩ := st
    obtain ⟨xs, x, hq, hx⟩ := hg
    obtain ⟨its, rv, p, hz⟩ := I.tuple hq
    obtain ⟨u, hu, ru⟩ := rv.get hx
    have hel : e < s.heap.objs.size := Heap.lt_size he
    have hil : it < s.heap.objs.size := by obtain ⟨_, q, _⟩ := hit; exact Heap.lt_size q
    have hlt : i < its.toArray.size := by
      have := (List.getElem?_eq_some_iff.mp hu).1
      simpa using this
    refine wpAny_pyNext_enum_itemD (Draws.tuple (prog := X.prog) (w := X.w) (A := X.A.in1) (I.ok.hd hc) it a hia its.toArray) he ⟨hit, p⟩ hlt hne (by simp [hne, hea]) fun y h' tk hy ho st' hT hsz hk => ?_
    have hyu : y = u := by
      have h2 : its[i]? = some y := by simpa using hy
      rw [hu] at h2
      exact (Option.some.inj h2).symm
    subst hyu
    refine ⟨_, rfl, wpAny_letOwnedTupleGo_enum (s := { s with heap := h', toks := tk + 1 }) ho fun h'' he' sb => ?_⟩
    have hT2 : h''.get? s.heap.objs.size = some { cls := .type "tuple", data := .seq #[.int i tk, y] } := (sb.2 _ (Nat.ne_of_gt hel)).trans hT
    have new : ObjOk X.prog X.w (upd H s.heap.objs.size (.tup [.int (i : Nat), x])) h'' s.heap.objs.size (.tup [.int (i : Nat), x]) :=
      ⟨by show 2 ≤ sizeLine; decide, [.int i tk, y], .cons ⟨_, rfl⟩ (.cons ru .nil), ⟨_, hT2, rfl, _, rfl⟩⟩
    have I1 : Inv X pins σ (upd H s.heap.objs.size (.tup [.int (i : Nat), x])) { s with heap := h'', toks := tk + 1 } :=
      I.turnedNew (ch := [e, it]) (fun b ob hb q => (sb.2 b (fun z => hb (by simp [z]))).trans (hk b ob (fun z => hb (by simp [z])) (fun z => hb (by simp [z])) q)) hf (Nat.le_refl _) new
    refine ⟨.ref s.heap.objs.size, _, I1, rfl, ⟨_, x, rfl, I.hok.fresh (Nat.le_refl _), rfl, fun ys hy => by rw [I.tuple_inj hy hq]; exact hx⟩, ⟨⟨y, ?_⟩, st'.1.at fun o q => (sb.2 it (Ne.symm hne)).trans q, hne⟩, fun b hb => ?_⟩
    · have e1 : ((i + 1 : Nat) : Int) = (i : Int) + 1 := by omega
      rw [e1]; exact he'
    · have hb' : b < s.heap.objs.size := by
        have e' : b = e ∨ b = it := by simpa using hb
        rcases e' with z | z
        · rw [z]; exact hel
        · rw [z]; exact hil
      rw [upd_ne (Nat.ne_of_lt hb')]
      exact (hf b hb).1
  done := by
    intro X hP hw hK hc i pins s σ H E I hf st hg
    subst hP hw hK
    obtain ⟨⟨old, he⟩, hit, hne⟩ := st
    obtain ⟨xs, hq, hx⟩ := hg
    obtain ⟨its, rv, p, hz⟩ := I.tuple hq
    obtain ⟨f0, f1, f2, f3, f4, f5⟩ := hf it (by simp)
    have hl := rv.length
    have hn : i = its.toArray.size := by
      simp
      omega
    refine wpAny_pyNext_enum_endD (Draws.tuple (prog := X.prog) (w := X.w) (A := X.A.in1) (I.ok.hd hc) it a hia its.toArray) he (by rw [← hn]; exact ⟨hit, p⟩) fun h' eb => ⟨rfl, I.turned (t' := s.toks) (fun b o hb q => eb b o hb q) f0 f1 f3 f4 f5⟩
  self := fun A i s Q E st h => let ⟨⟨_, he⟩, _⟩ := st; wpAny_pyIter_enum he h
/-- a list (false) or a tuple (true) -/
def SqB (K : PySem.W.Frag) (b : Bool) (H : Hp) (a : Addr) (xs : List V) : Prop := match b with
  | true => SqT K H a xs
  | false => SqL K H a xs
theorem SqB.any {K : PySem.W.Frag} {b : Bool} {H : Hp} {a : Addr} {xs : List V} (h : SqB K b H a xs) : SqL K H a xs ∨ SqT K H a xs := by
  cases b
  · exact .inl h
  · exact .inr h
theorem SqB.same {K : PySem.W.Frag} {b : Bool} {H H' : Hp} {a : Addr} {xs : List V} (s : Same H H') (h : SqB K b H a xs) : SqB K b H' a xs := by
  cases b
  · exact s.seq h
  · exact same_t s h
def IteB (K : PySem.W.Frag) (b : Bool) (a : Addr) : It := match b with
  | true => IteT K a
  | false => Ite K a
def iEnumB (K : PySem.W.Frag) (ta : TA) : TI := fun σ H R => ta σ H fun vs H1 => ∃ b a xs, vs = [.ref a] ∧ SqB K b H1 a xs ∧ R (IteB K b a) H1
theorem pi_enumB {X : Cx} {e : Expr} {ta : TA} {p pos tpos : Pos} {elts : List Expr} {kk : Nat} (hg : Gl X "enumerate") (hm : X.mg "enumerate" = none) (ha : PA X [e] ta) (hs : starEach [e] X.env = [(false, eval e X.env)] := by rfl) :
    PI X (.Tuple elts kk tpos) (.Call (.Name "enumerate" p) [e] [] pos) (iEnumB X.K ta) := by
  refine ⟨fun pins s σ H R I h => ?_⟩
  refine Call_ (ld_blt I hg hm boot_enumerate (PyProof.Rows.callWith_type1 (thn (ha.run pos pins s σ H _ I h) fun us s1 ⟨vs, H1, I1, r1, q1⟩ => ?_) hs rfl))
  obtain ⟨b, a, xs, ex, hq, q⟩ := q1
  subst ex
  cases r1 with
  | cons r rr =>
    cases rr
    cases r
    cases b with
    | false =>
      obtain ⟨its, rv, p', hz⟩ := I1.list hq
      refine call_enumerate_list p'.isList fun h' he hit hsz hk => wpAny_pyIter_enum he ?_
      have I2 : Inv X pins σ H1 { s1 with heap := h' } := I1.kept (t' := s1.toks) hk
      refine ⟨s1.heap.objs.size + 1, [s1.heap.objs.size + 1, s1.heap.objs.size], _, _, H1, rfl, I2, turn_enum a (s1.heap.objs.size + 1) s1.heap.objs.size, ⟨⟨.none, he⟩, hit, Nat.succ_ne_self _⟩, fun b hb => ?_, q⟩
      have e' : b = s1.heap.objs.size + 1 ∨ b = s1.heap.objs.size := by simpa using hb
      have hle : s1.heap.objs.size ≤ b := by
        rcases e' with z | z
        · rw [z]; exact Nat.le_add_right _ _
        · rw [z]; exact Nat.le_refl _
      exact I1.fpOk hle (I1.hok.fresh hle)
    | true =>
      obtain ⟨its, rv, p', hz⟩ := I1.tuple hq
      have al : a < s1.heap.objs.size := by
        obtain ⟨o, ho, _⟩ := p'
        exact Heap.lt_size ho
      refine call_enumB (begins_tuple a its.toArray) p' fun h' he hit hsz hk => wpAny_pyIter_enum he ?_
      have I2 : Inv X pins σ H1 { s1 with heap := h' } := I1.kept (t' := s1.toks) hk
      refine ⟨s1.heap.objs.size + 1, [s1.heap.objs.size + 1, s1.heap.objs.size], _, _, H1, rfl, I2, turn_enumT a (s1.heap.objs.size + 1) s1.heap.objs.size (Nat.ne_of_gt (Nat.lt_succ_of_lt al)) (Nat.ne_of_lt al), ⟨⟨.none, he⟩, ⟨_, hit, rfl, rfl⟩, Nat.succ_ne_self _⟩, fun b hb => ?_, q⟩
      have e' : b = s1.heap.objs.size + 1 ∨ b = s1.heap.objs.size := by simpa using hb
      have hle : s1.heap.objs.size ≤ b := by
        rcases e' with z | z
        · rw [z]; exact Nat.le_add_right _ _
        · rw [z]; exact Nat.le_refl _
      exact I1.fpOk hle (I1.hok.fresh hle)
theorem walk_enumB {K : PySem.W.Frag} {b : Bool} {a : Addr} {xs : List V} : Walk (IteB K b a) xs.length (fun H => SqB K b H a xs) (YPair (fun i => some (.int (i : Nat))) (fun i => xs[i]?)) := by
  cases b with
  | false => exact walk_enum
  | true =>
    refine ⟨fun i _ hi q => ⟨xs, xs[i], q, by simp [hi]⟩, fun _ q => ⟨xs, q, rfl⟩, fun i H v H' _ q y => ?_⟩
    obtain ⟨T, x, h1, h2, h3, h4⟩ := y
    exact ⟨T, .int (i : Nat), x, h1, h2, h3, rfl, h4 xs q⟩
/-- a slice of a list or of a tuple -/
def rSlB (K : PySem.W.Frag) : V → Option Int → Option Int → Hp → VK → Prop := fun x lo hi H Q => rSlL K x lo hi H Q ∨ rSlT K x lo hi H Q
theorem sl_both {X : Cx} : SlR X (rSlB X.K) := by
  intro pins s σ H x v vl vu lo hi sl Q I rx hs pl pu h
  rcases h with h | h
  · exact sl_list pins s σ H x v vl vu lo hi sl Q I rx hs pl pu h
  · exact sl_tup pins s σ H x v vl vu lo hi sl Q I rx hs pl pu h
/-! ## {x!r} of data -/
def tFmtD (K : PySem.W.Frag) (te : TE) : TE := fun σ H Q => te σ H fun v H1 => ∃ (a : Addr) (d : PyData), v = .ref a ∧ Dq K H1 v d ∧ d.showable = true ∧ d.shown.length ≤ sizeLine ∧ d.depth ≤ 60 ∧ Q (.str d.shown) H1
theorem pe_fmtD {X : Cx} {e : Expr} {te : TE} {pos : Pos} (B : SysOk X.base) (hg : X.A.guards = some []) (hu : X.A.units + 64 < cLine) (he : PE X e te) : PE X (.FormattedValue e 114 none pos) (tFmtD X.K te) := by
  refine ⟨fun pins s σ H Q I h => ?_⟩
  refine wpAny_FormattedValue_repr (thn (he.run pins s σ H _ I h) fun v s1 hv => ?_)
  obtain ⟨x, H1, I1, r1, a, d, rfl, hd, hs, hz, hp, q⟩ := hv
  cases (show v = Value.ref a from r1)
  obtain ⟨as, rr, ns⟩ := Dq.reads B I1 d _ _ hd rfl
  refine pyReprObj_of_reads rr hs (fun _ => ns) hg (by omega) (fun _ _ e => e) ?_ hz
  intro h' u tk hk
  exact wpAny_formatField_str ⟨.str _, H1, I1.kept hk, ⟨_, rfl⟩, q⟩ ⟨.str _, H1, (I1.kept hk).tok _, ⟨_, rfl⟩, q⟩ hz
end Lw

set_option Elab.async false
set_option linter.all false
set_option maxRecDepth 100000
set_option maxHeartbeats 4000000
namespace Lw
open PySem PySem.Spec PyProof.Rows L2
/-! ## kinds of data -/
def isS : PyData → Bool
  | .str _ => true
  | _ => false
def isT : PyData → Bool
  | .tuple _ => true
  | _ => false
def isL : PyData → Bool
  | .list _ => true
  | _ => false
def isDc : PyData → Bool
  | .dict _ => true
  | _ => false
def isI : PyData → Bool
  | .int _ => true
  | .bool _ => true
  | _ => false
def isB : PyData → Bool
  | .bool _ => true
  | _ => false
theorem kit_str (d : PyData) : kitB (tyD d) "str" = some (isS d) := by
  cases d
  all_goals
    simp only [tyD, isS]
    decide +kernel
theorem kit_tuple (d : PyData) : kitB (tyD d) "tuple" = some (isT d) := by
  cases d
  all_goals
    simp only [tyD, isT]
    decide +kernel
theorem kit_list (d : PyData) : kitB (tyD d) "list" = some (isL d) := by
  cases d
  all_goals
    simp only [tyD, isL]
    decide +kernel
theorem kit_dict (d : PyData) : kitB (tyD d) "dict" = some (isDc d) := by
  cases d
  all_goals
    simp only [tyD, isDc]
    decide +kernel
theorem kit_int (d : PyData) : kitB (tyD d) "int" = some (isI d) := by
  cases d
  all_goals
    simp only [tyD, isI]
    decide +kernel
theorem kit_bool (d : PyData) : kitB (tyD d) "bool" = some (isB d) := by
  cases d
  all_goals
    simp only [tyD, isB]
    decide +kernel
def intD (d : PyData) : Bool := isI d && !isB d
theorem intD_int {d : PyData} (h : intD d = true) : ∃ i, d = .int i := by
  cases d with
  | int i => exact ⟨i, rfl⟩
  | _ => cases h
def sp_int (K : PySem.W.Frag) : Sp := fun vs H Q _ => ∃ (v : V) (d : PyData), vs = [v] ∧ Dq K H v d ∧ Q (.bl (intD d)) H
theorem take_map {ds : List PyData} {i : Nat} {d : PyData} {g : PyData → Bool} (h : ds[i]? = some d) : ((ds.take (i + 1)).map g) = ((ds.take i).map g) ++ [g d] := by
  rw [List.take_add_one, h, List.map_append]
  rfl
/-! ## names -/
def abc : Str := "abcdefghijklmnopqrstuvwxyz"
theorem abc_len : abc.length = 26 := by decide +kernel
theorem abc_bytes : ∀ c ∈ abc.cps.toList, c < 256 := by decide +kernel
def nameB (z : Str) : Bool := (decide ((1 : Int) ≤ (z.length : Int)) && decide ((z.length : Int) ≤ 8)) && z.cps.toList.all fun c => decide (c ∈ abc.cps.toList)
def nameD : PyData → Bool
  | .str z => nameB z
  | _ => false
def Short (d : PyData) : Prop := ∀ z, d = .str z → z.length ≤ 1000
def sp_name (K : PySem.W.Frag) : Sp := fun vs H Q _ => ∃ (v : V) (d : PyData), vs = [v] ∧ Dq K H v d ∧ Short d ∧ ∀ H', Same H H' → Q (.bl (nameD d)) H'
theorem map_take {z : Str} {i : Nat} {c : Nat} {g : Nat → Bool} (h : z.cps[i]? = some c) : ((z.cps.toList.take (i + 1)).map g) = ((z.cps.toList.take i).map g) ++ [g c] := by
  have e : z.cps.toList[i]? = some c := by
    rw [Array.getElem?_toList]
    exact h
  rw [List.take_add_one, e, List.map_append]
  rfl
theorem all_id {l : List Nat} {g : Nat → Bool} : (l.map g).all id = l.all g := by
  rw [List.all_map]
  rfl
theorem name_len {z : Str} (h : nameB z = true) : 1 ≤ z.length ∧ z.length ≤ 8 := by
  unfold nameB at h
  simp only [Bool.and_eq_true, decide_eq_true_eq] at h
  omega
theorem name_abc {z : Str} (h : nameB z = true) : ∀ c ∈ z.cps.toList, c ∈ abc.cps.toList := by
  unfold nameB at h
  simp only [Bool.and_eq_true, List.all_eq_true, decide_eq_true_eq] at h
  exact h.2
theorem name_bytes {z : Str} (h : nameB z = true) : Bytes z := fun c hc => abc_bytes c (name_abc h c hc)
/-! ## the first wrong name -/
def fwGo : List Str → List PyData → Nat → Option Nat
  | _, [], _ => none
  | seen, .str z :: r, i => if nameB z && !seen.contains z then fwGo (seen ++ [z]) r (i + 1) else some i
  | _, _ :: _, i => some i
def fwL (ds : List PyData) : Option Int := if 1 ≤ ds.length ∧ ds.length ≤ 12 then (fwGo [] ds 0).map Int.ofNat else some (-1)
def fwD : PyData → Option Int
  | .list ds => fwL ds
  | .tuple ds => fwL ds
  | _ => some (-1)
def fwV (d : PyData) : V := match fwD d with
  | none => .non
  | some i => .int i
theorem fwGo_bad {seen : List Str} {d : PyData} {r : List PyData} {i : Nat} (h : nameD d = false) : fwGo seen (d :: r) i = some i := by
  cases d with
  | str z =>
    have h' : nameB z = false := h
    simp [fwGo, h']
  | _ => rfl
theorem fwGo_in {seen : List Str} {z : Str} {r : List PyData} {i : Nat} (h : z ∈ seen) : fwGo seen (.str z :: r) i = some i := by
  have : seen.contains z = true := by simpa using h
  unfold fwGo
  rw [this, if_neg (by simp)]
theorem fwGo_ok {seen : List Str} {z : Str} {r : List PyData} {i : Nat} (h1 : nameB z = true) (h2 : z ∉ seen) : fwGo seen (.str z :: r) i = fwGo (seen ++ [z]) r (i + 1) := by
  have : seen.contains z = false := by simpa using h2
  conv => lhs; unfold fwGo
  rw [this, h1]
  exact if_pos rfl
/-- fields of a sheet -/
structure Nms (ns : List Str) : Prop where
  lo : 1 ≤ ns.length
  hi : ns.length ≤ 12
  nd : ns.Nodup
  nm : ∀ z ∈ ns, nameB z = true
theorem fwGo_none : ∀ {ds : List PyData} {seen : List Str} {i : Nat}, fwGo seen ds i = none → seen.Nodup → (∀ z ∈ seen, nameB z = true) → ∃ ns : List Str, ds = ns.map PyData.str ∧ (seen ++ ns).Nodup ∧ ∀ z ∈ seen ++ ns, nameB z = true
  | [], seen, i, _, h1, h2 => ⟨[], rfl, by simpa using h1, by simpa using h2⟩
  | d :: r, seen, i, h, h1, h2 => by
    cases e : nameD d with
    | false =>
      rw [fwGo_bad e] at h
      cases h
    | true =>
      cases d with
      | str z =>
        have e' : nameB z = true := e
        by_cases hz : z ∈ seen
        · rw [fwGo_in hz] at h
          cases h
        · rw [fwGo_ok e' hz] at h
          obtain ⟨ns, q1, q2, q3⟩ := fwGo_none h (by
            rw [List.nodup_append]
            refine ⟨h1, by simp, fun a ha b hb => ?_⟩
            cases List.mem_singleton.mp hb
            exact fun q => hz (q ▸ ha)) (fun y hy => by
            rcases List.mem_append.mp hy with hy | hy
            · exact h2 y hy
            · cases List.mem_singleton.mp hy
              exact e')
          refine ⟨z :: ns, by rw [q1]; rfl, ?_, ?_⟩
          · rw [List.append_assoc] at q2
            exact q2
          · rw [List.append_assoc] at q3
            exact q3
      | _ => cases e
theorem fwL_none {ds : List PyData} (h : fwL ds = none) : ∃ ns : List Str, ds = ns.map PyData.str ∧ Nms ns := by
  unfold fwL at h
  split at h
  · rename_i hl
    have h' : fwGo [] ds 0 = none := by
      cases e : fwGo [] ds 0 with
      | none => rfl
      | some i =>
        rw [e] at h
        cases h
    obtain ⟨ns, q1, q2, q3⟩ := fwGo_none h' List.nodup_nil (fun z hz => nomatch hz)
    refine ⟨ns, q1, ?_, ?_, q2, q3⟩
    · rw [q1, List.length_map] at hl
      exact hl.1
    · rw [q1, List.length_map] at hl
      exact hl.2
  · cases h
theorem fwGo_names : ∀ {ns seen : List Str} {i : Nat}, (seen ++ ns).Nodup → (∀ z ∈ ns, nameB z = true) → fwGo seen (ns.map PyData.str) i = none
  | [], _, _, _, _ => rfl
  | z :: r, seen, i, h1, h2 => by
    have hz : z ∉ seen := fun q => by
      rw [List.nodup_append] at h1
      exact h1.2.2 z q z List.mem_cons_self rfl
    show fwGo seen (.str z :: r.map PyData.str) i = none
    rw [fwGo_ok (h2 z List.mem_cons_self) hz]
    refine fwGo_names ?_ fun y hy => h2 y (List.mem_cons_of_mem _ hy)
    rw [List.append_assoc]
    exact h1
theorem fwL_names {ns : List Str} (h : Nms ns) : fwL (ns.map PyData.str) = none := by
  unfold fwL
  rw [if_pos (by rw [List.length_map]; exact ⟨h.lo, h.hi⟩), fwGo_names (seen := []) h.nd h.nm]
  rfl
/-- data that may be handed to a sheet -/
def Sh (d : PyData) : Prop := (∀ ds, d = .list ds ∨ d = .tuple ds → ds.length ≤ 900 ∧ ∀ x ∈ ds, Short x)
def sp_fwn (K : PySem.W.Frag) : Sp := fun vs H Q _ => ∃ (v : V) (d : PyData), vs = [v, .int 12] ∧ Dq K H v d ∧ Sh d ∧ ∀ H', Same H H' → Q (fwV d) H'
def sp_fwd (K : PySem.W.Frag) : Sp := fun vs H Q _ => ∃ (v : V) (d : PyData), vs = [v] ∧ Dq K H v d ∧ Sh d ∧ ∀ H', Same H H' → Q (fwV d) H'
theorem dq_strs {K : PySem.W.Frag} {H : Hp} : ∀ {vs : List V} {ns : List Str}, DqAll K H vs (ns.map PyData.str) → vs = ns.map V.str
  | [], [], _ => rfl
  | _, [], h => by cases h; rfl
  | _, n :: ns, h => by
    cases h with
    | cons h g =>
      cases h
      rw [dq_strs g]
      rfl
theorem strs_dq {K : PySem.W.Frag} {H : Hp} : ∀ ns : List Str, DqAll K H (ns.map V.str) (ns.map PyData.str)
  | [] => .nil
  | n :: ns => .cons (.str n) (strs_dq ns)
theorem flat_strs (ns : List Str) : (ns.map V.str).all flatV = true := by
  rw [List.all_map, List.all_eq_true]
  intro z _
  rfl
theorem in_strs {z : Str} {ns : List Str} : inV (.str z) (ns.map V.str) = decide (z ∈ ns) := by
  unfold inV
  rw [List.any_map]
  by_cases h : z ∈ ns
  · rw [decide_eq_true h, List.any_eq_true]
    exact ⟨z, h, by simp [eqV]⟩
  · rw [decide_eq_false h, List.any_eq_false]
    intro y hy
    have : y ≠ z := fun q => h (q ▸ hy)
    simp [eqV, this]
/-! ## sheets -/
def ShAt (K : PySem.W.Frag) (C : Addr) (H : Hp) (a : Addr) (ns : List Str) : Prop := ∃ dx t, H a = some (.ins C dx [("listed", .ref t)]) ∧ SqT K H t (ns.map V.str) ∧ Nms ns
theorem ShAt.same {K : PySem.W.Frag} {C : Addr} {H H' : Hp} {a : Addr} {ns : List Str} (h : ShAt K C H a ns) (s : Same H H') : ShAt K C H' a ns := by
  obtain ⟨dx, t, h1, h2, h3⟩ := h
  exact ⟨dx, t, s _ _ h1, same_t s h2, h3⟩
/-- an exception with one field that is a number leaves -/
def OutI (f : Str) (C : Addr) (H : Hp) (n : Int) (E : XK) : Prop := ∀ dx H', Same H H' → H dx = none → H' dx = some (.xd [(f, .int n)]) → E (.ref C) (some dx) H'
theorem OutI.later {f : Str} {C : Addr} {H H1 : Hp} {n : Int} {E : XK} (o : OutI f C H n E) (s : Same H H1) : OutI f C H1 n E := fun dx H' s' nd hd => o dx H' (s.trans s') (s.free nd) hd
def sp_iniI (f : Str) (C : Addr) : Sp := fun vs H Q _ => ∃ (a : Addr) (v : V), vs = [.ref a, v] ∧ H a = some (exo a C none) ∧ ∀ dx, H dx = none → dx ≠ a → Q .non (upd (upd H dx (exd dx [(f, v)])) a (exo a C (some dx)))
theorem raise_I {f : Str} {C : Addr} {H : Hp} {n : Int} {E : XK} (o : OutI f C H n E) : [V.int n].length ≤ 1000 ∧ ∀ a, H a = none → sp_iniI f C (.ref a :: ([.int n] ++ [])) (upd H a (exo a C none))
    (fun u H2 => u = .non ∧ ∃ (dd : Addr) (fs : List (Str × V)), H2 a = some (exo a C (some dd)) ∧ H2 dd = some (exd dd fs) ∧ H dd = none ∧ E (.ref C) (some dd) (upd (del H2 a) dd (.xd fs))) (fun _ _ _ => False) := by
  refine ⟨by show 1 ≤ 1000; decide, fun a na => ⟨a, .int n, rfl, upd_same, fun dx nd ne => ⟨rfl, dx, [(f, .int n)], upd_same, ?_, ?_, ?_⟩⟩⟩
  · rw [upd_ne ne, upd_same]
  · exact (same_upd na).free nd
  · have nHd : H dx = none := (same_upd na).free nd
    refine o dx _ (fun b x e => ?_) nHd upd_same
    have ba : b ≠ a := ne_of_none e na
    have bd : b ≠ dx := ne_of_none e nHd
    rw [upd_ne bd, del_ne ba, upd_ne ba, upd_ne bd, upd_ne ba]
    exact e
/-- an exception with the value leaves -/
def OutV (K : PySem.W.Frag) (C : Addr) (H : Hp) (d : PyData) (E : XK) : Prop := ∀ v' dx H', Same H H' → H dx = none → H' dx = some (.xd [("value", v')]) → Fresh K H H' v' d → E (.ref C) (some dx) H'
def sp_iniV (K : PySem.W.Frag) (C : Addr) (n : Nat) : Sp := fun vs H Q _ => ∃ (a : Addr) (v : V) (d : PyData), vs = [.ref a, v] ∧ H a = some (exo a C none) ∧ Dq K H v d ∧ d.depth ≤ n ∧ slim d = true ∧
  ∀ v' H' dx, Same H H' → Fresh K H H' v' d → H' dx = none → dx ≠ a → Q .non (upd (upd H' dx (exd dx [("value", v')])) a (exo a C (some dx)))
theorem raise_V {K : PySem.W.Frag} {C : Addr} {n : Nat} {H : Hp} {v : V} {d : PyData} {E : XK} (hd : Dq K H v d) (hdp : d.depth ≤ n) (hsl : slim d = true) (o : OutV K C H d E) : [v].length ≤ 1000 ∧ ∀ a, H a = none → sp_iniV K C n (.ref a :: ([v] ++ [])) (upd H a (exo a C none))
    (fun u H2 => u = .non ∧ ∃ (dd : Addr) (fs : List (Str × V)), H2 a = some (exo a C (some dd)) ∧ H2 dd = some (exd dd fs) ∧ H dd = none ∧ E (.ref C) (some dd) (upd (del H2 a) dd (.xd fs))) (fun _ _ _ => False) := by
  refine ⟨by show 1 ≤ 1000; decide, fun a na => ⟨a, v, d, rfl, upd_same, hd.same (same_upd na), hdp, hsl, fun v' H' dx s' fr nd ne => ⟨rfl, dx, [("value", v')], upd_same, ?_, ?_, ?_⟩⟩⟩
  · rw [upd_ne ne, upd_same]
  · exact (same_upd na).free (s'.free nd)
  · have nHd : H dx = none := (same_upd na).free (s'.free nd)
    refine o v' dx _ (fun b x e => ?_) nHd upd_same (Dq.same (nw_mono (fun b e => (same_upd na).free e) fun b x h1 h2 => ?_) fr)
    · have ba : b ≠ a := ne_of_none e na
      have bd : b ≠ dx := ne_of_none e nHd
      rw [upd_ne bd, del_ne ba, upd_ne ba, upd_ne bd]
      exact s' _ _ (same_upd na _ _ e)
    · have ba : b ≠ a := fun e => by
        rw [e, upd_same] at h1
        cases h1
      have bd : b ≠ dx := ne_of_none h2 nd
      rw [upd_ne bd, del_ne ba, upd_ne ba, upd_ne bd]
      exact h2
def sp_kept (K : PySem.W.Frag) : Nat → Sp
  | 0 => fun _ _ _ _ => False
  | n + 1 => fun vs H Q _ => ∃ (v : V) (d : PyData), vs = [v] ∧ Dq K H v d ∧ d.depth ≤ n ∧ slim d = true ∧ ∀ v' H', Same H H' → Fresh K H H' v' d → Q v' H'
/-! ## drawing -/
theorem pos_c {j : Int} (h : 0 < j) : 0 < j := h
def sp_pot (K : PySem.W.Frag) : Sp := fun vs H Q _ => ∃ (s : Addr) (ns : List Int) (k : Nat), vs = [.ref s, .int k] ∧ SqL K H s (ns.map V.int) ∧ k < 1000 ∧
  ∀ p u v, H p = none → 0 ≤ v → v < 2147483648 → Q (.ref p) (upd H p (.lst [.int u, .int v]))
def sp_draw : Sp := fun vs H Q _ => ∃ (a : Addr) (n : Int), vs = [.ref a, .int n] ∧ PotAt H a ∧ 0 < n ∧ n < 1606938044258990275541962092341162602522202993782792835301376 ∧
  ∀ r H', 0 ≤ r → r < n → PotAt H' a → Off a H H' → Q (.int r) H'
theorem pot_some {H : Hp} {a : Addr} (h : PotAt H a) : H a ≠ none := by
  obtain ⟨x, y, e, _⟩ := h
  rw [e]
  exact fun z => nomatch z
theorem one_sign {c : Nat} (h : c < 256) : (⟨#[c]⟩ : Str).length = 1 ∧ Bytes ⟨#[c]⟩ := ⟨rfl, fun x hx => by
  have e : x = c := by simpa using hx
  rw [e]
  exact h⟩
theorem off_new {K : PySem.W.Frag} {H : Hp} {p s : Addr} {o : HO} {xs : List V} (h : SqL K H s xs) (n : H p = none) : SqL K (off (upd H p o) p) s xs := by
  refine Same.seq (fun b u e => ?_) h
  rw [off_ne (ne_of_none e n), upd_ne (ne_of_none e n)]
  exact e
def sp_law (K : PySem.W.Frag) : Sp := fun vs H Q _ => ∃ (s : Addr) (ns : List Int), vs = [.ref s] ∧ SqL K H s (ns.map V.int) ∧ ns.length ≤ 63 ∧ ∀ H', Q (.bl true) H'
end Lw

set_option Elab.async false
set_option linter.all false
set_option maxRecDepth 100000
set_option maxHeartbeats 4000000
namespace Lw
open PySem PySem.Spec PyProof.Rows L2
/-! ## own classes: made, methods, properties, class methods -/
/-- a method of the class at C, by values in place -/
structure OwnM (P : Program) (w : World) (K : PySem.W.Frag) (mg : Str → Option Value) (base : Heap) (CX : CXT) (k : Nat) (C : Addr) (m : Str) (sp : Sp) : Prop where
  ok : FnR P w K mg base CX k (He.ma K C m) sp
  me : Meth K C m (He.ma K C m)
  c : Cls K C
/-- the class itself -/
structure OwnK (P : Program) (w : World) (K : PySem.W.Frag) (mg : Str → Option Value) (base : Heap) (CX : CXT) (k : Nat) (x : Str) (C : Addr) (sp : Sp) : Prop where
  ok : FnR P w K mg base CX k (He.ma K C "__init__") sp
  mkr : L2.Mk K C (He.ma K C "__init__")
  m : mg x = some (.ref C)
/-- a def behind a property or a class method -/
def recAt (K : PySem.W.Frag) (C : Addr) (m : Str) (kind : String) : Addr := match PySem.W.recIn K (He.ma K C m) kind with
  | some (.ref g :: _) => g
  | _ => 0
structure OwnP (P : Program) (w : World) (K : PySem.W.Frag) (mg : Str → Option Value) (base : Heap) (k : Nat) (C : Addr) (m : Str) (sp : Sp) : Prop where
  ok : FnR P w K mg base CX0 k (recAt K C m "property") sp
  p : PropOf K C m (He.ma K C m) (recAt K C m "property")
  c : Cls K C
structure OwnC (P : Program) (w : World) (K : PySem.W.Frag) (mg : Str → Option Value) (base : Heap) (CX : CXT) (k : Nat) (C : Addr) (m : Str) (sp : Sp) : Prop where
  ok : FnR P w K mg base CX k (recAt K C m "classmethod") sp
  r : ClX.CRead K C (.type "type")
  cm : ClX.CMet K C (.type "type") m (He.ma K C m) (recAt K C m "classmethod")
theorem raw_of {P : Program} {w : World} {K : PySem.W.Frag} {mg : Str → Option Value} {base : Heap} {CX : CXT} {k : Nat} {f : Addr} {fd : FuncData} {ps : List Str} {sp : Sp} (F : FnOk P w K mg base CX k f fd ps sp) (hb : Binds K fd ps []) : FnR P w K mg base CX k f sp :=
  fun A outer s H us vs Q E hr e0 r hs => (FnOk.raw F hb .nil) A outer s H us vs Q E hr e0 r (by show sp (vs ++ []) H Q E; rw [List.append_nil]; exact hs)
/-- what may be said of errors at the caller -/
abbrev EF : L2.St → XK := fun _ => E0
theorem passes0 {X : Cx} (σ : L2.St) : PassesAt CX0 X σ (EF σ) := fun pins H s e s' I c => pass0 pins σ H s e s' I c
theorem passesF {X : Cx} (σ : L2.St) : PassesAt (L2.CX X.prog X.w) X σ (EF σ) := fun pins H s e s' I c => passF pins σ H s e s' I c
def tMethA (C : Addr) (m : Str) (sp : Sp) (E : L2.St → XK) (ta : TE) (t : TA) : TE := fun σ H Q => ta σ H fun x H1 => ∃ a dx fs, x = .ref a ∧ H1 a = some (.ins C dx fs) ∧ fs.lookup m = none ∧ t σ H1 fun vs H2 => sp (x :: vs) H2 Q (E σ)
def tMakeA (C : Addr) (sp : Sp) (E : L2.St → XK) (t : TA) : TE := fun σ H Q => t σ H fun vs H1 => ∀ x dx, H1 x = none → H1 dx = none → dx ≠ x →
  sp (.ref x :: vs) (upd (upd H1 dx (.own x)) x (.ins C dx [])) (fun v H2 => v = .non ∧ Q (.ref x) H2) (E σ)
def tPropA (C : Addr) (sp : Sp) (ta : TE) : TE := fun σ H Q => ta σ H fun x H1 => ∃ a dx fs, x = .ref a ∧ H1 a = some (.ins C dx fs) ∧ sp [.ref a] H1 Q E0
def tCMethA (C : Addr) (sp : Sp) (E : L2.St → XK) (ta : TE) (t : TA) : TE := fun σ H Q => ta σ H fun x H1 => x = .ref C ∧ t σ H1 fun vs H2 => sp (.ref C :: vs) H2 Q (E σ)
section
variable {X : Cx} {CX : CXT} {k : Nat} {C : Addr} {m x : Str} {sp : Sp} {E : L2.St → XK} {o e : Expr} {es : List Expr} {ta : TE} {t : TA} {p apos pos : Pos}
theorem run_any {f : Addr} {pins : List (Addr × Obj)} {σ : L2.St} {H : Hp} {s : Shared} {Q : VK} {us : List Value} {vs : List V} {E : XK} (F : FnR X.prog X.w X.K X.mg X.base CX k f sp) (hr : Room k X.A) (hx : PassesAt CX X σ E)
    (I : Inv X pins σ H s) (r : Vals vs us) (h : sp vs H Q E) : codeAny (model X.prog X.w) X.A (.call (.ref f) ⟨us, []⟩) (fun r s' => match r with | .ok (.ret v) => EP X pins σ Q v s' | .ok _ => False | .error e => X.xe e s') s := by
  refine codeAny_mono (F X.A X.stack s H us vs Q E hr I.env0 r h) fun res st hq => ?_
  match res, hq with
  | .error ev, hq => exact hx pins H s ev st I hq
  | .ok (.ret _), hq => exact I.after hq
  | .ok .next, hq => exact False.elim hq
  | .ok .brk, hq => exact False.elim hq
  | .ok .cont, hq => exact False.elim hq
theorem pe_omA {pl : Sem Bool} (O : OwnM X.prog X.w X.K X.mg X.base CX k C m sp) (hx : ∀ σ, PassesAt CX X σ (E σ)) (hr : Room k X.A) (he : PE X o ta) (ha : PA X (e :: es) t)
    (hst : starEach (e :: es) X.env = (false, eval e X.env) :: starEach es X.env := by rfl) (hpl : (backTo pos (starEach es X.env)).any (fun q => q.1) = false := by rfl)
    (ht : eval (.Call (.Attribute o m apos) (e :: es) [] pos) X.env = (do
      let ov ← eval o X.env
      standAt apos.atName
      let (f, first) ← holding [ov] (getMethod ov m pl)
      callWith pos f first (backTo pos (starEach (e :: es) X.env)) (backToKw pos (keywordEach [] X.env))) := by rfl) :
    PE X (.Call (.Attribute o m apos) (e :: es) [] pos) (tMethA C m sp E ta t) := by
  refine ⟨fun pins s σ H Q I h => ?_⟩
  refine PySem.W.methodCall_KW (pl := pl) (thn (he.run pins s σ H _ I h) fun u s1 hh => ?_) ht
  obtain ⟨x, H1, I1, rx, a, dx, fs, ex, ea, l, q⟩ := hh
  subst ex
  obtain rfl : u = Value.ref a := rx
  refine getmeth_ok I1 ea O.c O.me l ?_
  refine PySem.W.callWith_K (first := [.ref a]) (h₀ := X.base) I.ok.mod.kin O.me.kp (thn (ha.run pos pins s1 σ H1 _ I1 q) fun us s2 hh => ?_) hst hpl
  obtain ⟨vs, H2, I2, r, q2⟩ := hh
  exact ⟨I2.kIn, wpAny_call (run_any (us := .ref a :: us) (vs := .ref a :: vs) O.ok hr (hx σ) I2 (.cons rfl r) q2)⟩
theorem pe_omA0 {pl : Sem Bool} (O : OwnM X.prog X.w X.K X.mg X.base CX k C m sp) (hx : ∀ σ, PassesAt CX X σ (E σ)) (hr : Room k X.A) (he : PE X o ta)
    (ht : eval (.Call (.Attribute o m apos) [] [] pos) X.env = (do
      let ov ← eval o X.env
      standAt apos.atName
      let (f, first) ← holding [ov] (getMethod ov m pl)
      callWith pos f first (backTo pos (starEach [] X.env)) (backToKw pos (keywordEach [] X.env))) := by rfl) :
    PE X (.Call (.Attribute o m apos) [] [] pos) (tMethA C m sp E ta tNil) := by
  refine ⟨fun pins s σ H Q I h => ?_⟩
  refine PySem.W.methodCall_KW (pl := pl) (thn (he.run pins s σ H _ I h) fun u s1 hh => ?_) ht
  obtain ⟨x, H1, I1, rx, a, dx, fs, ex, ea, l, q⟩ := hh
  subst ex
  obtain rfl : u = Value.ref a := rx
  refine getmeth_ok I1 ea O.c O.me l ?_
  exact PySem.W.callWith_K0 (first := [.ref a]) I1.kIn O.me.kp (wpAny_call (run_any (us := [.ref a]) (vs := [.ref a]) O.ok hr (hx σ) I1 (.cons rfl .nil) q))
theorem run_mkA {pins : List (Addr × Obj)} {σ : L2.St} {H : Hp} {s : Shared} {Q : VK} {us : List Value} {vs : List V} {E : XK} (O : OwnK X.prog X.w X.K X.mg X.base CX k x C sp) (hx : PassesAt CX X σ E) (hr : Room (k + 1) X.A) (I : Inv X pins σ H s) (r : Vals vs us)
    (h : ∀ x dx, H x = none → H dx = none → dx ≠ x → sp (.ref x :: vs) (upd (upd H dx (.own x)) x (.ins C dx [])) (fun v H2 => v = .non ∧ Q (.ref x) H2) E) :
    wpAny (model X.prog X.w) X.A (call (.ref C) us) (EP X pins σ Q) X.xe s := by
  have hq := h (s.heap.objs.size + 1) s.heap.objs.size (I.hok.fresh (Nat.le_succ _)) (I.hok.fresh (Nat.le_refl _)) (Nat.ne_of_lt (Nat.lt_succ_self _))
  have I2 := Inv.made (C := C) I
  have r2 : Vals (V.ref (s.heap.objs.size + 1) :: vs) (Value.ref (s.heap.objs.size + 1) :: us) := .cons rfl r
  refine wpAny_call (make_map (f := He.ma X.K C "__init__") I.kIn O.mkr.makes O.mkr.init (beq_iff_eq.mp O.mkr.fn) (codeAny_mono (O.ok _ X.stack _ _ (Value.ref (s.heap.objs.size + 1) :: us) _ _ E (hr.make C us [])
    (I2.env0.make C us []) r2 hq) fun r s' hq' => ?_))
  match r, hq' with
  | .error e, hq' => exact hx pins _ _ e s' I2 hq'
  | .ok (.ret u), hq' =>
    obtain ⟨v, H', I3, rv, ev, q3⟩ := I2.after hq'
    subst ev
    exact ⟨rv, ⟨V.ref (s.heap.objs.size + 1), H', I3, rfl, q3⟩⟩
  | .ok .next, hq' => exact False.elim hq'
  | .ok .brk, hq' => exact False.elim hq'
  | .ok .cont, hq' => exact False.elim hq'
theorem pe_mkA (O : OwnK X.prog X.w X.K X.mg X.base CX k x C sp) (hx : ∀ σ, PassesAt CX X σ (E σ)) (hr : Room (k + 1) X.A) (ha : PA X (e :: es) t) (hg : Gl X x := by rfl) (hdb : (x == ("__debug__" : Str)) = false := by decide)
    (he : starEach (e :: es) X.env = (false, eval e X.env) :: starEach es X.env := by rfl) (hpl : (backTo pos (starEach es X.env)).any (fun q => q.1) = false := by rfl) :
    PE X (.Call (.Name x p) (e :: es) [] pos) (tMakeA C sp E t) := by
  refine ⟨fun pins s σ H Q I h => ?_⟩
  refine wpAny_Call_Name_kw (ld_glob I hg O.m ?_ hdb)
  refine PySem.W.callWith_K (h₀ := X.base) I.ok.mod.kin O.mkr.kp (thn (ha.run pos pins s σ H _ I h) fun us s1 hh => ?_) he hpl
  obtain ⟨vs, H1, I1, r, q⟩ := hh
  exact ⟨I1.kIn, run_mkA O (hx σ) hr I1 r q⟩
/-- f(..), f a name that holds the class -/
def tMakeV (C : Addr) (sp : Sp) (E : L2.St → XK) (ta : TE) (t : TA) : TE := fun σ H Q => ta σ H fun y H1 => y = .ref C ∧ tMakeA C sp E t σ H1 Q
theorem pe_mkL {y : Str} (O : OwnK X.prog X.w X.K X.mg X.base CX k x C sp) (hx : ∀ σ, PassesAt CX X σ (E σ)) (hr : Room (k + 1) X.A) (hn : PE X (.Name y p) ta) (ha : PA X (e :: es) t)
    (he : starEach (e :: es) X.env = (false, eval e X.env) :: starEach es X.env := by rfl) (hpl : (backTo pos (starEach es X.env)).any (fun q => q.1) = false := by rfl) :
    PE X (.Call (.Name y p) (e :: es) [] pos) (tMakeV C sp E ta t) := by
  refine ⟨fun pins s σ H Q I h => ?_⟩
  refine wpAny_Call_Name_kw (thn (hn.run pins s σ H _ I h) fun u s1 hh => ?_)
  obtain ⟨y, H1, I1, ry, ey, q⟩ := hh
  subst ey
  obtain rfl : u = Value.ref C := ry
  refine PySem.W.callWith_K (h₀ := X.base) I.ok.mod.kin O.mkr.kp (thn (ha.run pos pins s1 σ H1 _ I1 q) fun us s1 hh => ?_) he hpl
  obtain ⟨vs, H2, I2, r, q⟩ := hh
  exact ⟨I2.kIn, run_mkA O (hx σ) hr I2 r q⟩
theorem pe_opA (O : OwnP X.prog X.w X.K X.mg X.base k C m sp) (hr : Room (k + 1) X.A) (he : PE X e ta) (hab : attributeBase e m X.env (eval e X.env) = eval e X.env := by rfl) : PE X (.Attribute e m pos) (tPropA C sp ta) := by
  refine ⟨fun pins s σ H Q I h => ?_⟩
  refine attr_of hab (thn (he.run pins s σ H _ I h) fun u s1 hh => ?_)
  obtain ⟨x, H1, I1, rx, a, dx, fs, ex, ea, q⟩ := hh
  subst ex
  obtain rfl : u = Value.ref a := rx
  obtain ⟨mA, O2, _, _, _, _⟩ := ins_get I1.hok ea
  obtain ⟨od, J, _⟩ := O2.look
  obtain ⟨rest, hrec⟩ := O.p.rec_
  have I2 := I1.tok (s1.toks + 1)
  have hc : (PySem.W.clsIn X.K C).isSome = true := by
    obtain ⟨cd, hc, _⟩ := PySem.W.any_some O.c.hd
    rw [hc]
    rfl
  refine PySem.W.get_bind I1.kIn J (PySem.W.plainGet_of (O.c.get m)).1 (PySem.W.findObj_data hc O.p.at_ O.p.get O.p.tak) (PySem.W.plainGet_of (O.c.get m)).2 (wpAny_call (PySem.W.prop_get (s := { s1 with toks := s1.toks + 1 }) I1.kIn hrec ?_))
  refine codeAny_mono (O.ok X.A.in1 X.stack { s1 with toks := s1.toks + 1 } H1 [.ref a] [.ref a] Q E0 hr.in1 I2.env0.in1 (.cons rfl .nil) q) fun r s' hq => ?_
  match r, hq with
  | .error er, hq => exact False.elim hq
  | .ok (.ret u), hq =>
    obtain ⟨v, H', I3, rv, q3⟩ := I2.after hq
    show wpAny _ _ (handedOut u) _ _ _
    rw [PySem.W.handedOut_of (handed_of rv)]
    exact wpAny_pure ⟨v, H', I3, rv, q3⟩
  | .ok .next, hq => exact False.elim hq
  | .ok .brk, hq => exact False.elim hq
  | .ok .cont, hq => exact False.elim hq
theorem pe_cmA {pl : Sem Bool} (O : OwnC X.prog X.w X.K X.mg X.base CX k C m sp) (hx : ∀ σ, PassesAt CX X σ (E σ)) (hr : Room k X.A) (he : PE X o ta) (ha : PA X (e :: es) t)
    (hst : starEach (e :: es) X.env = (false, eval e X.env) :: starEach es X.env := by rfl) (hpl : (backTo pos (starEach es X.env)).any (fun q => q.1) = false := by rfl)
    (ht : eval (.Call (.Attribute o m apos) (e :: es) [] pos) X.env = (do
      let ov ← eval o X.env
      standAt apos.atName
      let (f, first) ← holding [ov] (getMethod ov m pl)
      callWith pos f first (backTo pos (starEach (e :: es) X.env)) (backToKw pos (keywordEach [] X.env))) := by rfl) :
    PE X (.Call (.Attribute o m apos) (e :: es) [] pos) (tCMethA C sp E ta t) := by
  refine ⟨fun pins s σ H Q I h => ?_⟩
  refine PySem.W.methodCall_KW (pl := pl) (thn (he.run pins s σ H _ I h) fun u s1 hh => ?_) ht
  obtain ⟨x, H1, I1, rx, ex, q⟩ := hh
  subst ex
  obtain rfl : u = Value.ref C := rx
  refine ClX.getmethcm_ok I1 O.r O.cm fun s2 I2 => ?_
  refine ClX.callwith_cm I2 (ClX.base_none I1 (Nat.le_refl _)) O.cm.fi (thn (ha.run pos _ s2 σ H1 _ I2 q) fun us s3 hh => ?_) hst hpl
  obtain ⟨vs, H2, I3, rv, q2⟩ := hh
  refine ⟨⟨ClX.pin_at I3, I3.kIn⟩, ?_⟩
  refine thn (wpAny_call (PySem.W.method_call (ClX.pin_at I3) (run_any (us := .ref C :: us) (vs := .ref C :: vs) O.ok hr (hx σ) I3 (.cons rfl rv) q2))) fun _ _ y => ClX.unpinE y
end
end Lw
namespace Lw
open PySem PySem.Spec PyProof.Rows L2
theorem passT {X : Cx} {W : WX} (tk : Takes X W) (σ : L2.St) : PassesAt (L2.CX X.prog X.w) X σ (WE W σ) := passAt tk σ
end Lw

set_option Elab.async false
set_option linter.all false
set_option maxRecDepth 100000
set_option maxHeartbeats 4000000
namespace Lw
open PySem PySem.Spec PyProof.Rows L2
/-! ## the head's facts: defs that stand behind a property or a class method too -/
structure RecD where
  adr : PySem.W.Frag → Addr
  name : Str
  qual : Str
  params : Arguments
  body : List Stmt
  scope : Scope
def recW (K : PySem.W.Frag) (d : RecD) : He.FnW := match K.lookup (d.adr K) with
  | some ⟨_, _, .func fd, _⟩ => some (fd.name, fd.qualname, fd.params, fd.body, fd.scope, fd.globals, fd.closure, fd.builtins)
  | _ => none
def RecD.val (d : RecD) : He.FnW := some (d.name, d.qual, d.params, .stmts d.body, d.scope, mainGlobals, [], builtinsNs)
def RecD.ok (K : PySem.W.Frag) (d : RecD) : Bool := PySem.W.keepIn K (.ref (d.adr K)) && (match K.lookup (d.adr K) with
  | some ⟨_, _, .func fd, _⟩ => PySem.W.codeIn K fd.code d.qual && (He.dflB K fd.defaults [] && He.kwdB K fd.kwdefaults [])
  | _ => false)
theorem RecD.funD {K : PySem.W.Frag} {d : RecD} (e : recW K d = d.val) (c : d.ok K = true) : ∃ fd, FunD K d.name d.qual d.params d.body d.scope [] [] (d.adr K) fd := by
  obtain ⟨kp, c2⟩ := He.ba c
  unfold recW at e
  cases q : K.lookup (d.adr K) with
  | none =>
    rw [q] at c2
    cases c2
  | some o =>
    obtain ⟨oc, od, dt, osl⟩ := o
    rw [q] at c2 e
    cases dt with
    | func fd =>
      obtain ⟨n1, n2, n3, n4, n5, n6, n7, n8, n9, n10, n11, n12, n13, n14, n15⟩ := fd
      have e2 : (some (n1, n2, n3, n4, n5, n6, n7, n15) : He.FnW) = some (d.name, d.qual, d.params, .stmts d.body, d.scope, mainGlobals, [], builtinsNs) := e
      simp only [Option.some.injEq, Prod.mk.injEq] at e2
      obtain ⟨h1, h2, h3, h4, h5, h6, h7, h8⟩ := e2
      subst h1 h2 h3 h4 h5 h6 h7 h8
      have c3 : (PySem.W.codeIn K n13 d.qual && (He.dflB K n8 [] && He.kwdB K n9 [])) = true := c2
      obtain ⟨k1, k2⟩ := He.ba c3
      obtain ⟨k3, k4⟩ := He.ba k2
      exact ⟨_, ⟨oc, od, n8, n9, n10, n11, n12, n13, n14, osl, rfl, q, k1, He.dflB_ok k3, He.kwdB_ok k4⟩, kp⟩
    | _ => cases c2
abbrev AlX : Type := AlW × Bool × List He.FnW
def obsX (file : Str) (fa : List He.Fa) (fn : List He.DefD) (is : List IniD) (rs : List RecD) (ex : PySem.W.Frag → Bool) (K : PySem.W.Frag) : AlX := (obsW file fa fn is ex K, rs.all (fun d => d.ok K), rs.map fun d => recW K d)
def valX (fn : List He.DefD) (is : List IniD) (rs : List RecD) : AlX := (valW fn is, true, rs.map RecD.val)
structure SaysX (file : Str) (fa : List He.Fa) (fn : List He.DefD) (is : List IniD) (rs : List RecD) (ex : PySem.W.Frag → Bool) (K : PySem.W.Frag) : Prop where
  w : SaysW file fa fn is ex K
  r : ∀ x ∈ rs, ∃ fd, FunD K x.name x.qual x.params x.body x.scope [] [] (x.adr K) fd
theorem saysX_of {file : Str} {fa : List He.Fa} {fn : List He.DefD} {is : List IniD} {rs : List RecD} {ex : PySem.W.Frag → Bool} {K : PySem.W.Frag} (e : obsX file fa fn is rs ex K = valX fn is rs) : SaysX file fa fn is rs ex K := by
  have e1 : obsW file fa fn is ex K = valW fn is := congrArg (fun z : AlX => z.1) e
  have e2 : (rs.all (fun d => d.ok K)) = true := congrArg (fun z : AlX => z.2.1) e
  have e3 : rs.map (fun d => recW K d) = rs.map RecD.val := congrArg (fun z : AlX => z.2.2) e
  exact ⟨saysW_of e1, fun x hx => RecD.funD (map_at e3 x hx) (List.all_eq_true.mp e2 x hx)⟩
def obsXG (n : Nat) (file : Str) (fa : List He.Fa) (fn : List He.DefD) (is : List IniD) (rs : List RecD) (ex : PySem.W.Frag → Bool) (g : Addr → Option Obj) : AlX := obsX file fa fn is rs ex (He.frG g (asW g n))
def hookX (n : Nat) (file : Str) (fa : List He.Fa) (fn : List He.DefD) (is : List IniD) (rs : List RecD) (ex : PySem.W.Frag → Bool) : PySem.W.Hook where
  α := AlX
  obs := fun s => obsXG n file fa fn is rs ex s.heap.get?
  val := fun _ => valX fn is rs
  says := fun _ h => ∃ K : PySem.W.Frag, K.In h ∧ SaysX file fa fn is rs ex K
  of := fun _ _ e => ⟨_, He.frG_in, saysX_of e⟩
  keeps := fun _ _ _ ⟨K, hK, c⟩ k => ⟨K, PySem.W.Frag.In.keeps hK k, c⟩
theorem obsXG_eq {n : Nat} {file : Str} {fa : List He.Fa} {fn : List He.DefD} {is : List IniD} {rs : List RecD} {ex : PySem.W.Frag → Bool} {g : Addr → Option Obj} {s : Shared} (h : ∀ a, g a = s.heap.get? a) : obsXG n file fa fn is rs ex g = (hookX n file fa fn is rs ex).obs s := by
  have e : g = s.heap.get? := funext h
  rw [e] <;> rfl
/-! ## what is asked of a class, as Bools -/
def nnB (K : PySem.W.Frag) (C : Addr) : Bool := He.eqO (PySem.W.findIn K (.ref C) "__ne__") (some (some (.builtin "object.__ne__"))) && decide (PySem.W.mroIn K C (.type "object") = some true)
theorem nnB_ok {K : PySem.W.Frag} {C : Addr} (h : nnB K C = true) : NoNe K C := by
  obtain ⟨h1, h2⟩ := He.ba h
  exact ⟨He.eqO_ok h1, of_decide_eq_true h2⟩
def recB (K : PySem.W.Frag) (C : Addr) (m : Str) (kind : String) : Bool := match PySem.W.recIn K (He.ma K C m) kind with
  | some (.ref _ :: _) => true
  | _ => false
theorem recB_ok {K : PySem.W.Frag} {C : Addr} {m : Str} {kind : String} (h : recB K C m kind = true) : ∃ rest, PySem.W.recIn K (He.ma K C m) kind = some (.ref (recAt K C m kind) :: rest) := by
  unfold recB at h
  unfold recAt
  split at h
  · rename_i g rest e
    exact ⟨rest, by rw [e]⟩
  · cases h
def propB (K : PySem.W.Frag) (C : Addr) (m : Str) : Bool := He.eqO (PySem.W.findIn K (.ref C) m) (some (some (.ref (He.ma K C m)))) && (He.eqO (PySem.W.specialIn K (.ref (He.ma K C m)) "__get__") (some (some (.builtin "property.__get__"))) &&
  (decide (PySem.W.takesIn K (.ref (He.ma K C m)) = some true) && recB K C m "property"))
theorem propB_ok {K : PySem.W.Frag} {C : Addr} {m : Str} (h : propB K C m = true) : PropOf K C m (He.ma K C m) (recAt K C m "property") := by
  obtain ⟨h1, h⟩ := He.ba h
  obtain ⟨h2, h⟩ := He.ba h
  obtain ⟨h3, h4⟩ := He.ba h
  exact ⟨He.eqO_ok h1, He.eqO_ok h2, of_decide_eq_true h3, recB_ok h4⟩
def creadB (K : PySem.W.Frag) (C : Addr) : Bool := PySem.W.readsIn K C (.type "type") && He.eqO (PySem.W.specialIn K (.ref C) "__getattribute__") (some (some (.builtin "type.__getattribute__")))
theorem creadB_ok {K : PySem.W.Frag} {C : Addr} (h : creadB K C = true) : ClX.CRead K C (.type "type") := by
  obtain ⟨h1, h2⟩ := He.ba h
  exact ⟨h1, He.eqO_ok h2⟩
def cmetB (K : PySem.W.Frag) (C : Addr) (m : Str) : Bool := (match PySem.W.findCls K (.ref C) (.type "type") m with
  | some (.get g p i c) => decide (g = .builtin "classmethod.__get__") && (decide (p = .ref (He.ma K C m)) && (decide (i = .none) && decide (c = .ref C)))
  | _ => false) && (recB K C m "classmethod" && PySem.W.fnIn K (recAt K C m "classmethod"))
theorem cmetB_ok {K : PySem.W.Frag} {C : Addr} {m : Str} (h : cmetB K C m = true) : ClX.CMet K C (.type "type") m (He.ma K C m) (recAt K C m "classmethod") := by
  obtain ⟨h1, h⟩ := He.ba h
  obtain ⟨h2, h3⟩ := He.ba h
  refine ⟨?_, recB_ok h2, h3⟩
  split at h1
  · rename_i g p i c e
    simp only [Bool.and_eq_true, decide_eq_true_eq] at h1
    obtain ⟨rfl, rfl, rfl, rfl⟩ := h1
    exact e
  · cases h1
/-- a number that the class holds, read off the class and off an instance -/
def conB (K : PySem.W.Frag) (C : Addr) (f : Str) (i : Int) : Bool := (match PySem.W.findCls K (.ref C) (.type "type") f with
  | some (.val (.int j _)) => decide (j = i)
  | _ => false) && ((match PySem.W.findIn K (.ref C) f with
  | some (some (.int j t)) => decide (j = i) && He.eqO (PySem.W.specialIn K (.int j t) "__get__") (some none)
  | _ => false) && !PySem.W.copiedNames.contains f)
structure ConI (K : PySem.W.Frag) (C : Addr) (f : Str) (i : Int) : Prop where
  c : ∃ u, ClX.CVal K C (.type "type") f (.int i) u
  o : ∃ u, Con K C f (.int i) u
theorem conB_ok {K : PySem.W.Frag} {C : Addr} {f : Str} {i : Int} (h : conB K C f i = true) : ConI K C f i := by
  obtain ⟨h1, h⟩ := He.ba h
  obtain ⟨h2, h3⟩ := He.ba h
  constructor
  · split at h1
    · rename_i j t e
      cases of_decide_eq_true h1
      exact ⟨_, e, ⟨t, rfl⟩⟩
    · cases h1
  · split at h2
    · rename_i j t e
      obtain ⟨h4, h5⟩ := He.ba h2
      cases of_decide_eq_true h4
      refine ⟨_, e, ⟨t, rfl⟩, He.eqO_ok h5, ?_⟩
      simpa using h3
    · cases h2
end Lw

set_option Elab.async false
set_option linter.all false
set_option maxRecDepth 100000
set_option maxHeartbeats 4000000
namespace Lw
open PySem PySem.Spec PyProof.Rows L2
theorem cut_take {xs : List V} {i : Nat} : cutV xs none (some (i : Int)) = xs.take i := by
  unfold cutV
  rw [HT.sIx_none, HT.sIx_nat, List.drop_zero, Nat.sub_zero]
  by_cases h : i ≤ xs.length
  · rw [Nat.min_eq_left h]
  · rw [Nat.min_eq_right (by omega), List.take_of_length_le (Nat.le_refl _), List.take_of_length_le (by omega)]
theorem cut_drop {xs : List V} {i : Nat} : cutV xs (some (i : Int)) none = xs.drop i := by
  unfold cutV
  rw [HT.sIx_none, HT.sIx_nat]
  by_cases h : i ≤ xs.length
  · rw [Nat.min_eq_left h, List.take_of_length_le (by rw [List.length_drop]; exact Nat.le_refl _)]
  · rw [Nat.min_eq_right (by omega), List.drop_of_length_le (Nat.le_refl _), List.drop_of_length_le (by omega), List.take_nil]
theorem cut_part {xs : List V} {i : Nat} (h : i < xs.length) : ¬ (HT.sIx xs.length 0 none = 0 ∧ HT.sIx xs.length xs.length (some (i : Int)) = xs.length) := by
  rw [HT.sIx_none, HT.sIx_nat]
  omega
theorem dq_take {K : PySem.W.Frag} {H : Hp} : ∀ {n : Nat} {vs : List V} {ds : List PyData}, DqAll K H vs ds → DqAll K H (vs.take n) (ds.take n)
  | 0, _, _, _ => .nil
  | n + 1, _, _, .nil => .nil
  | n + 1, _, _, .cons h g => .cons h (dq_take g)
theorem dq_drop {K : PySem.W.Frag} {H : Hp} : ∀ {n : Nat} {vs : List V} {ds : List PyData}, DqAll K H vs ds → DqAll K H (vs.drop n) (ds.drop n)
  | 0, _, _, h => h
  | n + 1, _, _, .nil => .nil
  | n + 1, _, _, .cons h g => dq_drop (n := n) g
end Lw
namespace Lw
open PySem PySem.Spec PyProof.Rows L2
theorem kit_any2 {K : PySem.W.Frag} {t u1 u2 : Value} {b1 b2 : Bool} (h1 : PySem.W.kitOne K t u1 = some b1) (h2 : PySem.W.kitOne K t u2 = some b2) : PySem.W.kitAny K t [u1, u2] = some (b1 || b2) := by
  simp only [PySem.W.kitAny, h1, h2]
  cases b1 <;> cases b2 <;> rfl
end Lw

set_option Elab.async false
set_option linter.all false
set_option maxRecDepth 100000
set_option maxHeartbeats 4000000
namespace Lw
open PySem PySem.Spec PyProof.Rows L2
/-! ## the promises of a sheet -/
structure ShC (K : PySem.W.Frag) (C : Addr) : Prop where
  c : Cls K C
  no : NoAttr K C "listed"
theorem sqT_ne {K : PySem.W.Frag} {H : Hp} {t a : Addr} {xs : List V} (h : SqT K H t xs) (p : PotAt H a) : SqT K (off H a) t xs := by
  obtain ⟨x, y, e, _⟩ := p
  rcases h with (h | ⟨o, h⟩) | h
  · have n : t ≠ a := fun q => by
      rw [q, e] at h
      cases h
    exact .inl (.inl (by rw [off_ne n]; exact h))
  · have n : t ≠ a := fun q => by
      rw [q, e] at h
      cases h
    exact .inl (.inr ⟨o, by rw [off_ne n]; exact h⟩)
  · exact .inr h
theorem ShAt.off {K : PySem.W.Frag} {C : Addr} {H : Hp} {a x : Addr} {ns : List Str} (h : ShAt K C H x ns) (p : PotAt H a) : ShAt K C (off H a) x ns := by
  obtain ⟨dx, t, h1, h2, h3⟩ := h
  refine ⟨dx, t, ?_, sqT_ne h2 p, h3⟩
  have n : x ≠ a := fun q => by
    obtain ⟨x', y, e, _⟩ := p
    rw [q, e] at h1
    cases h1
  rw [off_ne n]
  exact h1
theorem off_under {H : Hp} {a : Addr} : Same (off H a) H := fun b o e => (off_get e).2
theorem ShAt.keep {K : PySem.W.Frag} {C : Addr} {H H' : Hp} {a x : Addr} {ns : List Str} (h : ShAt K C H x ns) (p : PotAt H a) (o : Off a H H') : ShAt K C H' x ns := ((h.off p).same o).same off_under
def hasD (ns : List Str) : PyData → Bool
  | .str z => decide (z ∈ ns)
  | _ => false
def sp_has (K : PySem.W.Frag) (C : Addr) : Sp := fun vs H Q _ => ∃ (a : Addr) (ns : List Str) (v : V) (d : PyData), vs = [.ref a, v] ∧ ShAt K C H a ns ∧ Dq K H v d ∧ Q (.bl (hasD ns d)) H
def sp_chk (K : PySem.W.Frag) (C CU : Addr) : Sp := fun vs H Q E => ∃ (a : Addr) (ns : List Str) (v : V) (d : PyData), vs = [.ref a, v] ∧ ShAt K C H a ns ∧ Dq K H v d ∧ (hasD ns d = false → d.depth ≤ 5 ∧ slim d = true ∧ OutV K CU H d E) ∧ (hasD ns d = true → Q .non H)
def sp_fields (K : PySem.W.Frag) (C : Addr) : Sp := fun vs H Q _ => ∃ (a : Addr) (ns : List Str), vs = [.ref a] ∧ ShAt K C H a ns ∧ ∀ p, H p = none → Q (.ref p) (upd H p (.lst (ns.map V.str)))
def sp_width (K : PySem.W.Frag) (C : Addr) : Sp := fun vs H Q _ => ∃ (a : Addr) (ns : List Str), vs = [.ref a] ∧ ShAt K C H a ns ∧ Q (.int (ns.length : Nat)) H
def sp_shStr (K : PySem.W.Frag) (C : Addr) : Sp := fun vs H Q _ => ∃ (a : Addr) (ns : List Str), vs = [.ref a] ∧ ShAt K C H a ns ∧ Q (.str (Txt.join " " ns)) H
def shRepr (ns : List Str) : Str := "Sheet(" ++ (PyData.list (ns.map PyData.str)).shown ++ ")"
def sp_shRepr (K : PySem.W.Frag) (C : Addr) : Sp := fun vs H Q _ => ∃ (a : Addr) (ns : List Str), vs = [.ref a] ∧ ShAt K C H a ns ∧ ∀ H', Same H H' → Q (.str (shRepr ns)) H'
def sp_shEq (K : PySem.W.Frag) (C : Addr) : Sp := fun vs H Q _ => ∃ (a : Addr) (ns : List Str) (y : V), vs = [.ref a, y] ∧ ShAt K C H a ns ∧
  ((∃ (b : Addr) (ms : List Str), y = .ref b ∧ ShAt K C H b ms ∧ Q (.bl (decide (ns = ms))) H) ∨ ∃ d, Dq K H y d ∧ Q (.bl false) H)
/-- isinstance of a class's instances and of data -/
structure IsC (K : PySem.W.Frag) (C : Addr) : Prop where
  own : PySem.W.kitOne K (.ref C) (.ref C) = some true
  dat : ∀ T ∈ (["NoneType", "bool", "int", "str", "list", "tuple", "dict"] : List String), PySem.W.kitOne K (.type T) (.ref C) = some false
  a1 : PySem.W.findIn K (.ref C) "__class__" = some (some (.builtin "object.__class__"))
  a2 : PySem.W.specialIn K (.builtin "object.__class__") "__get__" = some (some (.builtin "getset_descriptor.__get__"))
  a3 : PySem.W.takesIn K (.builtin "object.__class__") = some true
  a4 : PySem.W.mroIn K C (.type "object") = some true
def iscB (K : PySem.W.Frag) (C : Addr) : Bool := decide (PySem.W.kitOne K (.ref C) (.ref C) = some true) && (((["NoneType", "bool", "int", "str", "list", "tuple", "dict"] : List String).all fun T => decide (PySem.W.kitOne K (.type T) (.ref C) = some false)) &&
  (He.eqO (PySem.W.findIn K (.ref C) "__class__") (some (some (.builtin "object.__class__"))) && (He.eqO (PySem.W.specialIn K (.builtin "object.__class__") "__get__") (some (some (.builtin "getset_descriptor.__get__"))) &&
    (decide (PySem.W.takesIn K (.builtin "object.__class__") = some true) && decide (PySem.W.mroIn K C (.type "object") = some true)))))
theorem iscB_ok {K : PySem.W.Frag} {C : Addr} (h : iscB K C = true) : IsC K C := by
  obtain ⟨h1, h⟩ := He.ba h
  obtain ⟨h2, h⟩ := He.ba h
  obtain ⟨h3, h⟩ := He.ba h
  obtain ⟨h4, h⟩ := He.ba h
  obtain ⟨h5, h6⟩ := He.ba h
  exact ⟨of_decide_eq_true h1, fun T hT => of_decide_eq_true (List.all_eq_true.mp h2 T hT), He.eqO_ok h3, He.eqO_ok h4, of_decide_eq_true h5, of_decide_eq_true h6⟩
theorem IsC.ty {K : PySem.W.Frag} {C : Addr} {H : Hp} {a dx : Addr} {fs : List (Str × V)} (h : IsC K C) (c : Cls K C) (e : H a = some (.ins C dx fs)) : TyX K H (.ref a) (.ref C) := .base (.ins e c h.a1 h.a2 h.a3 h.a4)
theorem eqv_strs : ∀ ns ms : List Str, PyData.eqvAll (ns.map PyData.str) (ms.map PyData.str) = decide (ns = ms)
  | [], [] => rfl
  | [], _ :: _ => rfl
  | _ :: _, [] => rfl
  | a :: ns, b :: ms => by
    show (PyData.eqv (.str a) (.str b) && PyData.eqvAll (ns.map PyData.str) (ms.map PyData.str)) = _
    rw [eqv_strs ns ms]
    by_cases h1 : a = b
    · subst h1
      by_cases h2 : ns = ms
      · subst h2
        simp [PyData.eqv]
      · simp [PyData.eqv, h2]
    · simp [PyData.eqv, h1]
theorem dp_strs {K : PySem.W.Frag} {H : Hp} : ∀ ns : List Str, DpAll K H (ns.map V.str) (ns.map PyData.str)
  | [] => .nil
  | n :: ns => .cons (.str n) (dp_strs ns)
end Lw
namespace Lw
open PySem PySem.Spec PyProof.Rows L2
theorem strOk_name {z : Str} (h : nameB z = true) : PyData.strOk z = true := by
  have h2 := name_bytes h
  unfold PyData.strOk
  rw [← Array.all_toList, List.all_eq_true]
  intro c hc
  exact decide_eq_true (Nat.lt_trans (h2 c hc) (by decide))
theorem canLay_strs : ∀ ns : List Str, (∀ z ∈ ns, nameB z = true) → PyData.canLayAll0 (ns.map PyData.str) = true
  | [], _ => rfl
  | n :: ns, h => by
    show (PyData.strOk n && PyData.canLayAll0 (ns.map PyData.str)) = true
    rw [canLay_strs ns fun z hz => h z (List.mem_cons_of_mem _ hz), strOk_name (h n List.mem_cons_self)]
    rfl
theorem depth_strs : ∀ ns : List Str, PyData.depthAll (ns.map PyData.str) = 0
  | [] => rfl
  | n :: ns => by
    show max (PyData.depth (.str n)) (PyData.depthAll (ns.map PyData.str)) = 0
    rw [depth_strs ns]
    rfl
theorem shaped_strs {ns : List Str} (h : Nms ns) : SeqAt.shaped (.tuple (ns.map PyData.str)) = true := by
  unfold SeqAt.shaped
  rw [Bool.and_eq_true]
  refine ⟨?_, ?_⟩
  · exact canLay_strs ns h.nm
  · have : PyData.depth (.tuple (ns.map PyData.str)) ≤ 64 := by
      simp only [PyData.depth, depth_strs]
      omega
    exact decide_eq_true this
end Lw
namespace Lw
open PySem PySem.Spec PyProof.Rows L2
theorem idx_at {z : Str} {ns : List Str} (h : z ∈ ns) : ns[ns.idxOf z]? = some z := by
  have h1 := List.idxOf_lt_length_of_mem h
  rw [List.getElem?_eq_getElem h1, List.getElem_idxOf h1]
theorem idx_first {z : Str} {ns : List Str} : ∀ m, m < ns.idxOf z → ns[m]? ≠ some z := by
  induction ns with
  | nil => intro m h; simp at h
  | cons a r ih =>
    intro m h e
    rw [List.idxOf_cons] at h
    by_cases q : a = z
    · subst q
      simp at h
    · have q' : (a == z) = false := by simpa using q
      rw [q'] at h
      cases m with
      | zero =>
        simp at e
        exact q e
      | succ m =>
        simp at e
        simp only [cond_false] at h
        exact ih m (by omega) (by simpa using e)
theorem sum_names {ns : List Str} (h : ∀ z ∈ ns, nameB z = true) : (ns.map fun y => y.length).sum ≤ ns.length * 8 := by
  induction ns with
  | nil => simp
  | cons a r ih =>
    have h1 := name_len (h a List.mem_cons_self)
    have h2 := ih fun z hz => h z (List.mem_cons_of_mem _ hz)
    simp only [List.map_cons, List.sum_cons, List.length_cons]
    omega
theorem join_fits {ns : List Str} (h : Nms ns) : (ns.map fun y => y.length).sum + ns.length * (" " : Str).length ≤ 16777216 := by
  have h1 := sum_names h.nm
  have h2 := h.hi
  have h3 : (" " : Str).length = 1 := by decide +kernel
  rw [h3]
  omega
theorem small_strs {n : Nat} {ns : List Str} (h : ∀ z ∈ ns, Bytes z ∧ z.length ≤ n) : Small (2 + ns.length * (10 * n + 4)) (.list (ns.map PyData.str)) := by
  have q := small_list (n := 10 * n + 2) (ds := ns.map PyData.str) fun d hd => by
    obtain ⟨z, hz, rfl⟩ := List.mem_map.mp hd
    obtain ⟨h1, h2⟩ := h z hz
    exact ⟨small_text h1 h2, by simp [PyData.depth]⟩
  rw [List.length_map] at q
  exact q.mono (by
    have : 10 * n + 2 + 2 = 10 * n + 4 := by omega
    rw [this]
    exact Nat.le_refl _)
theorem strs_small {ns : List Str} (h : Nms ns) : (PyData.list (ns.map PyData.str)).showable = true ∧ (PyData.list (ns.map PyData.str)).shown.length ≤ sizeLine ∧ (PyData.list (ns.map PyData.str)).depth ≤ 60 := by
  refine (small_strs (n := 8) fun z hz => ⟨name_bytes (h.nm z hz), (name_len (h.nm z hz)).2⟩).line ?_
  have := h.hi
  omega
end Lw

set_option Elab.async false
set_option linter.all false
set_option maxRecDepth 100000
set_option maxHeartbeats 4000000
namespace Lw
open PySem PySem.Spec PyProof.Rows L2
/-! ## tuples whose methods are called: the object is known -/
section
variable {X : Cx}
def rTupF (K : PySem.W.Frag) : List V → Hp → VK → Prop := fun xs H Q => ∃ p ys, xs = [.ref p] ∧ ((SqL K H p ys ∧ ∀ l o, H l = none → o.dict = none → Q (.ref l) (upd H l (.frz o (.tup ys)))) ∨ (SqT K H p ys ∧ Q (.ref p) H))
theorem call_tupleF : CallR X (.type "tuple") (rTupF X.K) := by
  intro pins s σ H xs us Q I r h
  obtain ⟨p, ys, rfl, h⟩ := h
  obtain ⟨u, rfl, rx⟩ := vals1 r
  cases rx
  rcases h with ⟨hq, q⟩ | ⟨hq, q⟩
  · obtain ⟨its, r', pl, hz⟩ := I.list hq
    have hlen := r'.length
    refine call_tuple_list pl.isList (fun h' kp => ?_) (by simp only [List.size_toArray] <;> omega)
    have I1 : Inv X pins σ H { s with heap := h' } := I.kept (t' := s.toks) kp
    have I2 : Inv X pins σ (upd H h'.objs.size (.frz { cls := .type "tuple", data := .seq its.toArray } (.tup ys))) { s with heap := h'.push { cls := .type "tuple", data := .seq its.toArray } } :=
      I1.laid (t' := s.toks) (fun b o e => Heap.get?_push_of_some _ e) (Nat.le_refl _) (show ObjOk X.prog X.w _ _ _ (.frz { cls := .type "tuple", data := .seq its.toArray } (.tup ys)) from ⟨Heap.get?_push_size _ rfl, hz, its, r', IsTup.new _ _⟩)
    exact ⟨.ref h'.objs.size, _, I2, rfl, q _ _ (I1.hok.fresh (Nat.le_refl _)) rfl⟩
  · obtain ⟨its, r', pl, hz⟩ := I.tuple hq
    exact call_tuple_same pl ⟨.ref p, H, I, rfl, q⟩
/-- t.m(..), t such a tuple -/
def tBMT (r : V → List V → Hp → VK → Prop) (to : TE) (t : TA) : TE := fun σ H Q => to σ H fun x H1 => (∃ p o xs, x = .ref p ∧ H1 p = some (.frz o (.tup xs)) ∧ o.dict = none) ∧ t σ H1 fun vs H2 => r x vs H2 Q
theorem pe_bmT {id : String} {name : Str} {r : V → List V → Hp → VK → Prop} {o e : Expr} {es : List Expr} {to : TE} {t : TA} {apos cpos : Pos} (pa : PlainAttrs "tuple") (slot : Slot "tuple" name id) (hty : typeOf (.builtin id) = pure (.type "method_descriptor")) (hm : MtR X id r) (ho : PE X o to) (ha : PA X (e :: es) t)
    (hbase : attributeBase o name X.env (eval o X.env) = eval o X.env := by rfl)
    (hfew : ((backTo cpos (starEach (e :: es) X.env)).all (fun x => !x.1) && (backToKw cpos (keywordEach [] X.env)).all (fun x => x.1.isSome)
      && decide ((e :: es).length + ([] : List Keyword).length + (if ([] : List Keyword).isEmpty then 0 else 1) < 30)) = true := by rfl)
    (hline : (apos.endLine == cpos.line) = true := by rfl) (hs : starEach (e :: es) X.env = (false, eval e X.env) :: starEach es X.env := by rfl) (hplain : (backTo cpos (starEach es X.env)).any (fun q => q.1) = false := by rfl) :
    PE X (.Call (.Attribute o name apos) (e :: es) [] cpos) (tBMT r to t) := by
  refine ⟨fun pins s σ H Q I h => ?_⟩
  refine wpAny_Call_method_late hbase hfew hline rfl (thn (ho.run pins s σ H _ I h) fun v s1 hh => ?_)
  obtain ⟨x, H1, I1, r1, ⟨p, ob, xs, rfl, hp, hd⟩, q1⟩ := hh
  obtain rfl : v = Value.ref p := r1
  obtain ⟨e1, _, its, rv, o2, h1, h2, n, h3⟩ := (show ObjOk X.prog X.w H1 s1.heap p (.frz ob (.tup xs)) from I1.hok p _ hp)
  refine ⟨"tuple", id, pa, slot, hty, ⟨o2, h1, h2⟩, fun a ea => ?_, ?_⟩
  · cases ea
    exact ⟨ob, e1, hd⟩
  have hA := ha.run cpos pins s1 σ H1 _ I1 q1
  rw [hs] at hA ⊢
  refine Calls.callWith_builtin (by show (false || (backTo cpos (starEach es X.env)).any (fun q => q.1)) = false; rw [hplain] <;> rfl) (Calls.evalArgs_plain ?_)
  exact thn hA fun us s2 hh => by
    obtain ⟨vs, H2, I2, r2, q2⟩ := hh
    exact hm pins s2 σ H2 (.ref p) vs _ us Q I2 rfl r2 q2
end
/-- a sheet whose fields' tuple is known -/
def ShP (K : PySem.W.Frag) (C : Addr) (H : Hp) (a : Addr) (ns : List Str) : Prop := ∃ dx t o, H a = some (.ins C dx [("listed", .ref t)]) ∧ H t = some (.frz o (.tup (ns.map V.str))) ∧ o.dict = none ∧ Nms ns
theorem ShP.at_ {K : PySem.W.Frag} {C : Addr} {H : Hp} {a : Addr} {ns : List Str} (h : ShP K C H a ns) : ShAt K C H a ns := by
  obtain ⟨dx, t, o, h1, h2, _, h3⟩ := h
  exact ⟨dx, t, h1, .inl (.inr ⟨o, h2⟩), h3⟩
theorem ShP.same {K : PySem.W.Frag} {C : Addr} {H H' : Hp} {a : Addr} {ns : List Str} (h : ShP K C H a ns) (s : Same H H') : ShP K C H' a ns := by
  obtain ⟨dx, t, o, h1, h2, h3, h4⟩ := h
  exact ⟨dx, t, o, s _ _ h1, s _ _ h2, h3, h4⟩
theorem ShP.off {K : PySem.W.Frag} {C : Addr} {H : Hp} {a x : Addr} {ns : List Str} (h : ShP K C H x ns) (p : PotAt H a) : ShP K C (off H a) x ns := by
  obtain ⟨dx, t, o, h1, h2, h3⟩ := h
  obtain ⟨x', y, e, _⟩ := p
  have n1 : x ≠ a := fun q => by
    rw [q, e] at h1
    cases h1
  have n2 : t ≠ a := fun q => by
    rw [q, e] at h2
    cases h2
  exact ⟨dx, t, o, by rw [off_ne n1]; exact h1, by rw [off_ne n2]; exact h2, h3⟩
theorem ShP.keep {K : PySem.W.Frag} {C : Addr} {H H' : Hp} {a x : Addr} {ns : List Str} (h : ShP K C H x ns) (p : PotAt H a) (o : Off a H H') : ShP K C H' x ns := ((h.off p).same o).same off_under
def sp_shInit (K : PySem.W.Frag) (C CF : Addr) : Sp := fun vs H Q E => ∃ (a dx : Addr) (v : V) (d : PyData), vs = [.ref a, v] ∧ H a = some (.ins C dx []) ∧ Dq K (Lw.off H a) v d ∧ Sh d ∧ (∀ i, fwD d = some i → OutI "index" CF H i E) ∧
  (∀ ns H' t, d = .tuple (ns.map PyData.str) → Nms ns → Off a H H' → H' a = some (.ins C dx [("listed", .ref t)]) → SqT K H' t (ns.map V.str) → Q .non H') ∧
  ∀ ns H' t o, d = .list (ns.map PyData.str) → Nms ns → Off a H H' → H' a = some (.ins C dx [("listed", .ref t)]) → H' t = some (.frz o (.tup (ns.map V.str))) → o.dict = none → Q .non H'
/-- what C(x) asks -/
theorem mk_sheet {K : PySem.W.Frag} {C CF : Addr} {H : Hp} {v : V} {d : PyData} {R : Addr → Hp → Prop} {E : XK} (hd : Dq K H v d) (hs : Sh d) (ho : ∀ i, fwD d = some i → OutI "index" CF H i E)
    (hq : ∀ ns x H', d = .tuple (ns.map PyData.str) → Nms ns → Same H H' → H x = none → ShAt K C H' x ns → R x H')
    (hp : ∀ ns x H', d = .list (ns.map PyData.str) → Nms ns → Same H H' → H x = none → ShP K C H' x ns → R x H') :
    ∀ x dx, H x = none → H dx = none → dx ≠ x → sp_shInit K C CF [.ref x, v] (upd (upd H dx (.own x)) x (.ins C dx [])) (fun v H2 => v = .non ∧ R x H2) E := by
  intro x dx nx nd ne
  have s1 : Same H (upd H dx (.own x)) := same_upd nd
  have nx1 : upd H dx (.own x) x = none := by rw [upd_ne ne.symm]; exact nx
  have s2 : Same H (upd (upd H dx (.own x)) x (.ins C dx [])) := s1.trans (same_upd nx1)
  have s3 : Same H (Lw.off (upd (upd H dx (.own x)) x (.ins C dx [])) x) := fun b o e => by
    have nb : b ≠ x := ne_of_none e nx
    rw [off_ne nb]
    exact s2 _ _ e
  refine ⟨x, dx, v, d, rfl, upd_same, hd.same s3, hs, fun i e => (ho i e).later s2, fun ns H' t h1 h2 o h3 h4 => ⟨rfl, hq ns x H' h1 h2 ?_ nx ⟨dx, t, h3, h4, h2⟩⟩, fun ns H' t ob h1 h2 o h3 h4 h5 => ⟨rfl, hp ns x H' h1 h2 ?_ nx ⟨dx, t, ob, h3, h4, h5, h2⟩⟩⟩
  · exact (s3.trans o).trans off_under
  · exact (s3.trans o).trans off_under
/-- a list of names -/
theorem mk_sheetL {K : PySem.W.Frag} {C CF : Addr} {H : Hp} {l : Addr} {ns : List Str} {R : Addr → Hp → Prop} {E : XK} (hl : SqL K H l (ns.map V.str)) (nm : Nms ns) (hp : ∀ x H', Same H H' → H x = none → ShP K C H' x ns → R x H') :
    ∀ x dx, H x = none → H dx = none → dx ≠ x → sp_shInit K C CF [.ref x, .ref l] (upd (upd H dx (.own x)) x (.ins C dx [])) (fun v H2 => v = .non ∧ R x H2) E := by
  refine mk_sheet (d := .list (ns.map PyData.str)) (.lst hl (strs_dq ns)) ?_ ?_ (fun ms x H' h => nomatch h) ?_
  · intro ds h
    rcases h with h | h
    · cases h
      refine ⟨by rw [List.length_map]; have := nm.hi; omega, fun x hx => ?_⟩
      obtain ⟨z, hz, rfl⟩ := List.mem_map.mp hx
      intro y hy
      cases hy
      have := name_len (nm.nm z hz)
      omega
    · cases h
  · intro i e
    have : fwD (.list (ns.map PyData.str)) = none := fwL_names nm
    rw [this] at e
    cases e
  · intro ms x H' h h2 h3 h4 h5
    have e : ms = ns := by
      have h' : ns.map PyData.str = ms.map PyData.str := by injection h
      have inj : ∀ {a b : List Str}, a.map PyData.str = b.map PyData.str → a = b := by
        intro a
        induction a with
        | nil => intro b hb; cases b with
          | nil => rfl
          | cons _ _ => cases hb
        | cons y r ih => intro b hb; cases b with
          | nil => cases hb
          | cons y' r' =>
            simp only [List.map_cons, List.cons.injEq, PyData.str.injEq] at hb
            rw [hb.1, ih hb.2]
      exact (inj h').symm
    subst e
    exact hp x H' h3 h4 h5
def sp_place (K : PySem.W.Frag) (C CU : Addr) : Sp := fun vs H Q E => ∃ (a : Addr) (ns : List Str) (v : V) (d : PyData), vs = [.ref a, v] ∧ ShP K C H a ns ∧ Dq K H v d ∧ (hasD ns d = false → d.depth ≤ 5 ∧ slim d = true ∧ OutV K CU H d E) ∧
  ∀ z, d = .str z → z ∈ ns → Q (.int (ns.idxOf z : Nat)) H
end Lw
namespace Lw
open PySem PySem.Spec PyProof.Rows L2
theorem strs_len {ns : List Str} (h : Nms ns) : (PyData.list (ns.map PyData.str)).shown.length ≤ 2000 := by
  have q := (small_strs (n := 8) fun z hz => ⟨name_bytes (h.nm z hz), (name_len (h.nm z hz)).2⟩).ln
  have := h.hi
  omega
def sp_read (K : PySem.W.Frag) (C CT : Addr) : Sp := fun vs H Q E => ∃ (v : V) (d : PyData), vs = [.ref C, v] ∧ Dq K H v d ∧ (isS d = false → OutI "line" CT H 0 E) ∧
  ∀ z, d = .str z → z.length ≤ 800 ∧ (fwL ((Txt.split z " ").map PyData.str) ≠ none → OutI "line" CT H 1 E) ∧ (fwL ((Txt.split z " ").map PyData.str) = none → ∀ x H', Same H H' → H x = none → ShP K C H' x (Txt.split z " ") → Q (.ref x) H')
end Lw
namespace Lw
open PySem PySem.Spec PyProof.Rows L2
theorem sp_tl : TL.tl (" " : Str) = [32] := by decide +kernel
theorem sp_ok : ((" " : Str).cps.all (· < 256)) = true := by decide +kernel
theorem wsplit_len (z : Str) : (Txt.split z (" " : Str)).length ≤ z.length + 1 := by
  have e := TL.split_spl z (" " : Str) (by rw [sp_tl]; simp) (TL.kind_ok sp_ok)
  have l : (Txt.split z (" " : Str)).length = ((Txt.split z (" " : Str)).map TL.tl).length := by rw [List.length_map]
  rw [l, e, TL.len_tl, sp_tl]
  have key : ∀ (l acc : List Nat), (TL.spl [32] 0 acc l).length ≤ l.length + 1 := by
    intro l
    induction l with
    | nil => intro acc; rw [TL.spl_nil]; exact Nat.le_refl _
    | cons c r ih =>
      intro acc
      cases p : TL.pre [32] (c :: r) with
      | true =>
        rw [TL.spl_hit p, List.length_cons, List.length_cons]
        exact Nat.succ_le_succ (ih [])
      | false =>
        rw [TL.spl_miss p, List.length_cons]
        have := ih (acc ++ [c])
        omega
  exact key _ _
theorem wsplit_part {z x : Str} (h : x ∈ Txt.split z (" " : Str)) : x.length ≤ z.length := by
  have e := StrLaws.join_split z (" " : Str)
  have := join_len (y := (" " : Str)) h
  rw [e] at this
  exact this
theorem wsplit_sh {z : Str} (h : z.length ≤ 800) : Sh (.list ((Txt.split z (" " : Str)).map PyData.str)) := by
  intro ds hd
  rcases hd with hd | hd
  · cases hd
    refine ⟨by rw [List.length_map]; have := wsplit_len z; omega, fun x hx => ?_⟩
    obtain ⟨y, hy, rfl⟩ := List.mem_map.mp hx
    intro w hw
    cases hw
    have := wsplit_part hy
    omega
  · cases hd
end Lw
namespace Lw
open PySem PySem.Spec PyProof.Rows L2
theorem strs_inj : ∀ {a b : List Str}, a.map PyData.str = b.map PyData.str → a = b
  | [], [], _ => rfl
  | [], _ :: _, h => nomatch h
  | _ :: _, [], h => nomatch h
  | y :: r, y' :: r', h => by
    simp only [List.map_cons, List.cons.injEq, PyData.str.injEq] at h
    rw [h.1, strs_inj h.2]
end Lw

set_option Elab.async false
set_option linter.all false
set_option maxRecDepth 100000
set_option maxHeartbeats 4000000
namespace Lw
open PySem PySem.Spec PyProof.Rows L2
/-! ## what laws draw -/
def odds1 : List PyData := [.none, .int 0, .int 1, .bool true, .bool false, .str "", .str "A", .str "nineletters", .tuple [], .list [], .dict [], .tuple [.int 1, .int 2], .tuple [.int 2, .int 4], .tuple [.int 3, .int 1], .tuple [.int 1, .int 0], .tuple [.int 1, .int (-2)]]
def odds2 : List PyData := [.tuple [.bool true, .int 2], .list [.int 1, .int 2], .tuple [.int 1, .int 2, .int 3], .tuple [.str "1", .int 2], .tuple [.int 0, .int 2], .tuple [.int (-3), .int 6], .int (-5), .str "a", .str "ab", .str "a b", .str "1", .tuple [.str "a"]]
def odds3 : List PyData := [.tuple [.int 1, .bool true]]
def odds : List PyData := odds1 ++ odds2 ++ odds3
def sp_odd (K : PySem.W.Frag) : Sp := fun vs H Q _ => ∃ a : Addr, vs = [.ref a] ∧ PotAt H a ∧ ∀ v d H', d ∈ odds → Dq K (off H' a) v d → PotAt H' a → Off a H H' → Q v H'
theorem erase_perm {α : Type} : ∀ {zs : List α} {j : Nat} {y : α}, zs[j]? = some y → ([y] ++ zs.eraseIdx j).Perm zs
  | [], _, _, h => by simp at h
  | z :: zs, 0, y, h => by
    cases (show some z = some y from h)
    exact List.Perm.refl _
  | z :: zs, j + 1, y, h => by
    have ih := erase_perm (zs := zs) (j := j) (y := y) (by simpa using h)
    exact (List.Perm.swap z y _).trans (ih.cons z)
def sp_mixed (K : PySem.W.Frag) : Sp := fun vs H Q _ => ∃ (a l : Addr) (xs : List V), vs = [.ref a, .ref l] ∧ PotAt H a ∧ SqL K H l xs ∧ SqL K (off H a) l xs ∧ xs.length ≤ 100 ∧ ∀ m ys H', PotAt H' a → Off a H H' → H m = none → H' m = some (.lst ys) → ys.Perm xs → Q (.ref m) H'
def sp_word (K : PySem.W.Frag) : Sp := fun vs H Q _ => ∃ (a l : Addr) (ns : List Str), vs = [.ref a, .ref l] ∧ PotAt H a ∧ SqL K (off H a) l (ns.map V.str) ∧ ns.length ≤ 20 ∧ ∀ z H', nameB z = true → z ∉ ns → PotAt H' a → Off a H H' → Q (.str z) H'
def sp_words : Sp := fun vs H Q _ => ∃ (a : Addr) (n : Nat), vs = [.ref a, .int n] ∧ PotAt H a ∧ n ≤ 20 ∧ ∀ (l : Addr) (ns : List Str) H', ns.length = n → ns.Nodup → (∀ z ∈ ns, nameB z = true) → PotAt H' a → Off a H H' → H l = none → H' l = some (.lst (ns.map V.str)) → Q (.ref l) H'
def sp_labels : Sp := fun vs H Q _ => ∃ (a : Addr) (n : Nat), vs = [.ref a, .int n] ∧ PotAt H a ∧ 1 ≤ n ∧ n ≤ 12 ∧ ∀ (l : Addr) (ns : List Str) H', Nms ns → PotAt H' a → Off a H H' → H l = none → H' l = some (.lst (ns.map V.str)) → Q (.ref l) H'
theorem ofc_sign {c : Nat} (h : c ∈ abc.cps.toList) : nameB ⟨#[c]⟩ = true := by
  unfold nameB
  have h1 : ((⟨#[c]⟩ : Str).length : Int) = 1 := rfl
  rw [h1]
  have h' : c ∈ abc.cps := by simpa using h
  simp [h']
theorem name_join {ys : List Str} (h0 : 1 ≤ ys.length) (h1 : ys.length ≤ 8) (h : ∀ y ∈ ys, ∃ c, c ∈ abc.cps.toList ∧ y = ⟨#[c]⟩) : nameB (Str.join "" ys) = true := by
  have hb := bytes_join ys fun y hy => by
    obtain ⟨c, hc, rfl⟩ := h y hy
    exact one_sign (abc_bytes c hc)
  have hc : ∀ {ys : List Str}, (∀ y ∈ ys, ∃ c, c ∈ abc.cps.toList ∧ y = ⟨#[c]⟩) → ∀ c ∈ (Str.join "" ys).cps.toList, c ∈ abc.cps.toList := by
    intro ys
    induction ys with
    | nil => intro _ c hc; cases hc
    | cons x r ih =>
      intro h c hc
      cases r with
      | nil =>
        obtain ⟨e, he, rfl⟩ := h x (by simp)
        have : c = e := by
          have hc' : c ∈ ([e] : List Nat) := hc
          simpa using hc'
        rw [this]
        exact he
      | cons y r =>
        have e : (Str.join "" (x :: y :: r)).cps.toList = x.cps.toList ++ ([] : List Nat) ++ (Str.join "" (y :: r)).cps.toList := by
          show ((x.cps ++ #[]) ++ (Str.join "" (y :: r)).cps).toList = _
          simp
        rw [e] at hc
        simp only [List.append_nil, List.mem_append] at hc
        rcases hc with q | q
        · obtain ⟨e3, he, rfl⟩ := h x (by simp)
          have : c = e3 := by
            have hc' : c ∈ ([e3] : List Nat) := q
            simpa using hc'
          rw [this]
          exact he
        · exact ih (fun z hz => h z (List.mem_cons_of_mem _ hz)) c q
  unfold nameB
  rw [hb.1]
  simp only [Bool.and_eq_true, List.all_eq_true, decide_eq_true_eq]
  refine ⟨⟨by omega, by omega⟩, hc h⟩
theorem nodup_sub {α : Type} [BEq α] [LawfulBEq α] : ∀ {l m : List α}, l.Nodup → (∀ x ∈ l, x ∈ m) → l.length ≤ m.length
  | [], _, _, _ => Nat.zero_le _
  | a :: r, m, h, hs => by
    rw [List.nodup_cons] at h
    have ha := hs a List.mem_cons_self
    have := nodup_sub (l := r) (m := m.erase a) h.2 fun x hx => by
      have ne : x ≠ a := fun e => h.1 (e ▸ hx)
      exact (List.mem_erase_of_ne ne).mpr (hs x (List.mem_cons_of_mem _ hx))
    rw [List.length_erase_of_mem ha] at this
    have : 1 ≤ m.length := List.length_pos_of_mem ha
    rw [List.length_cons]
    omega
/-- of 26 letters one is not among 20 words -/
theorem letter_left {ns : List Str} (h : ns.length ≤ 20) : (abc.cps.toList.filter fun c => !(ns.contains (⟨#[c]⟩ : Str))) ≠ [] := by
  intro e
  have h1 : ∀ c ∈ abc.cps.toList, (⟨#[c]⟩ : Str) ∈ ns := fun c hc => by
    refine Classical.byContradiction fun n => ?_
    have : c ∈ (abc.cps.toList.filter fun c => !(ns.contains (⟨#[c]⟩ : Str))) := by
      rw [List.mem_filter]
      refine ⟨hc, ?_⟩
      have : ns.contains (⟨#[c]⟩ : Str) = false := by simpa using n
      rw [this]
      rfl
    rw [e] at this
    cases this
  have nd : (abc.cps.toList.map fun c => (⟨#[c]⟩ : Str)).Nodup := by decide +kernel
  have sub : ∀ x ∈ (abc.cps.toList.map fun c => (⟨#[c]⟩ : Str)), x ∈ ns := fun x hx => by
    obtain ⟨c, hc, rfl⟩ := List.mem_map.mp hx
    exact h1 c hc
  have l26 : (abc.cps.toList.map fun c => (⟨#[c]⟩ : Str)).length = 26 := by decide +kernel
  have := nodup_sub nd sub
  omega
end Lw
namespace Lw
open PySem PySem.Spec PyProof.Rows L2
section
variable {X : Cx}
/-- x is not True -/
def rNotB : R2 := fun x y H Q => ∃ b c : Bool, x = .bl b ∧ y = .bl c ∧ Q (.bl (!(b == c))) H
theorem op_notB : OpR X (compareOp .IsNot) rNotB := by
  intro pins s σ H x y v u Q I rx ry h
  obtain ⟨b, c, rfl, rfl, q⟩ := h
  cases rx
  cases ry
  exact isnot_bool ⟨.bl _, H, I, rfl, q⟩
end
theorem small_bools3 (a b c : Bool) : (PyData.list [.bool a, .bool b, .bool c]).showable = true ∧ (PyData.list [.bool a, .bool b, .bool c]).shown.length ≤ sizeLine ∧ (PyData.list [.bool a, .bool b, .bool c]).depth ≤ 60 := by
  cases a <;> cases b <;> cases c <;> exact ⟨by decide +kernel, by decide +kernel, by decide +kernel⟩
end Lw
namespace Lw
open PySem PySem.Spec PyProof.Rows L2
theorem idx_nodup {ns : List Str} {i : Nat} {z : Str} (nd : ns.Nodup) (h : ns[i]? = some z) : ns.idxOf z = i := by
  have hz : z ∈ ns := List.mem_of_getElem? h
  have h1 := List.idxOf_lt_length_of_mem hz
  have h2 : ns[ns.idxOf z]? = some z := idx_at hz
  obtain ⟨h3, e3⟩ := List.getElem?_eq_some_iff.mp h
  obtain ⟨h4, e4⟩ := List.getElem?_eq_some_iff.mp h2
  exact (List.getElem_inj nd).mp (e4.trans e3.symm)
theorem dq_ints {K : PySem.W.Frag} {H : Hp} : ∀ is : List Int, DqAll K H (is.map V.int) (is.map PyData.int)
  | [] => .nil
  | i :: is => .cons (.int i) (dq_ints is)
theorem small_ints {is : List Int} (h : ∀ i ∈ is, i.natAbs < 2 ^ 1000) (hl : is.length ≤ 40) : Small 90000 (.list (is.map PyData.int)) := by
  have q := small_list (n := 2000) (ds := is.map PyData.int) fun d hd => by
    obtain ⟨z, hz, rfl⟩ := List.mem_map.mp hd
    exact ⟨small_int (h z hz), by simp [PyData.depth]⟩
  rw [List.length_map] at q
  exact q.mono (by omega)
theorem bytes_sjoin : ∀ {ns : List Str}, (∀ z ∈ ns, Bytes z) → Bytes (Str.join " " ns)
  | [], _ => fun c hc => by cases hc
  | [x], h => h x (by simp)
  | x :: y :: r, h => by
    have e : Str.join " " (x :: y :: r) = x ++ (" " : Str) ++ Str.join " " (y :: r) := rfl
    rw [e]
    refine bytes_app (bytes_app (h x (by simp)) ?_) (bytes_sjoin fun z hz => h z (List.mem_cons_of_mem _ hz))
    intro c hc
    have : c ∈ ([32] : List Nat) := by
      have e : (" " : Str).cps.toList = [32] := by decide +kernel
      rw [e] at hc
      exact hc
    simp at this
    omega
theorem len_sjoin : ∀ {ns : List Str} {n : Nat}, (∀ z ∈ ns, z.length ≤ n) → (Str.join " " ns).length ≤ ns.length * (n + 1)
  | [], _, _ => Nat.zero_le _
  | [x], n, h => by
    have := h x (by simp)
    show x.length ≤ 1 * (n + 1)
    omega
  | x :: y :: r, n, h => by
    have e : Str.join " " (x :: y :: r) = x ++ (" " : Str) ++ Str.join " " (y :: r) := rfl
    have h1 := h x (by simp)
    have h2 := len_sjoin (ns := y :: r) (n := n) fun z hz => h z (List.mem_cons_of_mem _ hz)
    have h3 : (" " : Str).length = 1 := by decide +kernel
    rw [e, strLen_append, strLen_append, h3, List.length_cons (a := x), Nat.succ_mul]
    omega
theorem small_words {ns : List Str} (h : Nms ns) : Small 2000 (.str (Txt.join " " ns)) := by
  have h1 : Bytes (Str.join " " ns) := bytes_sjoin fun z hz => name_bytes (h.nm z hz)
  have h2 := len_sjoin (ns := ns) (n := 8) fun z hz => (name_len (h.nm z hz)).2
  have := h.hi
  have e : Txt.join " " ns = Str.join " " ns := TL.join_eq _ _
  rw [e]
  exact (small_text (n := 108) h1 (by omega)).mono (by omega)
theorem small_names {ns : List Str} (h : Nms ns) : Small 2000 (.list (ns.map PyData.str)) := by
  have q := small_strs (n := 8) fun z hz => ⟨name_bytes (h.nm z hz), (name_len (h.nm z hz)).2⟩
  have := h.hi
  exact q.mono (by omega)
theorem odds_small : ∀ d ∈ odds, Small 200 d ∧ d.depth ≤ 5 ∧ slim d = true ∧ Short d := by
  intro d hd
  simp only [odds, odds1, odds2, odds3, List.cons_append, List.nil_append, List.mem_cons, List.not_mem_nil, or_false] at hd
  rcases hd with rfl | rfl | rfl | rfl | rfl | rfl | rfl | rfl | rfl | rfl | rfl | rfl | rfl | rfl | rfl | rfl | rfl | rfl | rfl | rfl | rfl | rfl | rfl | rfl | rfl | rfl | rfl | rfl | rfl
  all_goals
    refine ⟨⟨by decide +kernel, by decide +kernel, by decide +kernel⟩, by decide +kernel, by decide +kernel, fun z hz => ?_⟩
    first
      | (cases hz; decide)
      | (exact PyData.noConfusion hz)
theorem rg_ints (n : Nat) : rgV 0 (n : Int) = ((List.range n).map fun i : Nat => (i : Int)).map V.int := by
  unfold rgV
  rw [List.map_map]
  have : ((n : Int) - 0).toNat = n := by omega
  rw [this]
  apply List.map_congr_left
  intro i _
  show V.int (0 + (i : Int)) = V.int i
  rw [Int.zero_add]
end Lw
namespace Lw
open PySem PySem.Spec PyProof.Rows L2
/-- isinstance(x, str) and x in l -/
theorem e_there {K : PySem.W.Frag} {i j : Nat} {v : V} {d : PyData} {l : Addr} {ns : List Str} {σ : L2.St} {H : Hp} {Q : VK} (hi : σ[i]? = some (some v)) (hj : σ[j]? = some (some (.ref l))) (hd : Dq K H v d) (hl : SqL K H l (ns.map V.str)) (q : Q (.bl (hasD ns d)) H) :
    tAndV (tCB (rIsi K) (tCons (tVar i) (tCons (tC (.ty "str")) tNil))) (tOp (rIn K false) (tVar i) (tVar j)) σ H Q := by
  refine ⟨v, hi, v, .ty "str", _, _, _, rfl, .ty _, hd.ty, kit_ty (kit_str d), _, rfl, ?_⟩
  cases hd with
  | str z =>
    refine ⟨.str z, hi, .ref l, hj, l, _, rfl, .inl hl, rfl, Lw.flat_strs _, ?_⟩
    rw [if_neg (by decide), in_strs]
    exact q
  | _ => exact q
theorem last_of {ns : List Str} (h : 1 ≤ ns.length) : ∃ z, z ∈ ns ∧ atI (ns.map V.str) (-1) = some (.str z) := by
  have hne : ns ≠ [] := fun e => by
    rw [e] at h
    exact absurd h (by decide)
  refine ⟨ns.getLast hne, List.getLast_mem hne, ?_⟩
  have e : ns.map V.str = (ns.dropLast.map V.str) ++ [V.str (ns.getLast hne)] := by
    rw [← List.map_singleton, ← List.map_append, List.dropLast_concat_getLast hne]
  rw [e]
  exact atI_last _ _
end Lw
namespace Lw
open PySem PySem.Spec PyProof.Rows L2
theorem small_bool (b : Bool) : (PyData.bool b).showable = true ∧ (PyData.bool b).shown.length ≤ sizeLine ∧ (PyData.bool b).depth ≤ 60 := by
  cases b <;> exact ⟨by decide +kernel, by decide +kernel, by decide +kernel⟩
end Lw
namespace Lw
open PySem PySem.Spec PyProof.Rows L2
theorem mk_sheet2 {K : PySem.W.Frag} {C CF x dx : Addr} {H : Hp} {v : V} {d : PyData} {Q : VK} {E : XK} (hd : Dq K H v d) (hs : Sh d) (nx : H x = none) (nd : H dx = none) (ne : dx ≠ x) (ho : ∀ i, fwD d = some i → OutI "index" CF H i E)
    (hq : ∀ ns H', d = .tuple (ns.map PyData.str) → Nms ns → Same H H' → ShAt K C H' x ns → Q .non H') (hp : ∀ ns H', d = .list (ns.map PyData.str) → Nms ns → Same H H' → ShP K C H' x ns → Q .non H') :
    sp_shInit K C CF [.ref x, v] (upd (upd H dx (.own x)) x (.ins C dx [])) Q E := by
  obtain ⟨a, dx', v', d', e, h⟩ := mk_sheet (K := K) (C := C) (CF := CF) (R := fun y H' => y = x → Q .non H') hd hs ho (fun ns y H' h1 h2 h3 _ h4 e => by subst e; exact hq ns H' h1 h2 h3 h4) (fun ns y H' h1 h2 h3 _ h4 e => by subst e; exact hp ns H' h1 h2 h3 h4) x dx nx nd ne
  cases e
  obtain ⟨h1, h2, h3, h4, h5, h6⟩ := h
  exact ⟨x, dx', v, d', rfl, h1, h2, h3, h4, fun ns H' t g1 g2 g3 g4 g5 => (h5 ns H' t g1 g2 g3 g4 g5).2 rfl, fun ns H' t o g1 g2 g3 g4 g5 g6 => (h6 ns H' t o g1 g2 g3 g4 g5 g6).2 rfl⟩
theorem sh_names {ns : List Str} (nm : Nms ns) {d : PyData} (h : d = .list (ns.map PyData.str) ∨ d = .tuple (ns.map PyData.str)) : Sh d := by
  intro ds h'
  have e : ds = ns.map PyData.str := by
    rcases h with rfl | rfl <;> rcases h' with h' | h' <;> first | (cases h'; rfl) | cases h'
  subst e
  refine ⟨by rw [List.length_map]; have := nm.hi; omega, fun x hx => ?_⟩
  obtain ⟨z, hz, rfl⟩ := List.mem_map.mp hx
  intro y hy
  cases hy
  have := name_len (nm.nm z hz)
  omega
theorem mk_sheetL2 {K : PySem.W.Frag} {C CF x dx : Addr} {H : Hp} {l : Addr} {ns : List Str} {Q : VK} {E : XK} (hl : SqL K H l (ns.map V.str)) (nm : Nms ns) (nx : H x = none) (nd : H dx = none) (ne : dx ≠ x) (hp : ∀ H', Same H H' → ShP K C H' x ns → Q .non H') :
    sp_shInit K C CF [.ref x, .ref l] (upd (upd H dx (.own x)) x (.ins C dx [])) Q E := by
  refine mk_sheet2 (d := .list (ns.map PyData.str)) (.lst hl (strs_dq ns)) (sh_names nm (.inl rfl)) nx nd ne (fun i e => ?_) (fun ms H' h => nomatch h) (fun ms H' h _ h3 h4 => ?_)
  · have : fwD (.list (ns.map PyData.str)) = none := fwL_names nm
    rw [this] at e
    cases e
  · have e : ns = ms := strs_inj (by injection h)
    subst e
    exact hp H' h3 h4
theorem mk_sheetT2 {K : PySem.W.Frag} {C CF x dx : Addr} {H : Hp} {l : Addr} {ns : List Str} {Q : VK} {E : XK} (hl : SqT K H l (ns.map V.str)) (nm : Nms ns) (nx : H x = none) (nd : H dx = none) (ne : dx ≠ x) (hp : ∀ H', Same H H' → ShAt K C H' x ns → Q .non H') :
    sp_shInit K C CF [.ref x, .ref l] (upd (upd H dx (.own x)) x (.ins C dx [])) Q E := by
  refine mk_sheet2 (d := .tuple (ns.map PyData.str)) (.tup hl (strs_dq ns)) (sh_names nm (.inr rfl)) nx nd ne (fun i e => ?_) (fun ms H' h _ h3 h4 => ?_) (fun ms H' h => nomatch h)
  · have : fwD (.tuple (ns.map PyData.str)) = none := fwL_names nm
    rw [this] at e
    cases e
  · have e : ns = ms := strs_inj (by injection h)
    subst e
    exact hp H' h3 h4
theorem split_names {ns : List Str} (nm : Nms ns) : Txt.split (Txt.join " " ns) " " = ns := by
  have hne : ns ≠ [] := fun e => by
    have := nm.lo
    rw [e] at this
    exact absurd this (by decide)
  refine TL.split_join sp_tl sp_ok hne fun p hp hm => ?_
  have := name_abc (nm.nm p hp) 32 hm
  exact absurd this (by decide +kernel)
theorem perm_names {ns : List Str} {ys : List V} (nm : Nms ns) (h : ys.Perm (ns.map V.str)) : ∃ ms : List Str, ys = ms.map V.str ∧ Nms ms := by
  have : ∃ ms : List Str, ys = ms.map V.str := by
    have h1 : ∀ y ∈ ys, ∃ z, y = V.str z := fun y hy => by
      obtain ⟨z, _, rfl⟩ := List.mem_map.mp (h.mem_iff.mp hy)
      exact ⟨z, rfl⟩
    clear h
    induction ys with
    | nil => exact ⟨[], rfl⟩
    | cons y r ih =>
      obtain ⟨z, rfl⟩ := h1 y List.mem_cons_self
      obtain ⟨ms, rfl⟩ := ih fun y hy => h1 y (List.mem_cons_of_mem _ hy)
      exact ⟨z :: ms, rfl⟩
  obtain ⟨ms, rfl⟩ := this
  have hl := h.length_eq
  rw [List.length_map, List.length_map] at hl
  have inj : ∀ {a b : List Str}, (a.map V.str).Nodup ↔ a.Nodup := fun {a b} => by
    unfold List.Nodup
    rw [List.pairwise_map]
    constructor
    · intro q
      exact q.imp fun n e => n (by rw [e])
    · intro q
      exact q.imp fun n e => n (V.str.inj e)
  refine ⟨ms, rfl, by have := nm.lo; omega, by have := nm.hi; omega, ?_, fun z hz => ?_⟩
  · exact (inj (b := [])).mp ((h.nodup_iff).mpr ((inj (b := [])).mpr nm.nd))
  · obtain ⟨y, hy, e⟩ := List.mem_map.mp (h.mem_iff.mp (List.mem_map.mpr ⟨z, hz, rfl⟩))
    cases V.str.inj e
    exact nm.nm _ hy
theorem one_name {ns : List Str} (nm : Nms ns) {z : Str} (h : z ∈ ns) : Nms [z] := ⟨by show 1 ≤ 1; decide, by show 1 ≤ 12; decide, by simp, fun y hy => by
  cases List.mem_singleton.mp hy
  exact nm.nm _ h⟩
theorem shapedL_strs {ns : List Str} (h : Nms ns) : SeqAt.shaped (.list (ns.map PyData.str)) = true := by
  unfold SeqAt.shaped
  rw [Bool.and_eq_true]
  refine ⟨?_, ?_⟩
  · exact canLay_strs ns h.nm
  · have : PyData.depth (.list (ns.map PyData.str)) ≤ 64 := by
      simp only [PyData.depth, depth_strs]
      omega
    exact decide_eq_true this
end Lw

set_option Elab.async false
set_option linter.all false
set_option maxRecDepth 100000
set_option maxHeartbeats 4000000
namespace Lw
open PySem PySem.Spec PyProof.Rows L2
/-! ## defs in which a token is out -/
theorem pst_set {X : Cx} {i : Nat} {x : Str} {e : Expr} {te : TE} {pos pos' : Pos} (hN : X.N.Nodup) (hi : X.N[i]? = some x) (hx : Loc X.env.scope x) (he : PET X e te) (hs : swapsWith e (some (.Name x pos')) pos.line X.env = pure false := by rfl)
    (hf : X.fn x = true ∨ X.env.scope.names.lookup x = some .local := by first | exact .inl rfl | exact .inr rfl | assumption) : PST X (.Assign [.Name x pos'] e pos) (tAsg te (gName i)) := by
  intro pins s σ H D h0 I h
  refine wpAny_Assign_Name (thn (he pins s σ H _ h0 I h) fun v s1 hh => ?_) hs
  obtain ⟨y, H1, I1, r1, q1⟩ := hh
  exact store_ok I1 hN hi hx r1 (fun s2 I2 => ⟨_, H1, I2, q1⟩) hf
/-- a def's body keeps its promise; a token is out when it begins; no repr is under way -/
theorem fn_gT {CX : CXT} {P : Program} {w : World} {K : PySem.W.Frag} {mg : Str → Option Value} {base : Heap} {k : Nat} {f : Addr} {fd : FuncData} {name qual : Str} {params : Arguments} {body : List Stmt} {scope : Scope} {dvs : List V} {kws : List (Str × V)}
    {N ps : List Str} {sp : Sp} (F : FunD K name qual params body scope dvs kws f fd) (S : FnScope N ps scope)
    (hnc : ∀ y ∈ scope.names, y.2 ≠ .cell) (hps : 1 ≤ ps.length) (len : ∀ vs H Q E, sp vs H Q E → vs.length = ps.length)
    (hbody : ∀ (cdv : Value) (A : Around) (outer : List Env) (s : Shared) (H : Hp) (vs : List V) (Q : VK) (E : XK), A.guards = some [] → Room k (A.deeper (envOfC qual scope s.heap.objs.size f cdv)) → sp vs H Q E →
      ∃ t, PSsT (cxOf CX P w K mg base N qual scope f cdv A outer s H E) body t ∧ t { nx := fun _ H' => Q .non H', rt := Q } (start N vs) H) :
    FnG P w K mg base CX (k + 1) f fd ps sp := by
  obtain ⟨oc, od, dV, kV, doc, pm, an, cdv, ct, osl, rfl, lk, hcd, _, _⟩ := F.ex
  refine ⟨len, fun A outer s H args us vs Q E hg hr e0 hb r hsp => ?_⟩
  have hl := len _ _ _ _ hsp
  have hul : us.length = ps.length := by rw [← r.length, hl]
  have KX : K.In s.heap := e0.mod.kin.keeps fun b o e => (e0.bs b o e).1
  have lim : s.heap.NoLimit := e0.mod.nolimit.keeps fun b o e => (e0.bs b o e).1
  have hloc : ∀ y ∈ ps.zip us, scope.names.lookup y.1 = some .local := fun ⟨n, v⟩ hy => by
    rcases S.par n (List.of_mem_zip hy).1 with q | q
    · exact q
    · exact absurd rfl (hnc _ (PySem.mem_of_lookup q))
  refine codeAny_call_function hr.depth (KX _ _ lk) rfl S.co S.gen rfl (PySem.W.codeRec_of KX hcd) (hb _ _ _ _ ?_)
  refine wpAny_newFunctionEnv hnc hloc (fun h1 hns hsb => ?_) S.kind
  have hz : (ps.zip us).length = ps.length := by rw [List.length_zip, hul, Nat.min_self]
  have keep : ∀ b o, s.heap.get? b = some o → h1.get? b = some o := fun b o e => hsb.extBut b o (Nat.ne_of_lt (Heap.lt_size e)) (Heap.get?_push_of_some _ e)
  have hcl : cellsFrom (s.heap.objs.size + 1) scope.names [] = [] := cells_none _ _ _ hnc
  have hkl : ∀ y ∈ ps.zip us, (envOfC qual scope s.heap.objs.size f cdv).kindOf y.1 = some .local := fun y hy => by
    first
    | exact hloc y hy
    | (simp only [Env.kindOf]; exact hloc y hy)
    | (unfold Env.kindOf; rw [if_pos S.kind]; exact hloc y hy)
    | simpa [Env.kindOf, envOfC, newEnv, S.kind] using hloc y hy
  have hm : (bindL (envOfC qual scope s.heap.objs.size f cdv).kindOf (ps.zip us) fun _ => none) = fun x => (ps.zip us).reverse.lookup x := by
    funext y
    rw [bindL_loc _ _ hkl y]
    cases (ps.zip us).reverse.lookup y <;> rfl
  have x : InCallC s s.heap.objs.size (bindL (envOfC qual scope s.heap.objs.size f cdv).kindOf (ps.zip us) fun _ => none) (cellsFrom (s.heap.objs.size + 1) scope.names [])
      (bindC (envOfC qual scope s.heap.objs.size f cdv).kindOf (ps.zip us) fun _ => none) ({ s with heap := h1, toks := s.toks + (ps.zip us).length } : Shared) := by
    rw [hm, hcl]
    exact ⟨⟨⟨_, _, rfl⟩, hns, keep, Nat.le_refl _⟩, fun n c hc => absurd hc (by simp), .nil, fun n c hc => absurd hc (by simp)⟩
  have henv : newEnv scope s.heap.objs.size mainGlobals [] (qual ++ ".<locals>.") (some f) cdv none builtinsNs = envOfC qual scope s.heap.objs.size f cdv := by
    unfold envOfC
    rw [hcl] <;> rfl
  have hto : 1 ≤ ({ s with heap := h1, toks := s.toks + (ps.zip us).length } : Shared).toks := by
    show 1 ≤ s.toks + (ps.zip us).length
    omega
  show ({ s with heap := h1, toks := s.toks + (ps.zip us).length } : Shared).heap.NoLimit ∧ codeAny (model P w) A (.func body (newEnv scope s.heap.objs.size mainGlobals [] (qual ++ ".<locals>.") (some f) cdv none builtinsNs)) _ ({ s with heap := h1, toks := s.toks + (ps.zip us).length } : Shared)
  rw [henv]
  generalize ({ s with heap := h1, toks := s.toks + (ps.zip us).length } : Shared) = s1 at x hto ⊢
  refine ⟨lim.keeps x.toInCall.keep, codeAny_func ?_⟩
  obtain ⟨t, ht, hq⟩ := hbody cdv A outer s H vs Q E hg (hr.deeper _) hsp
  have I : Inv (cxOf CX P w K mg base N qual scope f cdv A outer s H E) [] (start N vs) H s1 := inv_start S hr.hd e0 hl r x
  refine wpAny_mono (ht [] s1 (start N vs) H _ hto I hq) (fun fl s' hs => ?_) fun e s' hs => hs
  cases fl with
  | ret u =>
    obtain ⟨v, σ', H', J, rv, q⟩ := hs
    exact ⟨v, H', J.os, J.bare, J.base, J.hok, rv, q⟩
  | next =>
    obtain ⟨σ', H', J, q⟩ := hs
    exact ⟨V.non, H', J.os, J.bare, J.base, J.hok, rfl, q⟩
  | brk => exact hs.elim fun _ z => z.elim fun _ z => z.2.elim
  | cont => exact hs.elim fun _ z => z.elim fun _ z => z.2.elim
end Lw
namespace Lw
open PySem PySem.Spec PyProof.Rows L2
theorem psst_nox {X : Cx} {st : List Stmt} {t : TS} (h : PSsT X.nox st t) : PSsT X st t := fun pins s σ H D h0 I hw =>
  wpAny_mono (h pins s σ H D h0 (I.wish _) hw) (fun _ _ q => q.unwish) fun _ _ z => False.elim z
/-- things that a law puts into lists -/
structure OkD (d : PyData) : Prop where
  sm : Small 200 d
  dp : d.depth ≤ 5
  sh : Short d
  tx : ∀ z, d = .str z → z.length ≤ 11
theorem okD_name {z : Str} (h : nameB z = true) : OkD (.str z) := by
  have h1 := name_len h
  have h2 := name_bytes h
  refine ⟨(small_text (n := 8) h2 h1.2).mono (by decide), by simp [PyData.depth], fun y hy => ?_, fun y hy => ?_⟩
  · cases hy
    omega
  · cases hy
    omega
theorem okD_odd : ∀ d ∈ odds, OkD d := by
  intro d hd
  obtain ⟨h1, h2, _, h4⟩ := odds_small d hd
  refine ⟨h1, h2, h4, ?_⟩
  simp only [odds, odds1, odds2, odds3, List.cons_append, List.nil_append, List.mem_cons, List.not_mem_nil, or_false] at hd
  rcases hd with rfl | rfl | rfl | rfl | rfl | rfl | rfl | rfl | rfl | rfl | rfl | rfl | rfl | rfl | rfl | rfl | rfl | rfl | rfl | rfl | rfl | rfl | rfl | rfl | rfl | rfl | rfl | rfl | rfl
  all_goals
    intro z hz
    first
      | (cases hz; decide +kernel)
      | (exact PyData.noConfusion hz)
theorem okD_list {ds : List PyData} (h : ∀ d ∈ ds, OkD d) (hl : ds.length ≤ 20) : Small 5000 (.list ds) := by
  refine (small_list (n := 200) fun d hd => ⟨(h d hd).sm, Nat.le_trans (h d hd).dp (by decide)⟩).mono ?_
  omega
theorem join_shl : ∀ ts : List Str, (Str.join ", " ts).length ≤ shl ts
  | [] => Nat.zero_le _
  | [x] => by
    show x.length ≤ x.length + 2 + 0
    omega
  | x :: y :: r => by
    have ih := join_shl (y :: r)
    show (x ++ (", " : Str) ++ Str.join ", " (y :: r)).length ≤ _
    have e2 : (", " : Str).length = 2 := by decide +kernel
    have e3 : shl (x :: y :: r) = x.length + 2 + shl (y :: r) := by
      unfold shl
      rw [List.map_cons, List.sum_cons]
    rw [strLen_append, strLen_append, e2, e3]
    omega
theorem small_tupN {n : Nat} {ds : List PyData} (h : ∀ d ∈ ds, Small n d ∧ d.depth ≤ 8) : Small (3 + ds.length * (n + 2)) (.tuple ds) := by
  have h1 : ∀ ds : List PyData, (∀ d ∈ ds, Small n d ∧ d.depth ≤ 8) → PyData.showableAll ds = true ∧ shl (ds.map PyData.shown) ≤ ds.length * (n + 2) ∧ PyData.depthAll ds ≤ 8 := by
    intro ds
    induction ds with
    | nil => exact fun _ => ⟨rfl, Nat.zero_le _, Nat.zero_le _⟩
    | cons d ds ih =>
      intro h
      obtain ⟨i1, i2, i3⟩ := ih fun x hx => h x (List.mem_cons_of_mem _ hx)
      obtain ⟨j1, j2⟩ := h d List.mem_cons_self
      refine ⟨?_, ?_, ?_⟩
      · show (d.showable && PyData.showableAll ds) = true
        rw [j1.sh, i1]
        rfl
      · have e : shl ((d :: ds).map PyData.shown) = d.shown.length + 2 + shl (ds.map PyData.shown) := by
          unfold shl
          rw [List.map_cons, List.map_cons, List.sum_cons]
        have := j1.ln
        rw [e, List.length_cons, Nat.succ_mul]
        omega
      · simp only [PyData.depthAll]
        omega
  obtain ⟨a, b, c⟩ := h1 ds h
  refine ⟨a, ?_, ?_⟩
  · show (tupleText (PyData.shownAll ds)).length ≤ _
    rw [shown_all]
    have j := join_shl (ds.map PyData.shown)
    unfold tupleText
    rw [strLen_append, strLen_append]
    have e1 : ("(" : Str).length = 1 := by decide +kernel
    have e2 : ((if ((ds.map PyData.shown).length == 1) = true then ",)" else ")" : String) : Str).length ≤ 2 := by
      split <;> decide +kernel
    rw [e1]
    omega
  · simp only [PyData.depth]
    omega
theorem okD_tuple {ds : List PyData} (h : ∀ d ∈ ds, OkD d) (hl : ds.length ≤ 20) : Small 5000 (.tuple ds) := by
  refine (small_tupN (n := 200) fun d hd => ⟨(h d hd).sm, Nat.le_trans (h d hd).dp (by decide)⟩).mono ?_
  omega
def lets : List Str := ["aq", "bq", "cq", "dq", "eq", "fq", "gq", "hq", "iq", "jq", "kq", "lq", "mq"]
def ab12 : PyData := .dict [(.str "a", .int 1), (.str "b", .int 2)]
theorem ab12_small : Small 200 ab12 := ⟨by decide +kernel, by decide +kernel, by decide +kernel⟩
theorem lets_small : Small 400 (.list (lets.map PyData.str)) := ⟨by decide +kernel, by decide +kernel, by decide +kernel⟩
/-- what a list of such things is for a sheet -/
theorem okD_sh {ds : List PyData} (h : ∀ d ∈ ds, OkD d) (hl : ds.length ≤ 20) {d : PyData} (hd : d = .list ds ∨ d = .tuple ds) : Sh d := by
  intro es he
  have e : es = ds := by
    rcases hd with rfl | rfl <;> rcases he with he | he <;> first | (cases he; rfl) | cases he
  subst e
  exact ⟨by omega, fun x hx => (h x hx).sh⟩
def shortB : PyData → Bool
  | .str z => decide (z.length ≤ 1000)
  | _ => true
theorem shortB_ok {d : PyData} (h : shortB d = true) : Short d := by
  intro z hz
  subst hz
  exact of_decide_eq_true h
def shB : PyData → Bool
  | .list ds => decide (ds.length ≤ 900) && ds.all shortB
  | .tuple ds => decide (ds.length ≤ 900) && ds.all shortB
  | _ => true
theorem shB_ok {d : PyData} (h : shB d = true) : Sh d := by
  intro ds hd
  have h' : (decide (ds.length ≤ 900) && ds.all shortB) = true := by
    rcases hd with rfl | rfl <;> exact h
  rw [Bool.and_eq_true] at h'
  exact ⟨of_decide_eq_true h'.1, fun x hx => shortB_ok (List.all_eq_true.mp h'.2 x hx)⟩
theorem sh_odd : ∀ d ∈ odds, Sh d := fun d hd => shB_ok (List.all_eq_true.mp (show odds.all shB = true by decide +kernel) d hd)
theorem sh_lets : Sh (.list (lets.map PyData.str)) := shB_ok (by decide +kernel)
theorem sh_ab : Sh ab12 := shB_ok rfl
def fwData (d : PyData) : PyData := match fwD d with
  | none => .none
  | some i => .int i
theorem fw_dq {K : PySem.W.Frag} {H : Hp} (d : PyData) : Dq K H (fwV d) (fwData d) := by
  unfold fwV fwData
  cases fwD d with
  | none => exact .non
  | some i => exact .int i
theorem fw_range {seen : List Str} : ∀ {ds : List PyData} {seen : List Str} {i j : Nat}, fwGo seen ds i = some j → j < i + ds.length
  | [], _, _, _, h => by cases h
  | d :: r, seen, i, j, h => by
    rw [List.length_cons]
    cases e : nameD d with
    | false =>
      rw [fwGo_bad e] at h
      cases h
      omega
    | true =>
      cases d with
      | str z =>
        by_cases hz : z ∈ seen
        · rw [fwGo_in hz] at h
          cases h
          omega
        · rw [fwGo_ok e hz] at h
          have := fw_range (seen := seen) h
          omega
      | _ => cases e
theorem fw_small (d : PyData) : (fwData d).showable = true ∧ (fwData d).shown.length ≤ sizeLine ∧ (fwData d).depth ≤ 60 := by
  have key : ∀ i, fwD d = some i → i.natAbs < 2 ^ 1000 := by
    have kl : ∀ ds i, fwL ds = some i → i.natAbs < 2 ^ 1000 := by
      intro ds i h
      unfold fwL at h
      split at h
      · rename_i hl
        cases e : fwGo [] ds 0 with
        | none =>
          rw [e] at h
          cases h
        | some j =>
          rw [e] at h
          cases h
          have := fw_range (seen := []) e
          show (Int.ofNat j).natAbs < _
          have e2 : (Int.ofNat j).natAbs = j := rfl
          rw [e2]
          exact Nat.lt_trans (show j < 13 by omega) (by decide)
      · cases h
        decide
    intro i h
    cases d with
    | list ds => exact kl ds i h
    | tuple ds => exact kl ds i h
    | _ =>
      cases h
      decide
  unfold fwData
  cases e : fwD d with
  | none => exact ⟨by decide +kernel, by decide +kernel, by decide +kernel⟩
  | some i => exact (small_int (key i e)).line (by decide)
def wordOf : PyData → Str
  | .str z => z
  | _ => "B"
theorem lets_at {i c : Nat} (h : ("abcdefghijklm" : Str).cps[i]? = some c) : lets[i]? = some ((⟨#[c]⟩ : Str) ++ ("q" : Str)) := by
  have key : ∀ j < 13, lets[j]? = (("abcdefghijklm" : Str).cps[j]?).map fun c => (⟨#[c]⟩ : Str) ++ ("q" : Str) := by decide +kernel
  have hi : i < 13 := by
    have := (Array.getElem?_eq_some_iff.mp h).1
    exact this
  rw [key i hi, h]
  rfl
end Lw

set_option Elab.async false
set_option linter.all false
set_option maxRecDepth 100000
set_option maxHeartbeats 4000000
namespace HT
open PySem PySem.Spec PyProof.Rows
section
variable {prog : Program} {w : World} {A : Around} {E : Value → Shared → Prop} {s : Shared}
theorem adjust_rev (n : Nat) : Builtin.Slice.sliceAdjust none none (-1) (n : Int) = ((n : Int) - 1, -1) := by
  unfold Builtin.Slice.sliceAdjust
  rfl
theorem places_rev (n : Nat) : Builtin.Slice.slicePlaces ((n : Int) - 1) (-1) (-1) = n := by
  unfold Builtin.Slice.slicePlaces
  have h1 : ¬ ((-1 : Int) > 0) := by omega
  rw [if_neg h1]
  have e : (-(-1 : Int)) = 1 := rfl
  rw [e, Int.ediv_one]
  split <;> omega
theorem pick_rev (xs : Array Value) : ((List.range xs.size).filterMap fun (m : Nat) => xs[(((xs.size : Int) - 1) + (m : Int) * (-1)).toNat]?).toArray = xs.toList.reverse.toArray := by
  have e : (fun (m : Nat) => xs[(((xs.size : Int) - 1) + (m : Int) * (-1)).toNat]?) = (fun k => xs[k]?) ∘ fun k => xs.size - 1 - k := by
    funext m
    have : (((xs.size : Int) - 1) + (m : Int) * (-1)).toNat = xs.size - 1 - m := by omega
    show _ = xs[xs.size - 1 - m]?
    rw [this]
  rw [e, ← List.filterMap_map, PySem.W.krv_range, List.filterMap_reverse, PySem.W.krv_all]
theorem getItem_tuple_rev {t sl : Addr} {items : Array Value} {vl vu vs : Value} {Q : Value → Shared → Prop} (ht : IsTup s.heap t items) (hs : s.heap.IsSliceOf sl vl vu vs) (pl : IsPart vl none) (pu : IsPart vu none) (ps : IsPart vs (some (-1)))
    (h : Q (.ref s.heap.objs.size) { s with heap := s.heap.push { cls := .type "tuple", data := .seq items.toList.reverse.toArray } })
    (hsz : items.size ≤ sizeLine) : wpAny (model prog w) A (getItem (.ref t) (.ref sl)) Q E s := by
  have htake : sizeOk (.seq items.toList.reverse.toArray) := by
    show items.toList.reverse.toArray.size ≤ sizeLine
    rw [List.size_toArray, List.length_reverse, Array.length_toList]
    exact hsz
  obtain ⟨os, hos, hcs, hds⟩ := id hs
  have hTs : s.TypeIs (.ref sl) "slice" := ⟨os, hos, hcs⟩
  unfold getItem
  try with_reducible refine wpAny_holding ?_
  first | refine wpAny_bind (wpAny_pure ?_) | skip
  refine wpAny_bind (wpAny_sequenceKey ht.typeIs (by decide) ?_)
  refine wpAny_bind (wpAny_callSpecial?_slot (name := Str.ofString "__getitem__") ht.typeIs PyProof.Rows.slot_tuple_getitem
    (wpAny_call_entry PyProof.Rows.slot_tuple_getitem ht.typeIs entry_tuple_getitem ?_ (args_tuple_getitem _ _)))
  show wpAny _ _ (Builtin.Tuple.tupleItemsOf (.ref t) >>= _) _ _ s
  refine wpAny_bind (tupleItemsOf_ ht ?_)
  refine wpAny_bind (wpAny_typeOf hTs ?_)
  rw [if_pos (by decide)]
  have hap : ∀ {A : Around} {R : Int × Int × Nat → Shared → Prop}, R ((items.size : Int) - 1, -1, items.size) s → wpAny (model prog w) A (Builtin.Slice.sliceApplied (.ref sl) (pure (items.size : Int))) R E s := by
    intro A R hR
    unfold Builtin.Slice.sliceApplied Builtin.Slice.sliceFields
    refine wpAny_bind (wpAny_bind (wpAny_field hos hds (x := vl) rfl (wpAny_bind (wpAny_field hos hds (x := vu) rfl (wpAny_bind (wpAny_field hos hds (x := vs) rfl (wpAny_pure ?_)))))))
    refine wpAny_bind (slicePart_ ps ?_)
    show wpAny _ _ (if ((-1 : Int) == 0) = true then _ else _) _ _ s
    rw [if_neg (by decide)]
    refine wpAny_bind (slicePart_ pl (wpAny_bind (slicePart_ pu (wpAny_bind (wpAny_pure ?_)))))
    show wpAny _ _ (match Builtin.Slice.sliceAdjust none none (-1) (items.size : Int) with | (lo, hi) => pure (lo, (-1 : Int), Builtin.Slice.slicePlaces lo hi (-1))) _ _ s
    rw [adjust_rev]
    show wpAny _ _ (pure ((items.size : Int) - 1, (-1 : Int), Builtin.Slice.slicePlaces ((items.size : Int) - 1) (-1) (-1))) _ _ s
    rw [places_rev]
    exact wpAny_pure hR
  refine wpAny_bind (hap ?_)
  have hno : ¬ ((((items.size : Int) - 1) == 0 && (-1 : Int) == 1 && items.size == items.size) = true) := by
    intro q
    rw [Bool.and_eq_true, Bool.and_eq_true] at q
    exact absurd q.1.2 (by decide)
  show wpAny _ _ (if (((items.size : Int) - 1) == 0 && (-1 : Int) == 1 && items.size == items.size) = true then _ else _) _ _ s
  rw [if_neg hno, pick_rev]
  first
    | exact wpAny_bind (m := Builtin.Tuple.tupleExact _) (wpAny_newObj_type (wpAny_pure ⟨_, rfl, wpAny_pure h⟩) htake)
    | exact wpAny_bind (m := Builtin.Tuple.tupleExact _) (wpAny_newObj_type (wpAny_bind (wpAny_pure (wpAny_pure ⟨_, rfl, wpAny_pure h⟩))) htake)
    | exact wpAny_bind (wpAny_bind (m := Builtin.Tuple.tupleExact _) (wpAny_newObj_type (wpAny_pure (wpAny_pure ⟨_, rfl, wpAny_pure h⟩)) htake))
    | exact wpAny_bind (wpAny_bind (m := Builtin.Tuple.tupleExact _) (wpAny_newObj_type (wpAny_pure ⟨_, rfl, wpAny_pure h⟩) htake))
end
end HT
namespace Lw
open PySem PySem.Spec PyProof.Rows L2
def tRevT (K : PySem.W.Frag) (te : TE) : TE := fun σ H Q => te σ H fun x H1 => ∃ a xs, x = .ref a ∧ SqT K H1 a xs ∧ ∀ p, H1 p = none → Q (.ref p) (upd H1 p (.tup xs.reverse))
theorem pe_revT {X : Cx} {e : Expr} {te : TE} {k : Nat} {p1 p2 p3 pos : Pos} (he : PE X e te) : PE X (.Subscript e (.Slice none none (some (.UnaryOp .USub (.Constant (.int 1) k p1) p2)) p3) pos) (tRevT X.K te) := by
  refine ⟨fun pins s σ H Q I h => ?_⟩
  refine Subscript_ (thn (he.run pins s σ H _ I h) fun v s1 ⟨x, H1, I1, r1, q1⟩ => ?_)
  obtain ⟨a, xs, ex, hx, q⟩ := q1
  subst ex
  cases r1
  have hst : PO X (some (.UnaryOp .USub (.Constant (.int 1) k p1) p2)) (tPart (tUn (rU fun i => .int (-i)) (tC (.int 1)))) := po_some (pe_un un_neg pe_int)
  refine wpAny_Slice (thn (po_none.run pins s1 σ H1 (fun o H2 => o = none ∧ H2 = H1) I1 ⟨rfl, rfl⟩) fun vl s2 ⟨l, H2, I2, pl, el, e2⟩ => ?_)
  subst el e2
  refine thn (po_none.run pins s2 σ H2 (fun o H3 => o = none ∧ H3 = H2) I2 ⟨rfl, rfl⟩) fun vu s3 ⟨u, H3, I3, pu, eu, e3⟩ => ?_
  subst eu e3
  refine thn (hst.run pins s3 σ H3 (fun o H4 => o = some (-1) ∧ H4 = H3) I3 ⟨1, rfl, -1, rfl, rfl, rfl⟩) fun vs s4 ⟨o, H4, I4, ps, eo, e4⟩ => ?_
  subst eo e4
  have I5 : Inv X pins σ H4 { s4 with heap := s4.heap.push { cls := .type "slice", data := .fields #[vl, vu, vs] } } := I4.kept (t' := s4.toks) fun b ob q => Heap.get?_push_of_some _ q
  obtain ⟨its, r, ht, hz⟩ := I5.tuple hx
  have hlen := r.length
  show wpAny (model X.prog X.w) X.A (subscriptTail e (.Slice none none (some (.UnaryOp .USub (.Constant (.int 1) k p1) p2)) p3) (.ref a) (.ref s4.heap.objs.size)) (EP X pins σ Q) X.xe { s4 with heap := s4.heap.push { cls := .type "slice", data := .fields #[vl, vu, vs] } }
  refine tail_any (ops := [.ref a, .ref s4.heap.objs.size]) ht.typeIs (PyProof.Rows.slot_tuple_getitem.lookup) ?_ (by with_unfolding_all rfl)
  refine HT.getItem_tuple_rev ht (Heap.IsSliceOf.new _ vl vu vs) pl pu ps ?_ (by rw [List.size_toArray]; omega)
  refine ⟨.ref _, _, I5.laid (t' := s4.toks) (o := .tup xs.reverse) (fun b ob q => Heap.get?_push_of_some _ q) (Nat.le_refl _) ?_, rfl, q _ (I5.hok.fresh (Nat.le_refl _))⟩
  exact ⟨by rw [List.length_reverse]; exact hz, _, r.reverse, IsTup.new _ _⟩
end Lw

set_option Elab.async false
set_option linter.all false
set_option maxRecDepth 100000
set_option maxHeartbeats 4000000
/-! Values without the heap: a body is read over data; what is written lies apart. -/
namespace Dl
open PySem PySem.Spec PyProof.Rows L2 Lw
/-- a value: data; a sheet; a dict by texts; an exception that was taken; the pot; another value as it is -/
inductive Av where
  | d (x : PyData)
  | sh (C : Addr) (ns : List Str)
  | kd (kvs : List (Str × PyData))
  | kp (kvs : List (Str × PyData))
  | ex (a dx : Addr) (fs : List (Str × PyData))
  | pot
  | v (x : V)
  /-- a list, a tuple with things in it that are no data; an instance whose attributes stand for good -/
  | ls (xs : List Av)
  | tp (xs : List Av)
  | ob (C : Addr) (fs : List (Str × Av))
/-- a slot: nothing known; a value; a list of its own that may be changed -/
inductive Sl where
  | no
  | va (x : Av)
  | ow (xs : List PyData)
abbrev Gm := List Sl
abbrev KdR (K : PySem.W.Frag) (F : Hp) : List (Key × V) → List (Str × PyData) → Prop := Paired fun (p : Key × V) (q : Str × PyData) => p.1 = Sum.inr q.1 ∧ Dq K F p.2 q.2
def XdOk (K : PySem.W.Frag) (F : Hp) (dx : Addr) (fs : List (Str × PyData)) : Prop := ∃ ws, F dx = some (.xd ws) ∧ ∀ f x, fs.lookup f = some x → ∃ y, ws.lookup f = some y ∧ Dq K F y x
mutual
/-- a value and what is known of it -/
inductive Ro (K : PySem.W.Frag) (p : Option Addr) (F : Hp) : Av → V → Prop
  | d {x : PyData} {v : V} (h : Dq K F v x) : Ro K p F (.d x) v
  | sh {C b : Addr} {ns : List Str} (h : ShP K C F b ns) : Ro K p F (.sh C ns) (.ref b)
  | kd {kvs : List (Str × PyData)} {b : Addr} {o : Obj} {ws : List (Key × V)} (h : F b = some (.frz o (.dK ws))) (g : KdR K F ws kvs) : Ro K p F (.kd kvs) (.ref b)
  | kp {kvs : List (Str × PyData)} {b : Addr} {ws : List (Key × V)} (h : F b = some (.dK ws)) (g : KdR K F ws kvs) : Ro K p F (.kp kvs) (.ref b)
  | ex {a dx : Addr} {fs : List (Str × PyData)} (h : XdOk K F dx fs) : Ro K p F (.ex a dx fs) (.ref a)
  | pot {a : Addr} (h : p = some a) : Ro K p F .pot (.ref a)
  | v {x : V} : Ro K p F (.v x) x
  | ls {xs : List Av} {b : Addr} {vs : List V} (h : SqL K F b vs) (g : RoL K p F xs vs) : Ro K p F (.ls xs) (.ref b)
  | tp {xs : List Av} {b : Addr} {vs : List V} (h : SqT K F b vs) (g : RoL K p F xs vs) : Ro K p F (.tp xs) (.ref b)
  | ob {C : Addr} {fs : List (Str × Av)} {b dx : Addr} {ws : List (Str × V)} (h : F b = some (.ins C dx ws)) (g : RoF K p F fs ws) : Ro K p F (.ob C fs) (.ref b)
inductive RoL (K : PySem.W.Frag) (p : Option Addr) (F : Hp) : List Av → List V → Prop
  | nil : RoL K p F [] []
  | cons {x : Av} {v : V} {xs : List Av} {vs : List V} (h : Ro K p F x v) (g : RoL K p F xs vs) : RoL K p F (x :: xs) (v :: vs)
inductive RoF (K : PySem.W.Frag) (p : Option Addr) (F : Hp) : List (Str × Av) → List (Str × V) → Prop
  | nil : RoF K p F [] []
  | cons {n : Str} {x : Av} {v : V} {xs : List (Str × Av)} {vs : List (Str × V)} (h : Ro K p F x v) (g : RoF K p F xs vs) : RoF K p F ((n, x) :: xs) ((n, v) :: vs)
end
def Ra (K : PySem.W.Frag) (p : Option Addr) (F : Hp) : Av → V → Prop
  | .d x, v => Dq K F v x
  | .sh C ns, v => ∃ b, v = .ref b ∧ ShP K C F b ns
  | .kd kvs, v => ∃ b o ws, v = .ref b ∧ F b = some (.frz o (.dK ws)) ∧ KdR K F ws kvs
  | .kp kvs, v => ∃ b ws, v = .ref b ∧ F b = some (.dK ws) ∧ KdR K F ws kvs
  | .ex a dx fs, v => v = .ref a ∧ XdOk K F dx fs
  | .pot, v => ∃ a, p = some a ∧ v = .ref a
  | .v x, v => v = x
  | .ls xs, v => ∃ b vs, v = .ref b ∧ SqL K F b vs ∧ RoL K p F xs vs
  | .tp xs, v => ∃ b vs, v = .ref b ∧ SqT K F b vs ∧ RoL K p F xs vs
  | .ob C fs, v => ∃ b dx ws, v = .ref b ∧ F b = some (.ins C dx ws) ∧ RoF K p F fs ws
abbrev RaL (K : PySem.W.Frag) (p : Option Addr) (F : Hp) : List Av → List V → Prop := Paired (Ra K p F)
theorem rd_same {F F' : Hp} {b : Addr} {u : HO} (s : Same F F') (h : Rd F b u) : Rd F' b u := by
  rcases h with h | ⟨o, h⟩
  · exact .inl (s _ _ h)
  · exact .inr ⟨o, s _ _ h⟩
theorem KdR.same {K : PySem.W.Frag} {F F' : Hp} (s : Same F F') : ∀ {ws : List (Key × V)} {kvs : List (Str × PyData)}, KdR K F ws kvs → KdR K F' ws kvs
  | _, _, .nil => .nil
  | _, _, .cons ⟨h1, h2⟩ g => .cons ⟨h1, h2.same s⟩ (KdR.same s g)
theorem XdOk.same {K : PySem.W.Frag} {F F' : Hp} {dx : Addr} {fs : List (Str × PyData)} (s : Same F F') (h : XdOk K F dx fs) : XdOk K F' dx fs := by
  obtain ⟨ws, h1, h2⟩ := h
  refine ⟨ws, s _ _ h1, fun f x e => ?_⟩
  obtain ⟨y, h3, h4⟩ := h2 f x e
  exact ⟨y, h3, h4.same s⟩
mutual
theorem Ro.same {K : PySem.W.Frag} {p : Option Addr} {F F' : Hp} (s : Same F F') : ∀ {x : Av} {v : V}, Ro K p F x v → Ro K p F' x v
  | _, _, .d h => .d (Dq.same s h)
  | _, _, .sh h => .sh (h.same s)
  | _, _, .kd h g => .kd (s _ _ h) (KdR.same s g)
  | _, _, .kp h g => .kp (s _ _ h) (KdR.same s g)
  | _, _, .ex h => .ex (h.same s)
  | _, _, .pot h => .pot h
  | _, _, .v => .v
  | _, _, .ls h g => .ls (s.seq h) (RoL.same s g)
  | _, _, .tp h g => .tp (same_t s h) (RoL.same s g)
  | _, _, .ob h g => .ob (s _ _ h) (RoF.same s g)
theorem RoL.same {K : PySem.W.Frag} {p : Option Addr} {F F' : Hp} (s : Same F F') : ∀ {xs : List Av} {vs : List V}, RoL K p F xs vs → RoL K p F' xs vs
  | _, _, .nil => .nil
  | _, _, .cons h g => .cons (Ro.same s h) (RoL.same s g)
theorem RoF.same {K : PySem.W.Frag} {p : Option Addr} {F F' : Hp} (s : Same F F') : ∀ {xs : List (Str × Av)} {vs : List (Str × V)}, RoF K p F xs vs → RoF K p F' xs vs
  | _, _, .nil => .nil
  | _, _, .cons h g => .cons (Ro.same s h) (RoF.same s g)
end
theorem Ra.ro {K : PySem.W.Frag} {p : Option Addr} {F : Hp} {x : Av} {v : V} (h : Ra K p F x v) : Ro K p F x v := by
  cases x with
  | d x => exact .d h
  | sh C ns =>
    obtain ⟨b, rfl, g⟩ := h
    exact .sh g
  | kd kvs =>
    obtain ⟨b, o, ws, rfl, g1, g2⟩ := h
    exact .kd g1 g2
  | kp kvs =>
    obtain ⟨b, ws, rfl, g1, g2⟩ := h
    exact .kp g1 g2
  | ex a dx fs =>
    obtain ⟨rfl, g⟩ := h
    exact .ex g
  | pot =>
    obtain ⟨a, g, rfl⟩ := h
    exact .pot g
  | v x =>
    cases (show v = x from h)
    exact .v
  | ls xs =>
    obtain ⟨b, vs, rfl, g1, g2⟩ := h
    exact .ls g1 g2
  | tp xs =>
    obtain ⟨b, vs, rfl, g1, g2⟩ := h
    exact .tp g1 g2
  | ob C fs =>
    obtain ⟨b, dx, ws, rfl, g1, g2⟩ := h
    exact .ob g1 g2
theorem Ro.ra {K : PySem.W.Frag} {p : Option Addr} {F : Hp} {x : Av} {v : V} (h : Ro K p F x v) : Ra K p F x v := by
  cases h with
  | d h => exact h
  | sh h => exact ⟨_, rfl, h⟩
  | kd h g => exact ⟨_, _, _, rfl, h, g⟩
  | kp h g => exact ⟨_, _, rfl, h, g⟩
  | ex h => exact ⟨rfl, h⟩
  | pot h => exact ⟨_, h, rfl⟩
  | v => exact rfl
  | ls h g => exact ⟨_, _, rfl, h, g⟩
  | tp h g => exact ⟨_, _, rfl, h, g⟩
  | ob h g => exact ⟨_, _, _, rfl, h, g⟩
theorem RaL.ro {K : PySem.W.Frag} {p : Option Addr} {F : Hp} : ∀ {xs : List Av} {vs : List V}, RaL K p F xs vs → RoL K p F xs vs
  | _, _, .nil => .nil
  | _, _, .cons h g => .cons h.ro (RaL.ro g)
theorem RoL.ra {K : PySem.W.Frag} {p : Option Addr} {F : Hp} : ∀ {xs : List Av} {vs : List V}, RoL K p F xs vs → RaL K p F xs vs
  | _, _, .nil => .nil
  | _, _, .cons h g => .cons h.ra (RoL.ra g)
theorem Ra.same {K : PySem.W.Frag} {p : Option Addr} {F F' : Hp} {x : Av} {v : V} (s : Same F F') (h : Ra K p F x v) : Ra K p F' x v := (Ro.same s h.ro).ra
theorem RaL.same {K : PySem.W.Frag} {p : Option Addr} {F F' : Hp} (s : Same F F') : ∀ {xs : List Av} {vs : List V}, RaL K p F xs vs → RaL K p F' xs vs
  | _, _, .nil => .nil
  | _, _, .cons h g => .cons (Ra.same s h) (RaL.same s g)
theorem Same.tr {A B C : Hp} (x : Same A B) (y : Same B C) : Same A C := fun b o h => y b o (x b o h)
/-! ## what may happen to the heap: F the part that stands for good; the pot at p -/
structure Ext (p : Option Addr) (F H F' H' : Hp) : Prop where
  ff : Same F F'
  fh : Same F' H'
  keep : ∀ b o, p ≠ some b → H b = some o → H' b = some o
  off : ∀ b, H b ≠ none → F b = none → F' b = none
  pot : ∀ a, p = some a → PotAt H' a ∧ F' a = none
abbrev At (p : Option Addr) (F H : Hp) : Prop := Ext p F H F H
section
variable {p : Option Addr} {F H F1 H1 F2 H2 : Hp}
theorem At.mk' (fh : Same F H) (pot : ∀ a, p = some a → PotAt H a ∧ F a = none) : At p F H := ⟨fun _ _ e => e, fh, fun _ _ _ e => e, fun _ _ e => e, pot⟩
theorem Ext.at1 (e : Ext p F H F1 H1) : At p F1 H1 := At.mk' e.fh e.pot
theorem Ext.live (e : Ext p F H F1 H1) {b : Addr} (h : H b ≠ none) : H1 b ≠ none := by
  by_cases q : p = some b
  · exact pot_some (e.pot b q).1
  · cases z : H b with
    | none => exact absurd z h
    | some o =>
      rw [e.keep b o q z]
      exact fun y => nomatch y
theorem Ext.trans (x : Ext p F H F1 H1) (y : Ext p F1 H1 F2 H2) : Ext p F H F2 H2 :=
  ⟨Same.tr x.ff y.ff, y.fh, fun b o q e => y.keep b o q (x.keep b o q e), fun b h e => y.off b (x.live h) (x.off b h e), y.pot⟩
theorem Ext.new {q : Addr} {o : HO} (x : At p F H) (n : H q = none) : Ext p F H (upd F q o) (upd H q o) := by
  have nF : F q = none := by
    cases e : F q with
    | none => rfl
    | some u =>
      rw [x.fh _ _ e] at n
      cases n
  refine ⟨same_upd nF, fun b u e => ?_, fun b u _ e => ?_, fun b h e => ?_, fun a e => ?_⟩
  · by_cases hb : b = q
    · subst hb
      rw [upd_same] at e
      rw [upd_same]
      exact e
    · rw [upd_ne hb] at e
      rw [upd_ne hb]
      exact x.fh _ _ e
  · rw [upd_ne (ne_of_none e n)]
    exact e
  · have hb : b ≠ q := fun z => h (z ▸ n)
    rw [upd_ne hb]
    exact e
  · obtain ⟨h1, h2⟩ := x.pot a e
    have na : a ≠ q := (h1.ne n).symm
    refine ⟨h1.new n, ?_⟩
    rw [upd_ne na]
    exact h2
/-- a new place that is not for good -/
theorem Ext.newM {q : Addr} {o : HO} (x : At p F H) (n : H q = none) : Ext p F H F (upd H q o) := by
  refine ⟨fun _ _ e => e, fun b u e => ?_, fun b u _ e => ?_, fun b h e => e, fun a e => ?_⟩
  · rw [upd_ne (ne_of_none (x.fh _ _ e) n)]
    exact x.fh _ _ e
  · rw [upd_ne (ne_of_none e n)]
    exact e
  · obtain ⟨h1, h2⟩ := x.pot a e
    exact ⟨h1.new n, h2⟩
theorem Ext.of_same (x : At p F H) (s : Same H H1) : Ext p F H F H1 :=
  ⟨fun _ _ e => e, Same.tr x.fh s, fun b o _ e => s b o e, fun _ _ e => e, fun a e => ⟨(x.pot a e).1.same s, (x.pot a e).2⟩⟩
end
/-! ## a body: what stood at its entry, and its slots -/
structure Zn where
  p : Option Addr
  F0 : Hp
  H0 : Hp
  /-- what has stood for good at a loop's start -/
  G : Hp
abbrev Zn.at_ (Z : Zn) (G : Hp) : Zn := { Z with G := G }
structure Rep (K : PySem.W.Frag) (Z : Zn) (F H : Hp) (σ : L2.St) (Γ : Gm) : Prop where
  ext : Ext Z.p Z.F0 Z.H0 F H
  pz : ∀ a, Z.p = some a → Z.H0 a ≠ none
  fl : Same Z.G F
  len : σ.length = Γ.length
  va : ∀ (i : Nat) (x : Av), Γ[i]? = some (.va x) → ∃ v, σ[i]? = some (some v) ∧ Ra K Z.p F x v
  ow : ∀ (i : Nat) (xs : List PyData), Γ[i]? = some (.ow xs) → ∃ b vs, σ[i]? = some (some (.ref b)) ∧ H b = some (.lst vs) ∧ F b = none ∧ Z.H0 b = none ∧ DqAll K F vs xs
  dis : ∀ (i j : Nat) (xs ys : List PyData) (b : Addr), Γ[i]? = some (.ow xs) → Γ[j]? = some (.ow ys) → σ[i]? = some (some (.ref b)) → σ[j]? = some (some (.ref b)) → i = j
section
variable {K : PySem.W.Frag} {Z : Zn} {F H F' H' : Hp} {σ : L2.St} {Γ : Gm}
theorem Rep.now (r : Rep K Z F H σ Γ) : At Z.p F H := r.ext.at1
theorem Rep.notpot (r : Rep K Z F H σ Γ) {b : Addr} (h : Z.H0 b = none) : Z.p ≠ some b := fun e => r.pz b e h
theorem Rep.step (r : Rep K Z F H σ Γ) (e : Ext Z.p F H F' H') : Rep K Z F' H' σ Γ := by
  refine ⟨r.ext.trans e, r.pz, Same.tr r.fl e.ff, r.len, fun i x h => ?_, fun i xs h => ?_, r.dis⟩
  · obtain ⟨v, h1, h2⟩ := r.va i x h
    exact ⟨v, h1, h2.same e.ff⟩
  · obtain ⟨b, vs, h1, h2, h3, h4, h5⟩ := r.ow i xs h
    exact ⟨b, vs, h1, e.keep b _ (r.notpot h4) h2, e.off b (by rw [h2]; exact fun z => nomatch z) h3, h4, DqAll.same e.ff h5⟩
/-- the loop's start, and back -/
theorem Rep.raise (r : Rep K Z F H σ Γ) (G : Hp) (s : Same G F) : Rep K (Z.at_ G) F H σ Γ := ⟨r.ext, r.pz, s, r.len, r.va, r.ow, r.dis⟩
theorem Rep.lower {G : Hp} (r : Rep K (Z.at_ G) F H σ Γ) (s : Same Z.G G) : Rep K Z F H σ Γ := ⟨r.ext, r.pz, Same.tr s r.fl, r.len, r.va, r.ow, r.dis⟩
/-- a slot is set -/
theorem Rep.set (r : Rep K Z F H σ Γ) {i : Nat} {x : Av} {v : V} (h : Ra K Z.p F x v) : Rep K Z F H (σ.set i (some v)) (Γ.set i (.va x)) := by
  have same : ∀ j, j ≠ i → (σ.set i (some v))[j]? = σ[j]? ∧ (Γ.set i (Sl.va x))[j]? = Γ[j]? := fun j hj => ⟨List.getElem?_set_ne (Ne.symm hj), List.getElem?_set_ne (Ne.symm hj)⟩
  have own : ∀ j xs, (Γ.set i (Sl.va x))[j]? = some (.ow xs) → j ≠ i ∧ Γ[j]? = some (.ow xs) := fun j xs e => by
    by_cases hj : j = i
    · subst hj
      by_cases hl : j < Γ.length
      · rw [List.getElem?_set_self hl] at e
        cases e
      · rw [List.getElem?_eq_none (by rw [List.length_set]; omega)] at e
        cases e
    · exact ⟨hj, by rw [← (same j hj).2]; exact e⟩
  refine ⟨r.ext, r.pz, r.fl, by rw [List.length_set, List.length_set]; exact r.len, fun j y e => ?_, fun j xs e => ?_, fun j k xs ys b e1 e2 e3 e4 => ?_⟩
  · by_cases hj : j = i
    · subst hj
      by_cases hl : j < Γ.length
      · rw [List.getElem?_set_self hl] at e
        cases e
        exact ⟨v, List.getElem?_set_self (by rw [r.len]; exact hl), h⟩
      · rw [List.getElem?_eq_none (by rw [List.length_set]; omega)] at e
        cases e
    · rw [(same j hj).2] at e
      rw [(same j hj).1]
      exact r.va j y e
  · obtain ⟨hj, e⟩ := own j xs e
    rw [(same j hj).1]
    exact r.ow j xs e
  · obtain ⟨hj, e1⟩ := own j xs e1
    obtain ⟨hk, e2⟩ := own k ys e2
    rw [(same j hj).1] at e3
    rw [(same k hk).1] at e4
    exact r.dis j k xs ys b e1 e2 e3 e4
/-- less is known of the slots -/
def Less (Γ Γ' : Gm) : Prop := Γ'.length = Γ.length ∧ ∀ (i : Nat) (s : Sl), Γ'[i]? = some s → s = .no ∨ Γ[i]? = some s
theorem Rep.less (r : Rep K Z F H σ Γ) {Γ' : Gm} (l : Less Γ Γ') : Rep K Z F H σ Γ' := by
  have get : ∀ (i : Nat) (s : Sl), Γ'[i]? = some s → s ≠ .no → Γ[i]? = some s := fun i s e n => (l.2 i s e).resolve_left n
  refine ⟨r.ext, r.pz, r.fl, r.len.trans l.1.symm, fun i x e => r.va i x (get i _ e (fun z => nomatch z)), fun i xs e => r.ow i xs (get i _ e (fun z => nomatch z)), fun i j xs ys b e1 e2 => r.dis i j xs ys b (get i _ e1 (fun z => nomatch z)) (get j _ e2 (fun z => nomatch z))⟩
/-- own lists as data -/
def Sl.frz : Sl → Sl
  | .ow xs => .va (.d (.list xs))
  | s => s
def frz (Γ : Gm) : Gm := Γ.map Sl.frz
theorem frz_ow {i : Nat} {xs : List PyData} : (frz Γ)[i]? = some (.ow xs) → False := by
  unfold frz
  rw [List.getElem?_map]
  intro e
  obtain ⟨s, _, e2⟩ := Option.map_eq_some_iff.mp e
  cases s <;> cases e2
/-- the part that stands for good, with the own lists -/
def IsOwn (σ : L2.St) (Γ : Gm) (b : Addr) : Prop := ∃ (i : Nat) (xs : List PyData), Γ[i]? = some (Sl.ow xs) ∧ σ[i]? = some (some (V.ref b))
open Classical in
noncomputable def Fo (H F : Hp) (σ : L2.St) (Γ : Gm) : Hp := fun b => if IsOwn σ Γ b then H b else F b
open Classical in
noncomputable def Fm (F' : Hp) (σ : L2.St) (Γ : Gm) : Hp := fun b => if IsOwn σ Γ b then none else F' b
theorem Fo_own {b : Addr} (h : IsOwn σ Γ b) : Fo H F σ Γ b = H b := by
  unfold Fo
  rw [if_pos h]
theorem Fo_not {b : Addr} (h : ¬ IsOwn σ Γ b) : Fo H F σ Γ b = F b := by
  unfold Fo
  rw [if_neg h]
theorem Fm_own {b : Addr} (h : IsOwn σ Γ b) : Fm F' σ Γ b = none := by
  unfold Fm
  rw [if_pos h]
theorem Fm_not {b : Addr} (h : ¬ IsOwn σ Γ b) : Fm F' σ Γ b = F' b := by
  unfold Fm
  rw [if_neg h]
theorem Rep.own_at (r : Rep K Z F H σ Γ) {b : Addr} (h : IsOwn σ Γ b) : ∃ vs, H b = some (.lst vs) ∧ F b = none ∧ Z.H0 b = none := by
  obtain ⟨i, xs, e1, e2⟩ := h
  obtain ⟨b', vs, h1, h2, h3, h4, _⟩ := r.ow i xs e1
  rw [e2] at h1
  cases h1
  exact ⟨vs, h2, h3, h4⟩
theorem Rep.fo_same (r : Rep K Z F H σ Γ) : Same F (Fo H F σ Γ) := fun b o e => by
  by_cases h : IsOwn σ Γ b
  · obtain ⟨vs, _, h3, _⟩ := r.own_at h
    rw [h3] at e
    cases e
  · rw [Fo_not h]
    exact e
theorem Rep.freeze (r : Rep K Z F H σ Γ) : Rep K Z (Fo H F σ Γ) H σ (frz Γ) := by
  have s := r.fo_same
  refine ⟨⟨Same.tr r.ext.ff s, fun b o e => ?_, r.ext.keep, fun b h e => ?_, fun a e => ?_⟩, r.pz, Same.tr r.fl s, by unfold frz; rw [List.length_map]; exact r.len, fun i x e => ?_, fun i xs e => (frz_ow e).elim, fun i j xs ys b e => (frz_ow e).elim⟩
  · by_cases h : IsOwn σ Γ b
    · rw [Fo_own h] at e
      exact e
    · rw [Fo_not h] at e
      exact r.ext.fh _ _ e
  · by_cases h' : IsOwn σ Γ b
    · obtain ⟨vs, _, _, h4⟩ := r.own_at h'
      exact absurd h4 h
    · rw [Fo_not h']
      exact r.ext.off b h e
  · have n : ¬ IsOwn σ Γ a := fun h' => by
      obtain ⟨vs, _, _, h4⟩ := r.own_at h'
      exact r.pz a e h4
    rw [Fo_not n]
    exact r.ext.pot a e
  · unfold frz at e
    rw [List.getElem?_map] at e
    obtain ⟨sl, e1, e2⟩ := Option.map_eq_some_iff.mp e
    cases sl with
    | no => cases e2
    | va y =>
      cases e2
      obtain ⟨v, h1, h2⟩ := r.va i x e1
      exact ⟨v, h1, h2.same s⟩
    | ow xs =>
      cases e2
      obtain ⟨b, vs, h1, h2, h3, h4, h5⟩ := r.ow i xs e1
      refine ⟨.ref b, h1, .lst (.inl (.inl ?_)) (DqAll.same s h5)⟩
      rw [Fo_own ⟨i, xs, e1, h1⟩]
      exact h2
/-- back from there -/
theorem Rep.thaw (r : Rep K Z F H σ Γ) (e : Ext Z.p (Fo H F σ Γ) H F' H') : Ext Z.p F H (Fm F' σ Γ) H' := by
  refine ⟨fun b o h => ?_, fun b o h => ?_, e.keep, fun b h1 h2 => ?_, fun a q => ?_⟩
  · have n : ¬ IsOwn σ Γ b := fun h' => by
      obtain ⟨vs, _, h3, _⟩ := r.own_at h'
      rw [h3] at h
      cases h
    rw [Fm_not n]
    exact e.ff _ _ (r.fo_same _ _ h)
  · by_cases h' : IsOwn σ Γ b
    · rw [Fm_own h'] at h
      cases h
    · rw [Fm_not h'] at h
      exact e.fh _ _ h
  · by_cases h' : IsOwn σ Γ b
    · exact Fm_own h'
    · rw [Fm_not h']
      exact e.off b h1 (by rw [Fo_not h']; exact h2)
  · have n : ¬ IsOwn σ Γ a := fun h' => by
      obtain ⟨vs, _, _, h4⟩ := r.own_at h'
      exact r.pz a q h4
    rw [Fm_not n]
    exact e.pot a q
end
/-! ## readings over data -/
abbrev ER := Addr → List (Str × PyData) → Prop
abbrev DTE := Gm → (Av → Prop) → ER → Prop
abbrev DTT := Gm → (Bool → Prop) → ER → Prop
abbrev DTA := Gm → (List Av → Prop) → ER → Prop
structure DEnds where
  nx : Gm → Prop
  rt : Av → Prop
  bk : Gm → Prop
  ct : Gm → Prop
  er : Gm → ER
abbrev DTS := DEnds → Gm → Prop
def MonoE {α : Type} (d : Gm → (α → Prop) → ER → Prop) : Prop := ∀ Γ (k k' : α → Prop) (e e' : ER), (∀ x, k x → k' x) → (∀ C fs, e C fs → e' C fs) → d Γ k e → d Γ k' e'
structure DEnds.Le (E E' : DEnds) : Prop where
  nx : ∀ Γ, E.nx Γ → E'.nx Γ
  rt : ∀ x, E.rt x → E'.rt x
  bk : ∀ Γ, E.bk Γ → E'.bk Γ
  ct : ∀ Γ, E.ct Γ → E'.ct Γ
  er : ∀ Γ C fs, E.er Γ C fs → E'.er Γ C fs
def MonoS (d : DTS) : Prop := ∀ (E E' : DEnds) Γ, E.Le E' → d E Γ → d E' Γ
section
variable (K : PySem.W.Frag) (Z : Zn) (W : WX)
def erL (F H : Hp) (σ : L2.St) : ER := fun C fs => ∀ dx F' H', Ext Z.p F H F' H' → XdOk K F' dx fs → W (.ref C) (some dx) σ H'
def liftE (d : DTE) : TE := fun σ H Q => ∃ F Γ, Rep K Z F H σ Γ ∧ d Γ (fun x => ∀ v F' H', Ext Z.p F H F' H' → Ra K Z.p F' x v → Q v H') (erL K Z W F H σ)
/-- a test reads own lists too -/
def liftT (d : DTT) : TT := fun σ H Q => ∃ F Γ, Rep K Z F H σ Γ ∧ d Γ (fun b => ∀ F' H', Ext Z.p F H F' H' → Q b H') (erL K Z W F H σ)
def liftA (d : DTA) : TA := fun σ H Q => ∃ F Γ, Rep K Z F H σ Γ ∧ d Γ (fun xs => ∀ vs F' H', Ext Z.p F H F' H' → RaL K Z.p F' xs vs → Q vs H') (erL K Z W F H σ)
def endL (D : Ends) : DEnds where
  nx := fun Γ' => ∀ σ' F' H', Rep K Z F' H' σ' Γ' → D.nx σ' H'
  rt := fun x => ∀ v F' H', Ext Z.p Z.F0 Z.H0 F' H' → Ra K Z.p F' x v → D.rt v H'
  bk := fun Γ' => ∀ σ' F' H', Rep K Z F' H' σ' Γ' → D.bk σ' H'
  ct := fun Γ' => ∀ σ' F' H', Rep K Z F' H' σ' Γ' → D.ct σ' H'
  er := fun Γ' C fs => ∀ dx σ' F' H', Rep K Z F' H' σ' Γ' → XdOk K F' dx fs → W (.ref C) (some dx) σ' H'
def liftS (d : DTS) : TS := fun D σ H => ∃ F Γ, Rep K Z F H σ Γ ∧ d (endL K Z W D) Γ
end
structure DE (X : Cx) (Z : Zn) (W : WX) (e : Expr) (d : DTE) : Prop where
  mono : MonoE d
  run : PE X e (liftE X.K Z W d)
structure DT (X : Cx) (Z : Zn) (W : WX) (e : Expr) (d : DTT) : Prop where
  mono : MonoE d
  run : PT X e (liftT X.K Z W d)
structure DW (X : Cx) (Z : Zn) (W : WX) (e : Expr) (d : DTT) : Prop where
  mono : MonoE d
  run : PW X e (liftT X.K Z W d)
structure DA (X : Cx) (Z : Zn) (W : WX) (es : List Expr) (d : DTA) : Prop where
  mono : MonoE d
  run : PA X es (liftA X.K Z W d)
structure DS (X : Cx) (Z : Zn) (W : WX) (st : Stmt) (d : DTS) : Prop where
  mono : MonoS d
  run : PS X st (liftS X.K Z W d)
structure DSs (X : Cx) (Z : Zn) (W : WX) (st : List Stmt) (d : DTS) : Prop where
  mono : MonoS d
  run : PSs X st (liftS X.K Z W d)
/-! ## weaker readings -/
section
variable {X : Cx}
theorem pe_weak {e : Expr} {t t' : TE} (h : PE X e t) (w : ∀ σ H Q, t' σ H Q → t σ H Q) : PE X e t' := ⟨fun pins s σ H Q I q => h.run pins s σ H Q I (w σ H Q q)⟩
theorem pt_weak {e : Expr} {t t' : TT} (h : PT X e t) (w : ∀ σ H Q, t' σ H Q → t σ H Q) : PT X e t' := ⟨fun pins s σ H Q I q => h.run pins s σ H Q I (w σ H Q q)⟩
theorem pw_weak {e : Expr} {t t' : TT} (h : PW X e t) (w : ∀ σ H Q, t' σ H Q → t σ H Q) : PW X e t' := ⟨fun wh pins s σ H Q I q => h.run wh pins s σ H Q I (w σ H Q q)⟩
theorem pa_weak {e : List Expr} {t t' : TA} (h : PA X e t) (w : ∀ σ H Q, t' σ H Q → t σ H Q) : PA X e t' := ⟨fun pos pins s σ H Q I q => h.run pos pins s σ H Q I (w σ H Q q)⟩
theorem ps_weak {e : Stmt} {t t' : TS} (h : PS X e t) (w : ∀ D σ H, t' D σ H → t D σ H) : PS X e t' := ⟨fun pins s σ H Q I q => h.run pins s σ H Q I (w Q σ H q)⟩
theorem pss_weak {e : List Stmt} {t t' : TS} (h : PSs X e t) (w : ∀ D σ H, t' D σ H → t D σ H) : PSs X e t' := ⟨fun pins s σ H Q I q => h.run pins s σ H Q I (w Q σ H q)⟩
end
section
variable {K : PySem.W.Frag} {Z : Zn} {W : WX} {F H F' H' : Hp} {σ : L2.St} {Γ : Gm}
theorem erL.later {C : Addr} {fs : List (Str × PyData)} (h : erL K Z W F H σ C fs) (e : Ext Z.p F H F' H') : erL K Z W F' H' σ C fs := fun dx F2 H2 e2 x => h dx F2 H2 (e.trans e2) x
/-- an expression, then what is done with its value -/
theorem liftE.bind {d : DTE} {Q : VK} {k : Av → Prop} (m : MonoE d) (r : Rep K Z F H σ Γ) (h : d Γ k (erL K Z W F H σ))
    (q : ∀ x v F' H', k x → Ext Z.p F H F' H' → Rep K Z F' H' σ Γ → Ra K Z.p F' x v → Q v H') : liftE K Z W d σ H Q :=
  ⟨F, Γ, r, m Γ _ _ _ _ (fun x hx v F' H' e ra => q x v F' H' hx e (r.step e) ra) (fun _ _ z => z) h⟩
theorem liftT.bind {d : DTT} {Q : Bool → Hp → Prop} {k : Bool → Prop} (m : MonoE d) (r : Rep K Z F H σ Γ) (h : d Γ k (erL K Z W F H σ))
    (q : ∀ x F' H', k x → Ext Z.p F H F' H' → Rep K Z F' H' σ Γ → Q x H') : liftT K Z W d σ H Q :=
  ⟨F, Γ, r, m Γ _ _ _ _ (fun x hx F' H' e => q x F' H' hx e (r.step e)) (fun _ _ z => z) h⟩
theorem liftA.bind {d : DTA} {Q : List V → Hp → Prop} {k : List Av → Prop} (m : MonoE d) (r : Rep K Z F H σ Γ) (h : d Γ k (erL K Z W F H σ))
    (q : ∀ x v F' H', k x → Ext Z.p F H F' H' → Rep K Z F' H' σ Γ → RaL K Z.p F' x v → Q v H') : liftA K Z W d σ H Q :=
  ⟨F, Γ, r, m Γ _ _ _ _ (fun x hx v F' H' e ra => q x v F' H' hx e (r.step e) ra) (fun _ _ z => z) h⟩
end
end Dl

set_option Elab.async false
set_option linter.all false
set_option maxRecDepth 100000
set_option maxHeartbeats 4000000
/-! Readings of expressions over data. -/
namespace Dl
open PySem PySem.Spec PyProof.Rows L2 Lw
/-! ## sums and repetitions of lists that are only read -/
section
variable {X : Cx}
def rCatQ (K : PySem.W.Frag) : R2 := fun x y H Q => ∃ l b xs zs, x = .ref l ∧ y = .ref b ∧ SqL K H l xs ∧ SqL K H b zs ∧ xs.length + zs.length ≤ sizeLine ∧ ∀ p, H p = none → Q (.ref p) (upd H p (.lst (xs ++ zs)))
theorem op_catQ : OpR X (binaryOp .Add) (rCatQ X.K) := by
  intro pins s σ H x y v u Q I rx ry h
  obtain ⟨l, b, xs, zs, rfl, rfl, hH, hB, hz, q⟩ := h
  cases rx
  cases ry
  obtain ⟨its, r, pl, hl⟩ := I.list hH
  obtain ⟨its2, r2, pl2, hl2⟩ := I.list hB
  obtain ⟨⟨cls, dd, data, sl⟩, ho, hc, n, hd⟩ := pl.isList
  obtain ⟨⟨cls2, dd2, data2, sl2⟩, ho2, hc2, n2, hd2⟩ := pl2.isList
  simp only at hc hd hc2 hd2
  subst hc hd hc2 hd2
  have e1 := r.length
  have e2 := r2.length
  have e : its.toArray ++ its2.toArray = (its ++ its2).toArray := by simp
  refine concat_meets ⟨_, ho, rfl⟩ ⟨_, ho2, rfl⟩ noFill_list_add seq_list_add PySem.F.slot_list_add PySem.F.entry_list_add (PySem.F.args_list_add_2 _ _) (list_addW l b its.toArray its2.toArray n n2 dd dd2 sl sl2 (by simp only [List.size_toArray]; omega)) ⟨ho, ho2, ?_⟩
  rw [e]
  exact ⟨.ref _, _, I.lnew (t' := s.toks) (r.append r2) (by rw [List.length_append]; omega), rfl, q _ I.fresh⟩
def rRepQ (K : PySem.W.Frag) : R2 := fun x y H Q => ∃ l k xs, x = .ref l ∧ y = .int k ∧ SqL K H l xs ∧ -(2 ^ 63) ≤ k ∧ k < 2 ^ 63 ∧ xs.length * k.toNat ≤ sizeLine ∧ ∀ p, H p = none → Q (.ref p) (upd H p (.lst (List.replicate k.toNat xs).flatten))
theorem vals_rep : ∀ {n : Nat} {xs : List V} {us : List Value}, Vals xs us → Vals (List.replicate n xs).flatten (List.replicate n us).flatten
  | 0, _, _, _ => .nil
  | n + 1, _, _, r => by
    rw [List.replicate_succ, List.replicate_succ, List.flatten_cons, List.flatten_cons]
    exact r.append (vals_rep r)
theorem op_repQ : OpR X (binaryOp .Mult) (rRepQ X.K) := by
  intro pins s σ H x y v u Q I rx ry h
  obtain ⟨l, x, xs, rfl, rfl, hH, hlo, hhi, hz, q⟩ := h
  cases rx
  obtain ⟨u, rfl⟩ := ry
  obtain ⟨its, r, pl, hl⟩ := I.list hH
  obtain ⟨⟨cls, d, data, sl⟩, ho, hcl, k, hd⟩ := pl.isList
  simp only at hcl hd
  subst hcl hd
  have e1 := r.length
  have hsz' : its.toArray.size * x.toNat ≤ sizeLine := by
    rw [List.size_toArray, ← e1]
    exact hz
  have hcap : ¬ its.toArray.size * x.toNat > (2 ^ 63 - 1) / 8 := by
    have : (sizeLine : Nat) ≤ (2 ^ 63 - 1) / 8 := by decide
    omega
  refine wpAny_binaryOp_repeat_ref (T := "list") (U := "int") (by decide) ⟨_, ho, rfl⟩ (fun s' => typeIs_int s' x u) noFill_list_mul F.fills_int_mul F.slot_int_rmul repeat_list F.slot_int_index.lookup
    (call_meets F.slot_int_rmul (typeIs_int s x u) F.entry_int_rmul (F.args_int_rmul_2 _ _) (lm_int_rmul_list_any x u l its.toArray k d sl)
      ⟨ho, rfl, ⟨_, ho, rfl⟩, call_meets F.slot_list_mul ⟨_, ho, rfl⟩ F.entry_list_mul (F.args_list_mul_2 _ _)
        (lm_list_mul_any l its.toArray k d sl x u (by simp [Builtin.List.listFitsIndex]; omega) hcap (by simp [Builtin.List.listTooLong]; simpa using hsz'))
        ⟨ho, ?_⟩⟩)
  rw [listMul_foldl_if]
  exact ⟨.ref _, _, I.lnew (t' := s.toks) (vals_rep (n := x.toNat) r) (by
    have : (List.replicate x.toNat xs).flatten.length = xs.length * x.toNat := by simp [Nat.mul_comm]
    omega), rfl, q _ I.fresh⟩
end
/-! ## constants and names -/
section
variable {X : Cx} {Z : Zn} {W : WX}
def dC (x : Av) : DTE := fun _ k _ => k x
theorem mono_c {x : Av} : MonoE (dC x) := fun _ _ _ _ _ h _ q => h _ q
theorem de_c {e : Expr} {v : V} {x : Av} (h : PE X e (tC v)) (hr : ∀ F, Ra X.K Z.p F x v) : DE X Z W e (dC x) :=
  ⟨mono_c, pe_weak h fun σ H Q q => by
    obtain ⟨F, Γ, r, q⟩ := q
    exact q v F H r.now (hr F)⟩
theorem de_int {i : Int} {j : Nat} {pos : Pos} : DE X Z W (.Constant (.int i) j pos) (dC (.d (.int i))) := de_c pe_int fun _ => Dq.int i
theorem de_bl {i : Bool} {j : Nat} {pos : Pos} : DE X Z W (.Constant (.bool i) j pos) (dC (.d (.bool i))) := de_c pe_bl fun _ => Dq.bl i
theorem de_str {i : Str} {j : Nat} {pos : Pos} : DE X Z W (.Constant (.str i) j pos) (dC (.d (.str i))) := de_c pe_str fun _ => Dq.str i
theorem de_non {j : Nat} {pos : Pos} : DE X Z W (.Constant .none j pos) (dC (.d .none)) := de_c pe_non fun _ => Dq.non
/-- a value that is known by itself: a class, a def, a built-in -/
theorem de_raw {e : Expr} {v : V} (h : PE X e (tC v)) : DE X Z W e (dC (.v v)) := de_c h fun _ => rfl
theorem de_gi {e : Expr} {i : Int} (h : PE X e (tC (.int i))) : DE X Z W e (dC (.d (.int i))) := de_c h fun _ => Dq.int i
theorem de_gs {e : Expr} {i : Str} (h : PE X e (tC (.str i))) : DE X Z W e (dC (.d (.str i))) := de_c h fun _ => Dq.str i
def dV (i : Nat) : DTE := fun Γ k _ => match Γ[i]? with
  | some (.va x) => k x
  | _ => False
theorem mono_v {i : Nat} : MonoE (dV i) := fun Γ k k' e e' h _ q => by
  unfold dV at q ⊢
  split at q
  · exact h _ q
  · exact q.elim
theorem de_v {e : Expr} {i : Nat} (h : PE X e (tVar i)) : DE X Z W e (dV i) :=
  ⟨mono_v, pe_weak h fun σ H Q q => by
    obtain ⟨F, Γ, r, q⟩ := q
    unfold dV at q
    split at q
    · rename_i x e
      obtain ⟨v, h1, h2⟩ := r.va i x e
      exact ⟨v, h1, q v F H r.now h2⟩
    · exact q.elim⟩
/-! ## operations on two values -/
abbrev B2 := Av → Av → (Av → Prop) → Prop
def MonoB (b : B2) : Prop := ∀ x y (k k' : Av → Prop), (∀ z, k z → k' z) → b x y k → b x y k'
def liftR (K : PySem.W.Frag) (b : B2) : R2 := fun v u H Q => ∃ p F x y, At p F H ∧ Ra K p F x v ∧ Ra K p F y u ∧ b x y (fun z => ∀ w F' H', Ext p F H F' H' → Ra K p F' z w → Q w H')
def dBin (b : B2) (da db : DTE) : DTE := fun Γ k e => da Γ (fun x => db Γ (fun y => b x y k) e) e
theorem mono_bin {b : B2} {da db : DTE} (mb : MonoB b) (ma : MonoE da) (md : MonoE db) : MonoE (dBin b da db) := fun Γ k k' e e' hk he q =>
  ma Γ _ _ _ _ (fun x hx => md Γ _ _ _ _ (fun y hy => mb x y _ _ hk hy) he hx) he q
theorem lift_bin {b : B2} {da db : DTE} {ea eb : Expr} {σ : L2.St} {H : Hp} {Q : VK} (ha : DE X Z W ea da) (hb : DE X Z W eb db) (mb : MonoB b) (q : liftE X.K Z W (dBin b da db) σ H Q) : tOp (liftR X.K b) (liftE X.K Z W da) (liftE X.K Z W db) σ H Q := by
  obtain ⟨F, Γ, r, q⟩ := q
  refine liftE.bind ha.mono r q fun x v F1 H1 hx e1 r1 ra => ?_
  refine liftE.bind hb.mono r1 (hb.mono Γ _ _ _ _ (fun _ z => z) (fun C fs z => z.later e1) hx) fun y w F2 H2 hy e2 r2 rb => ?_
  exact ⟨Z.p, F2, x, y, r2.now, ra.same e2.ff, rb, mb x y _ _ (fun z hz w' F' H' e' rz => hz w' F' H' ((e1.trans e2).trans e') rz) hy⟩
theorem de_bin {op : Operator} {b : B2} {da db : DTE} {ea eb : Expr} {pos : Pos} (ho : OpR X (binaryOp op) (liftR X.K b)) (mb : MonoB b) (ha : DE X Z W ea da) (hb : DE X Z W eb db) : DE X Z W (.BinOp ea op eb pos) (dBin b da db) :=
  ⟨mono_bin mb ha.mono hb.mono, pe_weak (pe_op ho ha.run hb.run) fun σ H Q q => lift_bin ha hb mb q⟩
theorem de_cmp {op : CmpOp} {b : B2} {da db : DTE} {ea eb : Expr} {pos : Pos} (ho : OpR X (compareOp op) (liftR X.K b)) (mb : MonoB b) (ha : DE X Z W ea da) (hb : DE X Z W eb db) (hm : behindInMarks op eb = false) : DE X Z W (.Compare ea [op] [eb] pos) (dBin b da db) :=
  ⟨mono_bin mb ha.mono hb.mono, pe_weak (pe_cmpR ho ha.run hb.run hm) fun σ H Q q => lift_bin ha hb mb q⟩
theorem de_ix {b : B2} {da db : DTE} {ea eb : Expr} {pos : Pos} (ho : IxR X (liftR X.K b)) (mb : MonoB b) (ha : DE X Z W ea da) (hb : DE X Z W eb db) (hs : PlainIx eb) : DE X Z W (.Subscript ea eb pos) (dBin b da db) :=
  ⟨mono_bin mb ha.mono hb.mono, pe_weak (pe_ix ho ha.run hb.run hs) fun σ H Q q => lift_bin ha hb mb q⟩
/-! ## one value -/
abbrev B1 := Av → (Av → Prop) → Prop
def MonoB1 (b : B1) : Prop := ∀ x (k k' : Av → Prop), (∀ z, k z → k' z) → b x k → b x k'
def liftR1 (K : PySem.W.Frag) (b : B1) : V → Hp → VK → Prop := fun v H Q => ∃ p F x, At p F H ∧ Ra K p F x v ∧ b x (fun z => ∀ w F' H', Ext p F H F' H' → Ra K p F' z w → Q w H')
def dUn (b : B1) (da : DTE) : DTE := fun Γ k e => da Γ (fun x => b x k) e
theorem mono_un {b : B1} {da : DTE} (mb : MonoB1 b) (ma : MonoE da) : MonoE (dUn b da) := fun Γ k k' e e' hk he q => ma Γ _ _ _ _ (fun x hx => mb x _ _ hk hx) he q
theorem lift_un {b : B1} {da : DTE} {ea : Expr} {σ : L2.St} {H : Hp} {Q : VK} (ha : DE X Z W ea da) (mb : MonoB1 b) (q : liftE X.K Z W (dUn b da) σ H Q) : tUn (liftR1 X.K b) (liftE X.K Z W da) σ H Q := by
  obtain ⟨F, Γ, r, q⟩ := q
  refine liftE.bind ha.mono r q fun x v F1 H1 hx e1 r1 ra => ?_
  exact ⟨Z.p, F1, x, r1.now, ra, mb x _ _ (fun z hz w' F' H' e' rz => hz w' F' H' (e1.trans e') rz) hx⟩
theorem de_un {op : UnaryOp} {b : B1} {da : DTE} {ea : Expr} {pos : Pos} (ho : UnR X (unaryOp op) (liftR1 X.K b)) (mb : MonoB1 b) (ha : DE X Z W ea da) : DE X Z W (.UnaryOp op ea pos) (dUn b da) :=
  ⟨mono_un mb ha.mono, pe_weak (pe_un ho ha.run) fun σ H Q q => lift_un ha mb q⟩
/-! ## tests -/
/-- a bool as a test -/
def dB (d : DTE) : DTT := fun Γ k e => d Γ (fun x => match x with
  | .d (.bool c) => k c
  | _ => False) e
theorem mono_b {d : DTE} (m : MonoE d) : MonoE (dB d) := fun Γ k k' e e' hk he q => m Γ _ _ _ _ (fun x hx => by
  split at hx
  · exact hk _ hx
  · exact hx.elim) he q
theorem lift_b {d : DTE} {e : Expr} {σ : L2.St} {H : Hp} {Q : Bool → Hp → Prop} (h : DE X Z W e d) (q : liftT X.K Z W (dB d) σ H Q) : liftE X.K Z W d σ H fun x H' => ∃ k, x = .bl k ∧ Q k H' := by
  obtain ⟨F, Γ, r, q⟩ := q
  refine liftE.bind h.mono r q fun x v F1 H1 hx e1 r1 ra => ?_
  split at hx
  · rename_i c
    cases (show Dq X.K F1 v (.bool c) from ra)
    exact ⟨c, rfl, hx F1 H1 e1⟩
  · exact hx.elim
theorem dt_b {d : DTE} {e : Expr} (h : DE X Z W e d) (he : ∀ whole, isTrue e X.env whole = (do let v ← whole; standAt e.pos; holding [v] (truthy v)) := by intro _; rfl) : DT X Z W e (dB d) :=
  ⟨mono_b h.mono, pt_weak (pt_val h.run he) fun σ H Q q => lift_b h q⟩
theorem dt_cmp {op : CmpOp} {b : B2} {da db : DTE} {ea eb : Expr} {pos : Pos} (ho : OpR X (compareOp op) (liftR X.K b)) (mb : MonoB b) (ha : DE X Z W ea da) (hb : DE X Z W eb db) (hm : behindInMarks op eb = false) : DT X Z W (.Compare ea [op] [eb] pos) (dB (dBin b da db)) :=
  ⟨mono_b (mono_bin mb ha.mono hb.mono), pt_weak (pt_cmpR ho ha.run hb.run hm) fun σ H Q q => by
    have h := lift_b (de_cmp (pos := pos) ho mb ha hb hm) q
    exact lift_bin (X := X) ha hb mb h⟩
/-- the truth of a value -/
def truD : PyData → Option Bool
  | .none => some false
  | .bool b => some b
  | .int i => some (i != 0)
  | .str z => some ((z.length : Int) != 0)
  | .list xs => some (!xs.isEmpty)
  | .tuple xs => some (!xs.isEmpty)
  | .dict _ => none
def dTru (d : DTE) : DTT := fun Γ k e => d Γ (fun x => match x with
  | .d y => (∀ z, y = .str z → z.length ≤ sizeLine) ∧ match truD y with
    | some c => k c
    | none => False
  | _ => False) e
theorem mono_tru {d : DTE} (m : MonoE d) : MonoE (dTru d) := fun Γ k k' e e' hk he q => m Γ _ _ _ _ (fun x hx => by
  cases x with
  | d y =>
    refine ⟨hx.1, ?_⟩
    have h2 := hx.2
    cases z : truD y with
    | none =>
      rw [z] at h2
      exact h2
    | some c =>
      rw [z] at h2
      exact hk _ h2
  | _ => exact hx) he q
theorem dq_empty {K : PySem.W.Frag} {F : Hp} {vs : List V} {ds : List PyData} (h : DqAll K F vs ds) : vs.isEmpty = ds.isEmpty := by
  cases h <;> rfl
theorem dt_tru {d : DTE} {e : Expr} (h : DE X Z W e d) (he : ∀ whole, isTrue e X.env whole = (do let v ← whole; standAt e.pos; holding [v] (truthy v)) := by intro _; rfl) : DT X Z W e (dTru d) :=
  ⟨mono_tru h.mono, pt_weak (pt_truth h.run he) fun σ H Q q => by
    obtain ⟨F, Γ, r, q⟩ := q
    refine liftE.bind h.mono r q fun x v F1 H1 hx e1 r1 ra => ?_
    cases x with
    | d y =>
      obtain ⟨hx1, hx2⟩ := hx
      have ra : Dq X.K F1 v y := ra
      cases ra with
      | non => exact ⟨false, rfl, hx2 F1 H1 e1⟩
      | bl b => exact ⟨b, rfl, hx2 F1 H1 e1⟩
      | int i => exact ⟨_, rfl, hx2 F1 H1 e1⟩
      | str z => exact ⟨_, ⟨hx1 z rfl, rfl⟩, hx2 F1 H1 e1⟩
      | lst h1 h2 => exact ⟨_, .inl ⟨_, e1.fh.seq h1, rfl⟩, by rw [dq_empty h2]; exact hx2 F1 H1 e1⟩
      | tup h1 h2 => exact ⟨_, .inr (.inl ⟨_, same_t e1.fh h1, rfl⟩), by rw [dq_empty h2]; exact hx2 F1 H1 e1⟩
      | dic _ => exact hx2.elim
      | dct _ _ _ => exact hx2.elim
    | _ => exact hx.elim⟩
def dNot (t : DTT) : DTT := fun Γ k e => t Γ (fun c => k (!c)) e
theorem dt_not {t : DTT} {a : Expr} {pos : Pos} (h : DT X Z W a t) : DT X Z W (.UnaryOp .Not a pos) (dNot t) :=
  ⟨fun Γ k k' e e' hk he q => h.mono Γ _ _ _ _ (fun c hc => hk _ hc) he q, pt_weak (pt_not h.run) fun σ H Q q => by
    obtain ⟨F, Γ, r, q⟩ := q
    exact ⟨F, Γ, r, q⟩⟩
def dAnd (t u : DTT) : DTT := fun Γ k e => t Γ (fun c => if c = true then u Γ k e else k false) e
def dOr (t u : DTT) : DTT := fun Γ k e => t Γ (fun c => if c = true then k true else u Γ k e) e
theorem mono_and {t u : DTT} (h1 : MonoE t) (h2 : MonoE u) : MonoE (dAnd t u) := fun Γ k k' e e' hk he q => h1 Γ _ _ _ _ (fun c hc => by
  cases c with
  | true => exact h2 Γ _ _ _ _ hk he hc
  | false => exact hk _ hc) he q
theorem mono_or {t u : DTT} (h1 : MonoE t) (h2 : MonoE u) : MonoE (dOr t u) := fun Γ k k' e e' hk he q => h1 Γ _ _ _ _ (fun c hc => by
  cases c with
  | true => exact hk _ hc
  | false => exact h2 Γ _ _ _ _ hk he hc) he q
theorem dw_and1 {t : DTT} {a : Expr} {pos : Pos} (h : DT X Z W a t) : DW X Z W (.BoolOp .And [a] pos) t := ⟨h.mono, pw_and1 h.run⟩
theorem dw_or1 {t : DTT} {a : Expr} {pos : Pos} (h : DT X Z W a t) : DW X Z W (.BoolOp .Or [a] pos) t := ⟨h.mono, pw_or1 h.run⟩
theorem dw_and {t u : DTT} {a b : Expr} {rest : List Expr} {pos : Pos} (ha : DT X Z W a t) (hb : DW X Z W (.BoolOp .And (b :: rest) pos) u) : DW X Z W (.BoolOp .And (a :: b :: rest) pos) (dAnd t u) :=
  ⟨mono_and ha.mono hb.mono, pw_weak (pw_and ha.run hb.run) fun σ H Q q => by
    obtain ⟨F, Γ, r, q⟩ := q
    refine liftT.bind ha.mono r q fun c F1 H1 hc e1 r1 => ?_
    cases c with
    | true => exact liftT.bind hb.mono r1 (hb.mono Γ _ _ _ _ (fun _ z => z) (fun C fs z => z.later e1) hc) fun c F2 H2 hc e2 r2 => hc F2 H2 (e1.trans e2)
    | false => exact hc F1 H1 e1⟩
theorem dw_or {t u : DTT} {a b : Expr} {rest : List Expr} {pos : Pos} (ha : DT X Z W a t) (hb : DW X Z W (.BoolOp .Or (b :: rest) pos) u) : DW X Z W (.BoolOp .Or (a :: b :: rest) pos) (dOr t u) :=
  ⟨mono_or ha.mono hb.mono, pw_weak (pw_or ha.run hb.run) fun σ H Q q => by
    obtain ⟨F, Γ, r, q⟩ := q
    refine liftT.bind ha.mono r q fun c F1 H1 hc e1 r1 => ?_
    cases c with
    | true => exact hc F1 H1 e1
    | false => exact liftT.bind hb.mono r1 (hb.mono Γ _ _ _ _ (fun _ z => z) (fun C fs z => z.later e1) hc) fun c F2 H2 hc e2 r2 => hc F2 H2 (e1.trans e2)⟩
theorem dt_w {t : DTT} {a : Expr} (h : DW X Z W a t) : DT X Z W a t := ⟨h.mono, h.run.pt⟩
/-! ## and, or, not as values that are bools; a if t else b -/
def dAndV (da db : DTE) : DTE := fun Γ k e => da Γ (fun x => match x with
  | .d (.bool true) => db Γ k e
  | .d (.bool false) => k (.d (.bool false))
  | _ => False) e
def dOrV (da db : DTE) : DTE := fun Γ k e => da Γ (fun x => match x with
  | .d (.bool true) => k (.d (.bool true))
  | .d (.bool false) => db Γ k e
  | _ => False) e
def dNotV (da : DTE) : DTE := fun Γ k e => da Γ (fun x => match x with
  | .d (.bool b) => k (.d (.bool (!b)))
  | _ => False) e
theorem mono_andV {da db : DTE} (h1 : MonoE da) (h2 : MonoE db) : MonoE (dAndV da db) := fun Γ k k' e e' hk he q => h1 Γ _ _ _ _ (fun x hx => by
  split at hx
  · exact h2 Γ _ _ _ _ hk he hx
  · exact hk _ hx
  · exact hx.elim) he q
theorem mono_orV {da db : DTE} (h1 : MonoE da) (h2 : MonoE db) : MonoE (dOrV da db) := fun Γ k k' e e' hk he q => h1 Γ _ _ _ _ (fun x hx => by
  split at hx
  · exact hk _ hx
  · exact h2 Γ _ _ _ _ hk he hx
  · exact hx.elim) he q
theorem mono_notV {da : DTE} (h1 : MonoE da) : MonoE (dNotV da) := fun Γ k k' e e' hk he q => h1 Γ _ _ _ _ (fun x hx => by
  split at hx
  · exact hk _ hx
  · exact hx.elim) he q
theorem de_one {op : BoolOp} {d : DTE} {a : Expr} {pos : Pos} (h : DE X Z W a d) : DE X Z W (.BoolOp op [a] pos) d := ⟨h.mono, pe_one h.run⟩
theorem de_and {da db : DTE} {a b : Expr} {rest : List Expr} {pos : Pos} (ha : DE X Z W a da) (hb : DE X Z W (.BoolOp .And (b :: rest) pos) db) : DE X Z W (.BoolOp .And (a :: b :: rest) pos) (dAndV da db) :=
  ⟨mono_andV ha.mono hb.mono, pe_weak (pe_and ha.run hb.run) fun σ H Q q => by
    obtain ⟨F, Γ, r, q⟩ := q
    refine liftE.bind ha.mono r q fun x v F1 H1 hx e1 r1 ra => ?_
    split at hx
    · cases (show Dq X.K F1 v (.bool true) from ra)
      exact ⟨true, rfl, liftE.bind hb.mono r1 (hb.mono Γ _ _ _ _ (fun _ z => z) (fun C fs z => z.later e1) hx) fun y w F2 H2 hy e2 r2 rb => hy w F2 H2 (e1.trans e2) rb⟩
    · cases (show Dq X.K F1 v (.bool false) from ra)
      exact ⟨false, rfl, hx _ F1 H1 e1 (Dq.bl false)⟩
    · exact hx.elim⟩
theorem de_or {da db : DTE} {a b : Expr} {rest : List Expr} {pos : Pos} (ha : DE X Z W a da) (hb : DE X Z W (.BoolOp .Or (b :: rest) pos) db) : DE X Z W (.BoolOp .Or (a :: b :: rest) pos) (dOrV da db) :=
  ⟨mono_orV ha.mono hb.mono, pe_weak (pe_or ha.run hb.run) fun σ H Q q => by
    obtain ⟨F, Γ, r, q⟩ := q
    refine liftE.bind ha.mono r q fun x v F1 H1 hx e1 r1 ra => ?_
    split at hx
    · cases (show Dq X.K F1 v (.bool true) from ra)
      exact ⟨true, rfl, hx _ F1 H1 e1 (Dq.bl true)⟩
    · cases (show Dq X.K F1 v (.bool false) from ra)
      exact ⟨false, rfl, liftE.bind hb.mono r1 (hb.mono Γ _ _ _ _ (fun _ z => z) (fun C fs z => z.later e1) hx) fun y w F2 H2 hy e2 r2 rb => hy w F2 H2 (e1.trans e2) rb⟩
    · exact hx.elim⟩
theorem de_not {da : DTE} {a : Expr} {pos : Pos} (ha : DE X Z W a da) : DE X Z W (.UnaryOp .Not a pos) (dNotV da) :=
  ⟨mono_notV ha.mono, pe_weak (pe_not ha.run) fun σ H Q q => by
    obtain ⟨F, Γ, r, q⟩ := q
    refine liftE.bind ha.mono r q fun x v F1 H1 hx e1 r1 ra => ?_
    split at hx
    · rename_i b
      cases (show Dq X.K F1 v (.bool b) from ra)
      exact ⟨b, rfl, hx _ F1 H1 e1 (Dq.bl _)⟩
    · exact hx.elim⟩
def dIf (t : DTT) (da db : DTE) : DTE := fun Γ k e => t Γ (fun c => if c = true then da Γ k e else db Γ k e) e
theorem de_if {t : DTT} {da db : DTE} {c a b : Expr} {pos : Pos} (hc : DT X Z W c t) (ha : DE X Z W a da) (hb : DE X Z W b db) : DE X Z W (.IfExp c a b pos) (dIf t da db) :=
  ⟨fun Γ k k' e e' hk he q => hc.mono Γ _ _ _ _ (fun c hc => by
    cases c with
    | true => exact ha.mono Γ _ _ _ _ hk he hc
    | false => exact hb.mono Γ _ _ _ _ hk he hc) he q, pe_weak (pe_ifExp hc.run ha.run hb.run) fun σ H Q q => by
    obtain ⟨F, Γ, r, q⟩ := q
    refine liftT.bind hc.mono r q fun c F1 H1 hc e1 r1 => ?_
    cases c with
    | true => exact liftE.bind ha.mono r1 (ha.mono Γ _ _ _ _ (fun _ z => z) (fun C fs z => z.later e1) hc) fun y w F2 H2 hy e2 r2 rb => hy w F2 H2 (e1.trans e2) rb
    | false => exact liftE.bind hb.mono r1 (hb.mono Γ _ _ _ _ (fun _ z => z) (fun C fs z => z.later e1) hc) fun y w F2 H2 hy e2 r2 rb => hy w F2 H2 (e1.trans e2) rb⟩
/-! ## argument lists, displays -/
def dNil : DTA := fun _ k _ => k []
def dCons (d : DTE) (ds : DTA) : DTA := fun Γ k e => d Γ (fun x => ds Γ (fun xs => k (x :: xs)) e) e
theorem da_nil : DA X Z W [] dNil := ⟨fun _ _ _ _ _ h _ q => h _ q, pa_weak pa_nil fun σ H Q q => by
  obtain ⟨F, Γ, r, q⟩ := q
  exact q [] F H r.now .nil⟩
theorem da_cons {e : Expr} {es : List Expr} {d : DTE} {ds : DTA} (h1 : DE X Z W e d) (h2 : DA X Z W es ds) (hs : starEach (e :: es) X.env = (false, eval e X.env) :: starEach es X.env := by rfl) : DA X Z W (e :: es) (dCons d ds) :=
  ⟨fun Γ k k' e e' hk he q => h1.mono Γ _ _ _ _ (fun x hx => h2.mono Γ _ _ _ _ (fun xs hxs => hk _ hxs) he hx) he q, pa_weak (pa_cons h1.run h2.run hs) fun σ H Q q => by
    obtain ⟨F, Γ, r, q⟩ := q
    refine liftE.bind h1.mono r q fun x v F1 H1 hx e1 r1 ra => ?_
    exact liftA.bind h2.mono r1 (h2.mono Γ _ _ _ _ (fun _ z => z) (fun C fs z => z.later e1) hx) fun y w F2 H2 hy e2 r2 rb => hy (v :: w) F2 H2 (e1.trans e2) (.cons (ra.same e2.ff) rb)⟩
def datas : List Av → Option (List PyData)
  | [] => some []
  | .d x :: r => match datas r with
    | some ds => some (x :: ds)
    | none => none
  | _ :: _ => none
theorem datas_all {K : PySem.W.Frag} {p : Option Addr} {F : Hp} : ∀ {xs : List Av} {vs : List V} {ds : List PyData}, datas xs = some ds → RaL K p F xs vs → DqAll K F vs ds
  | [], _, _, h, r => by
    cases h
    cases r
    exact .nil
  | .d x :: r, _, ds, h, q => by
    cases q with
    | cons h1 h2 =>
      unfold datas at h
      cases e : datas r with
      | none =>
        rw [e] at h
        cases h
      | some es =>
        rw [e] at h
        cases h
        exact .cons h1 (datas_all e h2)
def dDisp (c : List PyData → PyData) (da : DTA) : DTE := fun Γ k e => da Γ (fun xs => match datas xs with
  | some ds => ds.length ≤ sizeLine ∧ k (.d (c ds))
  | none => False) e
theorem mono_disp {c : List PyData → PyData} {da : DTA} (m : MonoE da) : MonoE (dDisp c da) := fun Γ k k' e e' hk he q => m Γ _ _ _ _ (fun xs hx => by
  cases z : datas xs with
  | none =>
    rw [z] at hx
    exact hx.elim
  | some ds =>
    rw [z] at hx
    exact ⟨hx.1, hk _ hx.2⟩) he q
theorem de_tup {da : DTA} {es : List Expr} {j : Nat} {pos : Pos} (h : DA X Z W es da) : DE X Z W (.Tuple es j pos) (dDisp .tuple da) :=
  ⟨mono_disp h.mono, pe_weak (pe_tup h.run) fun σ H Q q => by
    obtain ⟨F, Γ, r, q⟩ := q
    refine liftA.bind h.mono r q fun xs vs F1 H1 hx e1 r1 ra => ?_
    cases z : datas xs with
    | none =>
      rw [z] at hx
      exact hx.elim
    | some ds =>
      rw [z] at hx
      have g := datas_all z ra
      refine ⟨by rw [dq_len g]; exact hx.1, fun p np => ?_⟩
      have e2 := Ext.new (o := .tup vs) r1.now np
      exact hx.2 _ _ _ (e1.trans e2) (.tup (.inl (.inl upd_same)) (DqAll.same e2.ff g))⟩
theorem de_lst {da : DTA} {es : List Expr} {pos : Pos} (h : DA X Z W es da) : DE X Z W (.List es pos) (dDisp .list da) :=
  ⟨mono_disp h.mono, pe_weak (pe_lst h.run) fun σ H Q q => by
    obtain ⟨F, Γ, r, q⟩ := q
    refine liftA.bind h.mono r q fun xs vs F1 H1 hx e1 r1 ra => ?_
    cases z : datas xs with
    | none =>
      rw [z] at hx
      exact hx.elim
    | some ds =>
      rw [z] at hx
      have g := datas_all z ra
      refine ⟨by rw [dq_len g]; exact hx.1, fun p np => ?_⟩
      have e2 := Ext.new (o := .lst vs) r1.now np
      exact hx.2 _ _ _ (e1.trans e2) (.lst (.inl (.inl upd_same)) (DqAll.same e2.ff g))⟩
theorem de_dict0 {pos : Pos} : DE X Z W (.Dict [] [] pos) (dC (.d (.dict []))) :=
  ⟨mono_c, pe_weak pe_dnewK fun σ H Q q => by
    obtain ⟨F, Γ, r, q⟩ := q
    intro p np
    have e2 := Ext.new (o := .dK []) r.now np
    exact q _ _ _ e2 (.dic upd_same)⟩
/-! ## calls of built-ins -/
abbrev BA := List Av → (Av → Prop) → Prop
def MonoA (b : BA) : Prop := ∀ xs (k k' : Av → Prop), (∀ z, k z → k' z) → b xs k → b xs k'
def liftRA (K : PySem.W.Frag) (b : BA) : List V → Hp → VK → Prop := fun vs H Q => ∃ p F xs, At p F H ∧ RaL K p F xs vs ∧ b xs (fun z => ∀ w F' H', Ext p F H F' H' → Ra K p F' z w → Q w H')
def dBlt (b : BA) (da : DTA) : DTE := fun Γ k e => da Γ (fun xs => b xs k) e
theorem mono_blt {b : BA} {da : DTA} (mb : MonoA b) (m : MonoE da) : MonoE (dBlt b da) := fun Γ k k' e e' hk he q => m Γ _ _ _ _ (fun xs hx => mb xs _ _ hk hx) he q
theorem lift_blt {b : BA} {da : DTA} {es : List Expr} {σ : L2.St} {H : Hp} {Q : VK} (ha : DA X Z W es da) (mb : MonoA b) (q : liftE X.K Z W (dBlt b da) σ H Q) : tCB (liftRA X.K b) (liftA X.K Z W da) σ H Q := by
  obtain ⟨F, Γ, r, q⟩ := q
  refine liftA.bind ha.mono r q fun xs vs F1 H1 hx e1 r1 ra => ?_
  exact ⟨Z.p, F1, xs, r1.now, ra, mb xs _ _ (fun z hz w' F' H' e' rz => hz w' F' H' (e1.trans e') rz) hx⟩
theorem de_callB {id : String} {x : Str} {b : BA} {da : DTA} {e : Expr} {es : List Expr} {p pos : Pos} (hc : CallR X (.builtin id) (liftRA X.K b)) (mb : MonoA b) (hg : Gl X x) (hm : X.mg x = none) (hv : bootBuiltins x = some (.builtin id)) (ha : DA X Z W (e :: es) da) (hn : x ≠ "__name__" := by decide) (hdb : (x == ("__debug__" : Str)) = false := by decide)
    (he : starEach (e :: es) X.env = (false, eval e X.env) :: starEach es X.env := by rfl) (hpl : (backTo pos (starEach es X.env)).any (·.1) = false := by rfl) : DE X Z W (.Call (.Name x p) (e :: es) [] pos) (dBlt b da) :=
  ⟨mono_blt mb ha.mono, pe_weak (pe_callB hc hg hm hv ha.run hn hdb he hpl) fun σ H Q q => lift_blt ha mb q⟩
theorem de_callTy {T : String} {x : Str} {b : BA} {da : DTA} {e : Expr} {es : List Expr} {p pos : Pos} (hc : CallR X (.type T) (liftRA X.K b)) (mb : MonoA b) (hg : Gl X x) (hm : X.mg x = none) (hv : bootBuiltins x = some (.type T)) (ha : DA X Z W (e :: es) da) (hn : x ≠ "__name__" := by decide) (hdb : (x == ("__debug__" : Str)) = false := by decide)
    (he : starEach (e :: es) X.env = (false, eval e X.env) :: starEach es X.env := by rfl) (hpl : (backTo pos (starEach es X.env)).any (·.1) = false := by rfl) : DE X Z W (.Call (.Name x p) (e :: es) [] pos) (dBlt b da) :=
  ⟨mono_blt mb ha.mono, pe_weak (pe_callTy hc hg hm hv ha.run hn hdb he hpl) fun σ H Q q => lift_blt ha mb q⟩
end
end Dl

set_option Elab.async false
set_option linter.all false
set_option maxRecDepth 100000
set_option maxHeartbeats 4000000
/-! Operations on data. -/
namespace Dl
open PySem PySem.Spec PyProof.Rows L2 Lw
theorem dq_dp {K : PySem.W.Frag} {H : Hp} : ∀ (d : PyData) (v : V), d.canLay0 = true → Dq K H v d → Dp K H v d := by
  have both : ∀ n : Nat, (∀ (d : PyData) (v : V), sizeOf d ≤ n → d.canLay0 = true → Dq K H v d → Dp K H v d) ∧ (∀ (ds : List PyData) (vs : List V), sizeOf ds ≤ n → PyData.canLayAll0 ds = true → DqAll K H vs ds → DpAll K H vs ds) := by
    intro n
    induction n with
    | zero =>
      refine ⟨fun d v h _ _ => ?_, fun ds vs h _ _ => ?_⟩
      · cases d <;> simp at h
      · cases ds <;> simp at h
    | succ n ih =>
      refine ⟨fun d v h c q => ?_, fun ds vs h c q => ?_⟩
      · cases q with
        | non => exact .non
        | bl b => exact .bl b
        | int i => exact .int i
        | str z => exact .str z
        | lst h1 h2 => exact .lst h1 (ih.2 _ _ (by simp at h; omega) (by simpa [PyData.canLay0] using c) h2)
        | tup h1 h2 => exact .tup h1 (ih.2 _ _ (by simp at h; omega) (by simpa [PyData.canLay0] using c) h2)
        | dic _ => cases c
        | dct _ _ _ => cases c
      · cases q with
        | nil => exact .nil
        | cons h1 h2 =>
          have c' : PyData.canLay0 _ = true ∧ PyData.canLayAll0 _ = true := Bool.and_eq_true_iff.mp (by simpa only [PyData.canLayAll0] using c)
          simp at h
          exact .cons (ih.1 _ _ (by omega) c'.1 h1) (ih.2 _ _ (by omega) c'.2 h2)
  exact fun d v => (both (sizeOf d)).1 d v (Nat.le_refl _)
section
variable {K : PySem.W.Frag} {p : Option Addr} {F H : Hp} {q : Addr} {vs : List V} {ds : List PyData}
theorem fresh_lst (ex : At p F H) (nq : H q = none) (g : DqAll K F vs ds) : Ext p F H (upd F q (.lst vs)) (upd H q (.lst vs)) ∧ Ra K p (upd F q (.lst vs)) (.d (.list ds)) (.ref q) :=
  have e2 := Ext.new (o := .lst vs) ex nq
  ⟨e2, .lst (.inl (.inl upd_same)) (DqAll.same e2.ff g)⟩
theorem fresh_tup (ex : At p F H) (nq : H q = none) (g : DqAll K F vs ds) : Ext p F H (upd F q (.tup vs)) (upd H q (.tup vs)) ∧ Ra K p (upd F q (.tup vs)) (.d (.tuple ds)) (.ref q) :=
  have e2 := Ext.new (o := .tup vs) ex nq
  ⟨e2, .tup (.inl (.inl upd_same)) (DqAll.same e2.ff g)⟩
end
/-! ## arithmetic -/
def bAdd : B2 := fun x y k => match x, y with
  | .d (.int i), .d (.int j) => k (.d (.int (i + j)))
  | .d (.str a), .d (.str b) => a.length + b.length ≤ sizeLine ∧ k (.d (.str (a ++ b)))
  | .d (.list a), .d (.list b) => a.length + b.length ≤ sizeLine ∧ k (.d (.list (a ++ b)))
  | .d (.tuple a), .d (.tuple b) => a.length + b.length ≤ sizeLine ∧ k (.d (.tuple (a ++ b)))
  | _, _ => False
theorem mono_add : MonoB bAdd := fun x y k k' h q => by
  unfold bAdd at q ⊢
  split at q
  · exact h _ q
  · exact ⟨q.1, h _ q.2⟩
  · exact ⟨q.1, h _ q.2⟩
  · exact ⟨q.1, h _ q.2⟩
  · exact q.elim
section
variable {X : Cx}
theorem oa_add : OpR X (binaryOp .Add) (liftR X.K bAdd) := by
  intro pins s σ H v u v' u' Q I rv ru h
  obtain ⟨p, F, x, y, ex, hx, hy, h⟩ := h
  unfold bAdd at h
  split at h
  · cases (show Dq X.K F v (.int _) from hx)
    cases (show Dq X.K F u (.int _) from hy)
    exact op_add pins s σ H _ _ v' u' Q I rv ru ⟨_, _, rfl, rfl, h _ F H ex (Dq.int _)⟩
  · cases (show Dq X.K F v (.str _) from hx)
    cases (show Dq X.K F u (.str _) from hy)
    exact op_add_str pins s σ H _ _ v' u' Q I rv ru ⟨_, _, rfl, rfl, h.1, h.2 _ F H ex (Dq.str _)⟩
  · have hx : Dq X.K F v (.list _) := hx
    have hy : Dq X.K F u (.list _) := hy
    cases hx with
    | lst h1 g1 =>
      cases hy with
      | lst h2 g2 =>
        refine op_catQ pins s σ H _ _ v' u' Q I rv ru ⟨_, _, _, _, rfl, rfl, ex.fh.seq h1, ex.fh.seq h2, by rw [dq_len g1, dq_len g2]; exact h.1, fun q nq => ?_⟩
        exact h.2 _ _ _ (fresh_lst ex nq (dq_app g1 g2)).1 (fresh_lst ex nq (dq_app g1 g2)).2
  · have hx : Dq X.K F v (.tuple _) := hx
    have hy : Dq X.K F u (.tuple _) := hy
    cases hx with
    | tup h1 g1 =>
      cases hy with
      | tup h2 g2 =>
        refine op_catA pins s σ H _ _ v' u' Q I rv ru ⟨_, _, _, _, rfl, rfl, same_t ex.fh h1, same_t ex.fh h2, by rw [dq_len g1, dq_len g2]; exact h.1, fun e => ?_, fun _ e => ?_, fun _ _ q nq => ?_⟩
        · subst e
          cases g1
          exact h.2 _ F H ex (Dq.tup h2 g2)
        · subst e
          cases g2
          rw [List.append_nil] at h
          exact h.2 _ F H ex (Dq.tup h1 g1)
        · exact h.2 _ _ _ (fresh_tup ex nq (dq_app g1 g2)).1 (fresh_tup ex nq (dq_app g1 g2)).2
  · exact h.elim
end
/-- an operation on two ints -/
def bI (C : Int → Int → Prop) (g : Int → Int → PyData) : B2 := fun x y k => match x, y with
  | .d (.int i), .d (.int j) => C i j ∧ k (.d (g i j))
  | _, _ => False
def bI0 (g : Int → Int → PyData) : B2 := fun x y k => match x, y with
  | .d (.int i), .d (.int j) => k (.d (g i j))
  | _, _ => False
theorem mono_I {C : Int → Int → Prop} {g : Int → Int → PyData} : MonoB (bI C g) := fun x y k k' h q => by
  unfold bI at q ⊢
  split at q
  · exact ⟨q.1, h _ q.2⟩
  · exact q.elim
theorem mono_I0 {g : Int → Int → PyData} : MonoB (bI0 g) := fun x y k k' h q => by
  unfold bI0 at q ⊢
  split at q
  · exact h _ q
  · exact q.elim
section
variable {X : Cx} {f : Value → Value → Sem Value}
theorem oa_I {C : Int → Int → Prop} {g : Int → Int → PyData} {gv : Int → Int → V} (ho : OpR X f (rI C gv)) (hg : ∀ K F i j, Dq K F (gv i j) (g i j)) : OpR X f (liftR X.K (bI C g)) := by
  intro pins s σ H v u v' u' Q I rv ru h
  obtain ⟨p, F, x, y, ex, hx, hy, h⟩ := h
  unfold bI at h
  split at h
  · cases (show Dq X.K F v (.int _) from hx)
    cases (show Dq X.K F u (.int _) from hy)
    exact ho pins s σ H _ _ v' u' Q I rv ru ⟨_, _, rfl, rfl, h.1, h.2 _ F H ex (hg _ _ _ _)⟩
  · exact h.elim
theorem oa_I0 {g : Int → Int → PyData} {gv : Int → Int → V} (ho : OpR X f (rI0 gv)) (hg : ∀ K F i j, Dq K F (gv i j) (g i j)) : OpR X f (liftR X.K (bI0 g)) := by
  intro pins s σ H v u v' u' Q I rv ru h
  obtain ⟨p, F, x, y, ex, hx, hy, h⟩ := h
  unfold bI0 at h
  split at h
  · cases (show Dq X.K F v (.int _) from hx)
    cases (show Dq X.K F u (.int _) from hy)
    exact ho pins s σ H _ _ v' u' Q I rv ru ⟨_, _, rfl, rfl, h _ F H ex (hg _ _ _ _)⟩
  · exact h.elim
end
abbrev bSub : B2 := bI0 fun i j => .int (i - j)
abbrev bFdiv : B2 := bI CDivG fun i j => .int (i.fdiv j)
abbrev bMod : B2 := bI (fun _ j => j ≠ 0) fun i j => .int (i.fmod j)
abbrev bPow : B2 := bI CPow fun i j => .int (i ^ j.toNat)
abbrev bLt : B2 := bI0 fun i j => .bool (decide (i < j))
abbrev bLe : B2 := bI0 fun i j => .bool (decide (i ≤ j))
abbrev bGt : B2 := bI0 fun i j => .bool (decide (j < i))
abbrev bGe : B2 := bI0 fun i j => .bool (decide (j ≤ i))
section
variable {X : Cx}
theorem oa_sub : OpR X (binaryOp .Sub) (liftR X.K bSub) := oa_I0 op_sub fun _ _ _ _ => .int _
theorem oa_fdiv : OpR X (binaryOp .FloorDiv) (liftR X.K bFdiv) := oa_I op_fdivG fun _ _ _ _ => .int _
theorem oa_mod : OpR X (binaryOp .Mod) (liftR X.K bMod) := oa_I op_modN fun _ _ _ _ => .int _
theorem oa_pow : OpR X (binaryOp .Pow) (liftR X.K bPow) := oa_I op_pow fun _ _ _ _ => .int _
theorem oa_lt : OpR X (compareOp .Lt) (liftR X.K bLt) := oa_I0 op_lt fun _ _ _ _ => .bl _
theorem oa_le : OpR X (compareOp .LtE) (liftR X.K bLe) := oa_I0 op_le fun _ _ _ _ => .bl _
theorem oa_gt : OpR X (compareOp .Gt) (liftR X.K bGt) := oa_I0 op_gt fun _ _ _ _ => .bl _
theorem oa_ge : OpR X (compareOp .GtE) (liftR X.K bGe) := oa_I0 op_ge fun _ _ _ _ => .bl _
end
theorem dqall_rep {K : PySem.W.Frag} {F : Hp} {vs : List V} {ds : List PyData} (h : DqAll K F vs ds) : ∀ n : Nat, DqAll K F (List.replicate n vs).flatten (List.replicate n ds).flatten
  | 0 => .nil
  | n + 1 => by
    rw [List.replicate_succ, List.replicate_succ, List.flatten_cons, List.flatten_cons]
    exact dq_app h (dqall_rep h n)
/-- a * b: ints, or a list and an int -/
def bMul : B2 := fun x y k => match x, y with
  | .d (.int i), .d (.int j) => i.natAbs.log2 + j.natAbs.log2 < 1000000 ∧ k (.d (.int (i * j)))
  | .d (.list a), .d (.int n) => (-(2 ^ 63) ≤ n ∧ n < 2 ^ 63 ∧ a.length * n.toNat ≤ sizeLine) ∧ k (.d (.list (List.replicate n.toNat a).flatten))
  | _, _ => False
theorem mono_mul : MonoB bMul := fun x y k k' h q => by
  unfold bMul at q ⊢
  split at q
  · exact ⟨q.1, h _ q.2⟩
  · exact ⟨q.1, h _ q.2⟩
  · exact q.elim
section
variable {X : Cx}
theorem oa_mul : OpR X (binaryOp .Mult) (liftR X.K bMul) := by
  intro pins s σ H v u v' u' Q I rv ru h
  obtain ⟨p, F, x, y, ex, hx, hy, h⟩ := h
  unfold bMul at h
  split at h
  · cases (show Dq X.K F v (.int _) from hx)
    cases (show Dq X.K F u (.int _) from hy)
    exact op_mulW pins s σ H _ _ v' u' Q I rv ru ⟨_, _, rfl, rfl, h.1, h.2 _ F H ex (Dq.int _)⟩
  · have hx : Dq X.K F v (.list _) := hx
    cases (show Dq X.K F u (.int _) from hy)
    cases hx with
    | lst h1 g1 =>
      refine op_repQ pins s σ H _ _ v' u' Q I rv ru ⟨_, _, _, rfl, rfl, ex.fh.seq h1, h.1.1, h.1.2.1, by rw [dq_len g1]; exact h.1.2.2, fun q nq => ?_⟩
      exact h.2 _ _ _ (fresh_lst ex nq (dqall_rep g1 _)).1 (fresh_lst ex nq (dqall_rep g1 _)).2
  · exact h.elim
end
/-! ## == and != -/
def scalD : PyData → PyData → Bool
  | .none, .none => true | .none, .int _ => true | .int _, .none => true | .none, .bool _ => true | .bool _, .none => true | .none, .str _ => true | .str _, .none => true
  | .int _, .int _ => true | .bool _, .bool _ => true | .str _, .str _ => true
  | .int _, .str _ => true | .str _, .int _ => true | .bool _, .str _ => true | .str _, .bool _ => true
  | _, _ => false
def eqOk (x y : PyData) : Bool := scalD x y || (SeqAt.shaped x && SeqAt.shaped y)
/-- a list and the empty one -/
def nilOk : PyData → PyData → Bool
  | .list _, .list [] => true
  | _, _ => false
def bEq : B2 := fun x y k => match x, y with
  | .d a, .d b => eqOk a b = true ∧ k (.d (.bool (PyData.eqv a b)))
  | _, _ => False
def bNe : B2 := fun x y k => match x, y with
  | .d a, .d b => (eqOk a b || nilOk a b) = true ∧ k (.d (.bool (!PyData.eqv a b)))
  | _, _ => False
theorem mono_eq : MonoB bEq := fun x y k k' h q => by
  unfold bEq at q ⊢
  split at q
  · exact ⟨q.1, h _ q.2⟩
  · exact q.elim
theorem mono_ne : MonoB bNe := fun x y k k' h q => by
  unfold bNe at q ⊢
  split at q
  · exact ⟨q.1, h _ q.2⟩
  · exact q.elim
theorem dec_iff {p : Prop} [Decidable p] {b : Bool} (h : p ↔ b = true) : decide p = b := by
  cases b with
  | true => exact decide_eq_true (h.mpr rfl)
  | false => exact decide_eq_false fun z => Bool.false_ne_true (h.mp z)
theorem scal_eqv {K : PySem.W.Frag} {F : Hp} {v u : V} {a b : PyData} (h : scalD a b = true) (hx : Dq K F v a) (hy : Dq K F u b) : scal v u = true ∧ decide (v = u) = PyData.eqv a b := by
  cases hx <;> cases hy <;> first
    | (exact absurd h (by decide))
    | exact ⟨rfl, rfl⟩
    | (refine ⟨rfl, dec_iff ?_⟩; simp [PyData.eqv])
    | exact ⟨rfl, decide_eq_false (fun z => V.noConfusion z)⟩
    | (exact Bool.noConfusion h)
section
variable {X : Cx}
theorem oa_eq (hu : X.A.units + 64 < cLine) : OpR X (compareOp .Eq) (liftR X.K bEq) := by
  intro pins s σ H v u v' u' Q I rv ru h
  obtain ⟨p, F, x, y, ex, hx, hy, h⟩ := h
  unfold bEq at h
  split at h
  · rename_i a b
    obtain ⟨ok, h⟩ := h
    unfold eqOk at ok
    rcases Bool.or_eq_true_iff.mp ok with sc | sh
    · obtain ⟨h1, h2⟩ := scal_eqv sc hx hy
      refine op_eq pins s σ H _ _ v' u' Q I rv ru ⟨h1, ?_⟩
      rw [h2]
      exact h _ F H ex (Dq.bl _)
    · rw [Bool.and_eq_true] at sh
      exact op_eqD hu pins s σ H _ _ v' u' Q I rv ru ⟨a, b, dq_dp a v (SeqAt.canLay_of_shaped sh.1) (Dq.same ex.fh hx), dq_dp b u (SeqAt.canLay_of_shaped sh.2) (Dq.same ex.fh hy), sh.1, sh.2, h _ F H ex (Dq.bl _)⟩
  · exact h.elim
theorem oa_ne (hu : X.A.units + 64 < cLine) : OpR X (compareOp .NotEq) (liftR X.K bNe) := by
  intro pins s σ H v u v' u' Q I rv ru h
  obtain ⟨p, F, x, y, ex, hx, hy, h⟩ := h
  unfold bNe at h
  split at h
  · rename_i a b
    obtain ⟨ok, h⟩ := h
    rcases Bool.or_eq_true_iff.mp ok with ok | nl
    · unfold eqOk at ok
      rcases Bool.or_eq_true_iff.mp ok with sc | sh
      · obtain ⟨h1, h2⟩ := scal_eqv sc hx hy
        refine op_ne pins s σ H _ _ v' u' Q I rv ru ⟨h1, ?_⟩
        rw [h2]
        exact h _ F H ex (Dq.bl _)
      · rw [Bool.and_eq_true] at sh
        exact op_neD hu pins s σ H _ _ v' u' Q I rv ru ⟨a, b, dq_dp a v (SeqAt.canLay_of_shaped sh.1) (Dq.same ex.fh hx), dq_dp b u (SeqAt.canLay_of_shaped sh.2) (Dq.same ex.fh hy), sh.1, sh.2, h _ F H ex (Dq.bl _)⟩
    · have hx : Dq X.K F v a := hx
      have hy : Dq X.K F u b := hy
      cases hx with
      | lst h1 g1 =>
        cases hy with
        | lst h2 g2 =>
          cases g2 with
          | nil =>
            refine op_neE hu pins s σ H _ _ v' u' Q I rv ru ⟨_, _, _, rfl, rfl, ex.fh.seq h1, ex.fh.seq h2, ?_⟩
            rw [dq_empty g1]
            have e : ∀ ds : List PyData, PyData.eqv (.list ds) (.list []) = ds.isEmpty := fun ds => by
              show PyData.eqvAll ds [] = ds.isEmpty
              cases ds <;> rfl
            rw [e] at h
            exact h _ F H ex (Dq.bl _)
          | cons _ _ => cases nl
        | _ => cases nl
      | _ => cases nl
  · exact h.elim
end
end Dl

set_option Elab.async false
set_option linter.all false
set_option maxRecDepth 100000
set_option maxHeartbeats 4000000
namespace Dl
open PySem PySem.Spec PyProof.Rows L2 Lw
/-! ## in, not in -/
def flatD : PyData → Bool
  | .none => true
  | .bool _ => true
  | .int _ => true
  | .str _ => true
  | _ => false
def inD (x : PyData) (xs : List PyData) : Bool := xs.any fun y => PyData.eqv y x
def bInG (neg : Bool) : B2 := fun x y k => match x, y with
  | .d a, .d (.list xs) => (flatD a = true ∧ xs.all flatD = true) ∧ k (.d (.bool (if neg then !inD a xs else inD a xs)))
  | .d a, .d (.tuple xs) => (flatD a = true ∧ xs.all flatD = true) ∧ k (.d (.bool (if neg then !inD a xs else inD a xs)))
  | .d (.str z), .d (.str w) => ∃ c, z = ⟨#[c]⟩ ∧ k (.d (.bool (if neg then !decide (c ∈ w.cps.toList) else decide (c ∈ w.cps.toList))))
  | _, _ => False
theorem mono_in {neg : Bool} : MonoB (bInG neg) := fun x y k k' h q => by
  unfold bInG at q ⊢
  split at q
  · exact ⟨q.1, h _ q.2⟩
  · exact ⟨q.1, h _ q.2⟩
  · obtain ⟨c, e, q⟩ := q
    exact ⟨c, e, h _ q⟩
  · exact q.elim
theorem flat_dq {K : PySem.W.Frag} {F : Hp} {v : V} {d : PyData} (h : Dq K F v d) : flatV v = flatD d := by
  cases h <;> rfl
theorem flat_all {K : PySem.W.Frag} {F : Hp} : ∀ {vs : List V} {ds : List PyData}, DqAll K F vs ds → vs.all flatV = ds.all flatD
  | _, _, .nil => rfl
  | _, _, .cons h g => by
    rw [List.all_cons, List.all_cons, flat_dq h, flat_all g]
theorem eqv_flat {K : PySem.W.Frag} {F : Hp} {v u : V} {a b : PyData} (h : Dq K F v a) (g : Dq K F u b) (fa : flatD a = true) (fb : flatD b = true) : eqV v u = PyData.eqv a b := by
  cases h <;> cases g <;> first
    | (exact Bool.noConfusion fa)
    | (exact Bool.noConfusion fb)
    | rfl
theorem in_flat {K : PySem.W.Frag} {F : Hp} {v : V} {a : PyData} (h : Dq K F v a) (fa : flatD a = true) : ∀ {vs : List V} {ds : List PyData}, DqAll K F vs ds → ds.all flatD = true → inV v vs = inD a ds
  | _, _, .nil, _ => rfl
  | _, _, .cons g gs, fs => by
    rw [List.all_cons, Bool.and_eq_true] at fs
    unfold inV inD
    rw [List.any_cons, List.any_cons, eqv_flat g h fs.1 fa]
    congr 1
    exact in_flat h fa gs fs.2
section
variable {X : Cx}
theorem oa_inG {neg : Bool} {op : CmpOp} (h1 : OpR X (compareOp op) (rIn X.K neg)) (h2 : OpR X (compareOp op) (fun x y H Q => ∃ (c : Nat) (z : Str), x = .str ⟨#[c]⟩ ∧ y = .str z ∧ Q (.bl (if neg then !decide (c ∈ z.cps.toList) else decide (c ∈ z.cps.toList))) H)) : OpR X (compareOp op) (liftR X.K (bInG neg)) := by
  intro pins s σ H v u v' u' Q I rv ru h
  obtain ⟨p, F, x, y, ex, hx, hy, h⟩ := h
  unfold bInG at h
  split at h
  · have hx : Dq X.K F v _ := hx
    have hy : Dq X.K F u (.list _) := hy
    cases hy with
    | lst g1 g2 =>
      refine h1 pins s σ H _ _ v' u' Q I rv ru ⟨_, _, rfl, .inl (ex.fh.seq g1), by rw [flat_dq hx]; exact h.1.1, by rw [flat_all g2]; exact h.1.2, ?_⟩
      rw [in_flat hx h.1.1 g2 h.1.2]
      exact h.2 _ F H ex (Dq.bl _)
  · have hx : Dq X.K F v _ := hx
    have hy : Dq X.K F u (.tuple _) := hy
    cases hy with
    | tup g1 g2 =>
      refine h1 pins s σ H _ _ v' u' Q I rv ru ⟨_, _, rfl, .inr (same_t ex.fh g1), by rw [flat_dq hx]; exact h.1.1, by rw [flat_all g2]; exact h.1.2, ?_⟩
      rw [in_flat hx h.1.1 g2 h.1.2]
      exact h.2 _ F H ex (Dq.bl _)
  · obtain ⟨c, e, h⟩ := h
    subst e
    cases (show Dq X.K F v (.str _) from hx)
    cases (show Dq X.K F u (.str _) from hy)
    exact h2 pins s σ H _ _ v' u' Q I rv ru ⟨_, _, rfl, rfl, h _ F H ex (Dq.bl _)⟩
  · exact h.elim
abbrev bIn : B2 := bInG false
abbrev bNotIn : B2 := bInG true
theorem oa_in : OpR X (compareOp .In) (liftR X.K bIn) := oa_inG op_in_seq op_in_sign
theorem oa_notIn : OpR X (compareOp .NotIn) (liftR X.K bNotIn) := oa_inG op_notIn_seq op_notIn_sign
end
/-! ## is None, is True -/
def isNon : PyData → Bool
  | .none => true
  | _ => false
def bIs : B2 := fun x y k => match x, y with
  | .d a, .d .none => k (.d (.bool (isNon a)))
  | .d (.bool a), .d (.bool b) => k (.d (.bool (a == b)))
  | _, _ => False
def bIsNot : B2 := fun x y k => match x, y with
  | .d a, .d .none => k (.d (.bool (!isNon a)))
  | .d (.bool a), .d (.bool b) => k (.d (.bool (!(a == b))))
  | _, _ => False
theorem mono_is : MonoB bIs := fun x y k k' h q => by
  unfold bIs at q ⊢
  split at q
  · exact h _ q
  · exact h _ q
  · exact q.elim
theorem mono_isNot : MonoB bIsNot := fun x y k k' h q => by
  unfold bIsNot at q ⊢
  split at q
  · exact h _ q
  · exact h _ q
  · exact q.elim
theorem non_dq {K : PySem.W.Frag} {F : Hp} {v : V} {d : PyData} (h : Dq K F v d) : decide (v = .non) = isNon d := by
  cases h <;> first
    | rfl
    | exact decide_eq_false (fun z => V.noConfusion z)
section
variable {X : Cx}
theorem oa_is : OpR X (compareOp .Is) (liftR X.K bIs) := by
  intro pins s σ H v u v' u' Q I rv ru h
  obtain ⟨p, F, x, y, ex, hx, hy, h⟩ := h
  unfold bIs at h
  split at h
  · cases (show Dq X.K F u .none from hy)
    refine op_isN pins s σ H _ _ v' u' Q I rv ru ⟨rfl, ?_⟩
    rw [non_dq (show Dq X.K F v _ from hx)]
    exact h _ F H ex (Dq.bl _)
  · cases (show Dq X.K F v (.bool _) from hx)
    cases (show Dq X.K F u (.bool _) from hy)
    exact Lw.op_isB pins s σ H _ _ v' u' Q I rv ru ⟨_, _, rfl, rfl, h _ F H ex (Dq.bl _)⟩
  · exact h.elim
theorem oa_isNot : OpR X (compareOp .IsNot) (liftR X.K bIsNot) := by
  intro pins s σ H v u v' u' Q I rv ru h
  obtain ⟨p, F, x, y, ex, hx, hy, h⟩ := h
  unfold bIsNot at h
  split at h
  · cases (show Dq X.K F u .none from hy)
    refine op_notN pins s σ H _ _ v' u' Q I rv ru ⟨rfl, ?_⟩
    rw [non_dq (show Dq X.K F v _ from hx)]
    exact h _ F H ex (Dq.bl _)
  · cases (show Dq X.K F v (.bool _) from hx)
    cases (show Dq X.K F u (.bool _) from hy)
    exact Lw.op_notB pins s σ H _ _ v' u' Q I rv ru ⟨_, _, rfl, rfl, h _ F H ex (Dq.bl _)⟩
  · exact h.elim
end
/-! ## x[i] -/
def bIx : B2 := fun x y k => match x, y with
  | .d (.list xs), .d (.int i) => ∃ z, atI xs i = some z ∧ k (.d z)
  | .d (.tuple xs), .d (.int i) => ∃ z, atI xs i = some z ∧ k (.d z)
  | .d (.str z), .d (.int i) => z.length ≤ sizeLine ∧ ∃ c, atI z.cps.toList i = some c ∧ k (.d (.str ⟨#[c]⟩))
  | _, _ => False
theorem mono_ix : MonoB bIx := fun x y k k' h q => by
  unfold bIx at q ⊢
  split at q
  · obtain ⟨z, e, q⟩ := q
    exact ⟨z, e, h _ q⟩
  · obtain ⟨z, e, q⟩ := q
    exact ⟨z, e, h _ q⟩
  · obtain ⟨l, z, e, q⟩ := q
    exact ⟨l, z, e, h _ q⟩
  · exact q.elim
theorem dq_atI {K : PySem.W.Frag} {F : Hp} {vs : List V} {ds : List PyData} {i : Int} {z : PyData} (g : DqAll K F vs ds) (h : atI ds i = some z) : ∃ v, atI vs i = some v ∧ Dq K F v z := by
  unfold atI at h ⊢
  obtain ⟨j, h1, h2⟩ := Option.bind_eq_some_iff.mp h
  have hl := dq_len g
  have hj : j < vs.length := by
    have := (List.getElem?_eq_some_iff.mp h2).1
    omega
  obtain ⟨d, e1, e2⟩ := dq_get g (List.getElem?_eq_getElem hj)
  rw [h2] at e1
  cases e1
  refine ⟨vs[j], ?_, e2⟩
  rw [hl, h1]
  exact List.getElem?_eq_getElem hj
section
variable {X : Cx}
theorem oa_ix : IxR X (liftR X.K bIx) := by
  intro value slice pins s σ H v u v' u' Q I rv ru h hs
  obtain ⟨p, F, x, y, ex, hx, hy, h⟩ := h
  unfold bIx at h
  split at h
  · have hx : Dq X.K F v (.list _) := hx
    cases (show Dq X.K F u (.int _) from hy)
    obtain ⟨z, e, h⟩ := h
    cases hx with
    | lst g1 g2 =>
      obtain ⟨w, e2, e3⟩ := dq_atI g2 e
      exact ix_list value slice pins s σ H _ _ v' u' Q I rv ru ⟨_, _, _, _, rfl, rfl, ex.fh.seq g1, e2, h _ F H ex e3⟩ hs
  · have hx : Dq X.K F v (.tuple _) := hx
    cases (show Dq X.K F u (.int _) from hy)
    obtain ⟨z, e, h⟩ := h
    cases hx with
    | tup g1 g2 =>
      obtain ⟨w, e2, e3⟩ := dq_atI g2 e
      exact ix_tup value slice pins s σ H _ _ v' u' Q I rv ru ⟨_, _, _, _, rfl, rfl, same_t ex.fh g1, e2, h _ F H ex e3⟩ hs
  · cases (show Dq X.K F v (.str _) from hx)
    cases (show Dq X.K F u (.int _) from hy)
    obtain ⟨l, c, e, h⟩ := h
    exact ix_str value slice pins s σ H _ _ v' u' Q I rv ru ⟨_, _, _, rfl, rfl, l, e, h _ F H ex (Dq.str _)⟩ hs
  · exact h.elim
end
/-! ## slices -/
abbrev BS := Av → Option Int → Option Int → (Av → Prop) → Prop
def cutD (xs : List PyData) (lo hi : Option Int) : List PyData := (xs.drop (HT.sIx xs.length 0 lo)).take (HT.sIx xs.length xs.length hi - HT.sIx xs.length 0 lo)
def bSl : BS := fun x lo hi k => match x with
  | .d (.list xs) => k (.d (.list (cutD xs lo hi)))
  | .d (.tuple xs) => k (.d (.tuple (cutD xs lo hi)))
  | .d (.str z) => z.length ≤ sizeLine ∧ k (.d (.str (cutS z lo hi)))
  | _ => False
theorem mono_sl {x : Av} {lo hi : Option Int} {k k' : Av → Prop} (h : ∀ z, k z → k' z) (q : bSl x lo hi k) : bSl x lo hi k' := by
  unfold bSl at q ⊢
  split at q
  · exact h _ q
  · exact h _ q
  · exact ⟨q.1, h _ q.2⟩
  · exact q.elim
def liftSl (K : PySem.W.Frag) : V → Option Int → Option Int → Hp → VK → Prop := fun v lo hi H Q => ∃ p F x, At p F H ∧ Ra K p F x v ∧ bSl x lo hi (fun z => ∀ w F' H', Ext p F H F' H' → Ra K p F' z w → Q w H')
theorem dqall_take {K : PySem.W.Frag} {F : Hp} : ∀ {vs : List V} {ds : List PyData} (n : Nat), DqAll K F vs ds → DqAll K F (vs.take n) (ds.take n)
  | _, _, 0, _ => .nil
  | _, _, _ + 1, .nil => .nil
  | _, _, n + 1, .cons h g => .cons h (dqall_take n g)
theorem dqall_drop {K : PySem.W.Frag} {F : Hp} : ∀ {vs : List V} {ds : List PyData} (n : Nat), DqAll K F vs ds → DqAll K F (vs.drop n) (ds.drop n)
  | _, _, 0, g => g
  | _, _, _ + 1, .nil => .nil
  | _, _, n + 1, .cons h g => dqall_drop n g
theorem dqall_cut {K : PySem.W.Frag} {F : Hp} {vs : List V} {ds : List PyData} {lo hi : Option Int} (g : DqAll K F vs ds) : DqAll K F (cutV vs lo hi) (cutD ds lo hi) := by
  unfold cutV cutD
  rw [dq_len g]
  exact dqall_take _ (dqall_drop _ g)
theorem cutD_whole {vs : List V} {ds : List PyData} {lo hi : Option Int} (l : vs.length = ds.length) (e : HT.sIx vs.length 0 lo = 0 ∧ HT.sIx vs.length vs.length hi = vs.length) : cutD ds lo hi = ds := by
  unfold cutD
  rw [← l, e.1, e.2]
  simp only [List.drop_zero, Nat.sub_zero]
  exact List.take_of_length_le (Nat.le_of_eq l.symm)
section
variable {X : Cx} {Z : Zn} {W : WX}
theorem sl_dl : SlR X (liftSl X.K) := by
  intro pins s σ H v v' vl vu lo hi sl Q I rv hs pl pu h
  obtain ⟨p, F, x, ex, hx, h⟩ := h
  unfold bSl at h
  split at h
  · have hx : Dq X.K F v (.list _) := hx
    cases hx with
    | lst g1 g2 => exact sl_list pins s σ H _ v' vl vu lo hi sl Q I rv hs pl pu ⟨_, _, rfl, ex.fh.seq g1, fun q nq => h _ _ _ (fresh_lst ex nq (dqall_cut g2)).1 (fresh_lst ex nq (dqall_cut g2)).2⟩
  · have hx : Dq X.K F v (.tuple _) := hx
    cases hx with
    | tup g1 g2 =>
      refine sl_tupA pins s σ H _ v' vl vu lo hi sl Q I rv hs pl pu ⟨_, _, rfl, same_t ex.fh g1, fun e => ?_, fun _ q nq => h _ _ _ (fresh_tup ex nq (dqall_cut g2)).1 (fresh_tup ex nq (dqall_cut g2)).2⟩
      rw [cutD_whole (dq_len g2) e] at h
      exact h _ F H ex (Dq.tup g1 g2)
  · cases (show Dq X.K F v (.str _) from hx)
    exact sl_str pins s σ H _ v' vl vu lo hi sl Q I rv hs pl pu ⟨_, rfl, h.1, h.2 _ F H ex (Dq.str _)⟩
  · exact h.elim
abbrev DTO := Gm → (Option Int → Prop) → ER → Prop
def liftO (K : PySem.W.Frag) (Z : Zn) (W : WX) (d : DTO) : TO := fun σ H Q => ∃ F Γ, Rep K Z F H σ Γ ∧ d Γ (fun o => ∀ F' H', Ext Z.p F H F' H' → Q o H') (erL K Z W F H σ)
structure DO (X : Cx) (Z : Zn) (W : WX) (e : Option Expr) (d : DTO) : Prop where
  mono : MonoE d
  run : PO X e (liftO X.K Z W d)
def dNo : DTO := fun _ k _ => k none
def dPt (d : DTE) : DTO := fun Γ k e => d Γ (fun x => match x with
  | .d (.int i) => k (some i)
  | _ => False) e
theorem po_weak {e : Option Expr} {t t' : TO} (h : PO X e t) (w : ∀ σ H Q, t' σ H Q → t σ H Q) : PO X e t' := ⟨fun pins s σ H Q I q => h.run pins s σ H Q I (w σ H Q q)⟩
theorem do_no : DO X Z W none dNo := ⟨fun _ _ _ _ _ h _ q => h _ q, po_weak po_none fun σ H Q q => by
  obtain ⟨F, Γ, r, q⟩ := q
  exact q F H r.now⟩
theorem do_pt {e : Expr} {d : DTE} (h : DE X Z W e d) : DO X Z W (some e) (dPt d) :=
  ⟨fun Γ k k' e e' hk he q => h.mono Γ _ _ _ _ (fun x hx => by
    split at hx
    · exact hk _ hx
    · exact hx.elim) he q, po_weak (po_some h.run) fun σ H Q q => by
    obtain ⟨F, Γ, r, q⟩ := q
    refine liftE.bind h.mono r q fun x v F1 H1 hx e1 r1 ra => ?_
    split at hx
    · rename_i i
      cases (show Dq X.K F1 v (.int i) from ra)
      exact ⟨i, rfl, hx F1 H1 e1⟩
    · exact hx.elim⟩
def dSl (d : DTE) (l h : DTO) : DTE := fun Γ k e => d Γ (fun x => l Γ (fun lo => h Γ (fun hi => bSl x lo hi k) e) e) e
theorem de_slice {e : Expr} {lo hi : Option Expr} {d : DTE} {l h : DTO} {p2 pos : Pos} (he : DE X Z W e d) (hl : DO X Z W lo l) (hh : DO X Z W hi h) : DE X Z W (.Subscript e (.Slice lo hi none p2) pos) (dSl d l h) :=
  ⟨fun Γ k k' e e' hk hee q => he.mono Γ _ _ _ _ (fun x hx => hl.mono Γ _ _ _ _ (fun o ho => hh.mono Γ _ _ _ _ (fun o2 ho2 => mono_sl hk ho2) hee ho) hee hx) hee q,
   pe_weak (pe_slice sl_dl he.run hl.run hh.run) fun σ H Q q => by
    obtain ⟨F, Γ, r, q⟩ := q
    refine liftE.bind he.mono r q fun x v F1 H1 hx e1 r1 ra => ?_
    refine ⟨F1, Γ, r1, hl.mono Γ _ _ _ _ (fun o ho F2 H2 e2 => ?_) (fun C fs z => z.later e1) hx⟩
    have r2 := r1.step e2
    refine ⟨F2, Γ, r2, hh.mono Γ _ _ _ _ (fun o2 ho2 F3 H3 e3 => ?_) (fun C fs z => z.later (e1.trans e2)) ho⟩
    exact ⟨Z.p, F3, x, (r2.step e3).now, (ra.same e2.ff).same e3.ff, mono_sl (fun z hz w' F' H' e' rz => hz w' F' H' (((e1.trans e2).trans e3).trans e') rz) ho2⟩⟩
end
/-! ## built-ins -/
def baLen : BA := fun xs k => match xs with
  | [.d (.list ds)] => k (.d (.int ds.length))
  | [.d (.tuple ds)] => k (.d (.int ds.length))
  | [.d (.str z)] => z.length ≤ sizeLine ∧ k (.d (.int z.length))
  | _ => False
theorem mono_len : MonoA baLen := fun xs k k' h q => by
  unfold baLen at q ⊢
  split at q
  · exact h _ q
  · exact h _ q
  · exact ⟨q.1, h _ q.2⟩
  · exact q.elim
section
variable {X : Cx}
theorem ca_len : CallR X (.builtin "len") (liftRA X.K baLen) := by
  intro pins s σ H vs us Q I rs h
  obtain ⟨p, F, xs, ex, hx, h⟩ := h
  unfold baLen at h
  split at h
  · cases hx with
    | cons h1 h2 =>
      cases h2
      have h1 : Dq X.K F _ (.list _) := h1
      cases h1 with
      | lst g1 g2 => exact call_len_seq pins s σ H _ us Q I rs ⟨_, _, rfl, .inl (ex.fh.seq g1), by rw [dq_len g2]; exact h _ F H ex (Dq.int _)⟩
  · cases hx with
    | cons h1 h2 =>
      cases h2
      have h1 : Dq X.K F _ (.tuple _) := h1
      cases h1 with
      | tup g1 g2 => exact call_len_seq pins s σ H _ us Q I rs ⟨_, _, rfl, .inr (same_t ex.fh g1), by rw [dq_len g2]; exact h _ F H ex (Dq.int _)⟩
  · cases hx with
    | cons h1 h2 =>
      cases h2
      cases (show Dq X.K F _ (.str _) from h1)
      exact call_len_str pins s σ H _ us Q I rs ⟨_, rfl, h.1, h.2 _ F H ex (Dq.int _)⟩
  · exact h.elim
end
/-- isinstance of data and a built-in class, or several of them -/
def isiD (d : PyData) (T : String) : Option Bool := kitB (tyD d) T
def baIsi : BA := fun xs k => match xs with
  | [.d d, .v (.ty T)] => ∃ b, isiD d T = some b ∧ k (.d (.bool b))
  | _ => False
theorem mono_isi : MonoA baIsi := fun xs k k' h q => by
  unfold baIsi at q ⊢
  split at q
  · obtain ⟨b, e, q⟩ := q
    exact ⟨b, e, h _ q⟩
  · exact q.elim
section
variable {X : Cx}
theorem ca_isi : CallR X (.builtin "isinstance") (liftRA X.K baIsi) := by
  intro pins s σ H vs us Q I rs h
  obtain ⟨p, F, xs, ex, hx, h⟩ := h
  unfold baIsi at h
  split at h
  · obtain ⟨b, e, h⟩ := h
    cases hx with
    | cons h1 h2 =>
      cases h2 with
      | cons h2 h3 =>
        cases h3
        cases h2
        exact call_isi pins s σ H _ us Q I rs ⟨_, _, _, _, b, rfl, .ty _, (Dq.same ex.fh h1).ty, kit_ty e, h _ F H ex (Dq.bl _)⟩
  · exact h.elim
end
/-- all, any of a list of bools -/
def boolsOf : List PyData → Option (List Bool)
  | [] => some []
  | .bool b :: r => match boolsOf r with
    | some bs => some (b :: bs)
    | none => none
  | _ :: _ => none
theorem bools_dq {K : PySem.W.Frag} {F : Hp} : ∀ {ds : List PyData} {vs : List V} {bs : List Bool}, boolsOf ds = some bs → DqAll K F vs ds → vs = bs.map V.bl
  | [], _, _, h, q => by
    cases h
    cases q
    rfl
  | .bool b :: r, _, bs, h, q => by
    cases q with
    | cons h1 h2 =>
      cases h1
      unfold boolsOf at h
      cases e : boolsOf r with
      | none =>
        rw [e] at h
        cases h
      | some cs =>
        rw [e] at h
        cases h
        rw [bools_dq e h2]
        rfl
theorem bools_map (bs : List Bool) : boolsOf (bs.map PyData.bool) = some bs := by
  induction bs with
  | nil => rfl
  | cons b bs ih =>
    show (match boolsOf (bs.map PyData.bool) with | some bs => some (b :: bs) | none => none) = _
    rw [ih]
def baAll : BA := fun xs k => match xs with
  | [.d (.list ds)] => ∃ bs, boolsOf ds = some bs ∧ k (.d (.bool (bs.all id)))
  | _ => False
def baAny : BA := fun xs k => match xs with
  | [.d (.list ds)] => ∃ bs, boolsOf ds = some bs ∧ k (.d (.bool (bs.any id)))
  | _ => False
theorem mono_all : MonoA baAll := fun xs k k' h q => by
  unfold baAll at q ⊢
  split at q
  · obtain ⟨b, e, q⟩ := q
    exact ⟨b, e, h _ q⟩
  · exact q.elim
theorem mono_any : MonoA baAny := fun xs k k' h q => by
  unfold baAny at q ⊢
  split at q
  · obtain ⟨b, e, q⟩ := q
    exact ⟨b, e, h _ q⟩
  · exact q.elim
section
variable {X : Cx}
theorem ca_all (hc : X.calm = true) : CallR X (.builtin "all") (liftRA X.K baAll) := by
  intro pins s σ H vs us Q I rs h
  obtain ⟨p, F, xs, ex, hx, h⟩ := h
  unfold baAll at h
  split at h
  · obtain ⟨bs, e, h⟩ := h
    cases hx with
    | cons h1 h2 =>
      cases h2
      have h1 : Dq X.K F _ (.list _) := h1
      cases h1 with
      | lst g1 g2 =>
        have eb := bools_dq e g2
        subst eb
        exact cr_all hc pins s σ H _ us Q I rs ⟨_, bs, rfl, ex.fh.seq g1, h _ F H ex (Dq.bl _)⟩
  · exact h.elim
theorem ca_any (hc : X.calm = true) : CallR X (.builtin "any") (liftRA X.K baAny) := by
  intro pins s σ H vs us Q I rs h
  obtain ⟨p, F, xs, ex, hx, h⟩ := h
  unfold baAny at h
  split at h
  · obtain ⟨bs, e, h⟩ := h
    cases hx with
    | cons h1 h2 =>
      cases h2
      have h1 : Dq X.K F _ (.list _) := h1
      cases h1 with
      | lst g1 g2 =>
        have eb := bools_dq e g2
        subst eb
        exact cr_any hc pins s σ H _ us Q I rs ⟨_, bs, rfl, ex.fh.seq g1, h _ F H ex (Dq.bl _)⟩
  · exact h.elim
end
/-- built-ins of one or two ints -/
def baI1 (g : Int → PyData) : BA := fun xs k => match xs with
  | [.d (.int i)] => k (.d (g i))
  | _ => False
def baI2 (g : Int → Int → PyData) : BA := fun xs k => match xs with
  | [.d (.int i), .d (.int j)] => k (.d (g i j))
  | _ => False
theorem mono_I1 {g : Int → PyData} : MonoA (baI1 g) := fun xs k k' h q => by
  unfold baI1 at q ⊢
  split at q
  · exact h _ q
  · exact q.elim
theorem mono_I2 {g : Int → Int → PyData} : MonoA (baI2 g) := fun xs k k' h q => by
  unfold baI2 at q ⊢
  split at q
  · exact h _ q
  · exact q.elim
abbrev baAbs : BA := baI1 fun i => .int (if i < 0 then -i else i)
abbrev baMax : BA := baI2 fun i j => .int (if j > i then j else i)
abbrev baMin : BA := baI2 fun i j => .int (if j < i then j else i)
section
variable {X : Cx}
theorem ca_I1 {f : Value} {g : Int → PyData} {gv : Int → V} (hc : CallR X f (fun xs H Q => ∃ i, xs = [.int i] ∧ Q (gv i) H)) (hg : ∀ K F i, Dq K F (gv i) (g i)) : CallR X f (liftRA X.K (baI1 g)) := by
  intro pins s σ H vs us Q I rs h
  obtain ⟨p, F, xs, ex, hx, h⟩ := h
  unfold baI1 at h
  split at h
  · cases hx with
    | cons h1 h2 =>
      cases h2
      cases (show Dq X.K F _ (.int _) from h1)
      exact hc pins s σ H _ us Q I rs ⟨_, rfl, h _ F H ex (hg _ _ _)⟩
  · exact h.elim
theorem ca_I2 {f : Value} {g : Int → Int → PyData} {gv : Int → Int → V} (hc : CallR X f (fun xs H Q => ∃ i j, xs = [.int i, .int j] ∧ Q (gv i j) H)) (hg : ∀ K F i j, Dq K F (gv i j) (g i j)) : CallR X f (liftRA X.K (baI2 g)) := by
  intro pins s σ H vs us Q I rs h
  obtain ⟨p, F, xs, ex, hx, h⟩ := h
  unfold baI2 at h
  split at h
  · cases hx with
    | cons h1 h2 =>
      cases h2 with
      | cons h2 h3 =>
        cases h3
        cases (show Dq X.K F _ (.int _) from h1)
        cases (show Dq X.K F _ (.int _) from h2)
        exact hc pins s σ H _ us Q I rs ⟨_, _, rfl, h _ F H ex (hg _ _ _ _)⟩
  · exact h.elim
theorem ca_abs : CallR X (.builtin "abs") (liftRA X.K baAbs) := ca_I1 call_abs fun _ _ _ => .int _
theorem ca_max (hc : X.calm = true) : CallR X (.builtin "max") (liftRA X.K baMax) := ca_I2 (call_max2 hc) fun _ _ _ _ => .int _
theorem ca_min (hc : X.calm = true) : CallR X (.builtin "min") (liftRA X.K baMin) := ca_I2 (call_min2 hc) fun _ _ _ _ => .int _
end
/-- list(x), tuple(x) -/
def baList : BA := fun xs k => match xs with
  | [.d (.list ds)] => k (.d (.list ds))
  | [.d (.tuple ds)] => k (.d (.list ds))
  | _ => False
def baTup : BA := fun xs k => match xs with
  | [.d (.list ds)] => k (.d (.tuple ds))
  | [.d (.tuple ds)] => k (.d (.tuple ds))
  | _ => False
theorem mono_list : MonoA baList := fun xs k k' h q => by
  unfold baList at q ⊢
  split at q
  · exact h _ q
  · exact h _ q
  · exact q.elim
theorem mono_tup : MonoA baTup := fun xs k k' h q => by
  unfold baTup at q ⊢
  split at q
  · exact h _ q
  · exact h _ q
  · exact q.elim
section
variable {X : Cx}
theorem ca_list : CallR X (.type "list") (liftRA X.K baList) := by
  intro pins s σ H vs us Q I rs h
  obtain ⟨p, F, xs, ex, hx, h⟩ := h
  unfold baList at h
  split at h
  · cases hx with
    | cons h1 h2 =>
      cases h2
      have h1 : Dq X.K F _ (.list _) := h1
      cases h1 with
      | lst g1 g2 => exact call_list_of pins s σ H _ us Q I rs ⟨_, _, rfl, .inl (ex.fh.seq g1), fun q nq => h _ _ _ (fresh_lst ex nq g2).1 (fresh_lst ex nq g2).2⟩
  · cases hx with
    | cons h1 h2 =>
      cases h2
      have h1 : Dq X.K F _ (.tuple _) := h1
      cases h1 with
      | tup g1 g2 => exact call_list_of pins s σ H _ us Q I rs ⟨_, _, rfl, .inr (same_t ex.fh g1), fun q nq => h _ _ _ (fresh_lst ex nq g2).1 (fresh_lst ex nq g2).2⟩
  · exact h.elim
theorem ca_tup : CallR X (.type "tuple") (liftRA X.K baTup) := by
  intro pins s σ H vs us Q I rs h
  obtain ⟨p, F, xs, ex, hx, h⟩ := h
  unfold baTup at h
  split at h
  · cases hx with
    | cons h1 h2 =>
      cases h2
      have h1 : Dq X.K F _ (.list _) := h1
      cases h1 with
      | lst g1 g2 => exact call_tuple_of pins s σ H _ us Q I rs ⟨_, _, rfl, .inl ⟨ex.fh.seq g1, fun q nq => h _ _ _ (fresh_tup ex nq g2).1 (fresh_tup ex nq g2).2⟩⟩
  · cases hx with
    | cons h1 h2 =>
      cases h2
      have h1 : Dq X.K F _ (.tuple _) := h1
      cases h1 with
      | tup g1 g2 => exact call_tuple_of pins s σ H _ us Q I rs ⟨_, _, rfl, .inr ⟨same_t ex.fh g1, h _ F H ex (Dq.tup g1 g2)⟩⟩
  · exact h.elim
end
/-- int(x), str(i), repr(x) -/
def baInt : BA := fun xs k => match xs with
  | [.d (.int i)] => k (.d (.int i))
  | [.d (.bool b)] => k (.d (.int (if b then 1 else 0)))
  | _ => False
def baStr : BA := fun xs k => match xs with
  | [.d (.int i)] => i.natAbs.log2 < 1920 ∧ k (.d (.str (toString i)))
  | _ => False
def baRepr : BA := fun xs k => match xs with
  | [.d x] => (x.showable = true ∧ x.shown.length ≤ sizeLine ∧ x.depth ≤ 60) ∧ k (.d (.str x.shown))
  | _ => False
theorem mono_int : MonoA baInt := fun xs k k' h q => by
  unfold baInt at q ⊢
  split at q
  · exact h _ q
  · exact h _ q
  · exact q.elim
theorem mono_str : MonoA baStr := fun xs k k' h q => by
  unfold baStr at q ⊢
  split at q
  · exact ⟨q.1, h _ q.2⟩
  · exact q.elim
theorem mono_repr : MonoA baRepr := fun xs k k' h q => by
  unfold baRepr at q ⊢
  split at q
  · exact ⟨q.1, h _ q.2⟩
  · exact q.elim
section
variable {X : Cx}
theorem ca_int : CallR X (.type "int") (liftRA X.K baInt) := by
  intro pins s σ H vs us Q I rs h
  obtain ⟨p, F, xs, ex, hx, h⟩ := h
  unfold baInt at h
  split at h
  · cases hx with
    | cons h1 h2 =>
      cases h2
      cases (show Dq X.K F _ (.int _) from h1)
      exact call_int1 pins s σ H _ us Q I rs (.inl ⟨_, rfl, h _ F H ex (Dq.int _)⟩)
  · cases hx with
    | cons h1 h2 =>
      cases h2
      cases (show Dq X.K F _ (.bool _) from h1)
      exact call_int1 pins s σ H _ us Q I rs (.inr ⟨_, rfl, h _ F H ex (Dq.int _)⟩)
  · exact h.elim
theorem ca_str : CallR X (.type "str") (liftRA X.K baStr) := by
  intro pins s σ H vs us Q I rs h
  obtain ⟨p, F, xs, ex, hx, h⟩ := h
  unfold baStr at h
  split at h
  · cases hx with
    | cons h1 h2 =>
      cases h2
      cases (show Dq X.K F _ (.int _) from h1)
      exact call_str_int pins s σ H _ us Q I rs ⟨_, rfl, h.1, h.2 _ F H ex (Dq.str _)⟩
  · exact h.elim
theorem ca_repr (B : SysOk X.base) (hg : X.A.guards = some []) (hu : X.A.units + 64 < cLine) : CallR X (.builtin "repr") (liftRA X.K baRepr) := by
  intro pins s σ H vs us Q I rs h
  obtain ⟨p, F, xs, ex, hx, h⟩ := h
  unfold baRepr at h
  split at h
  · cases hx with
    | cons h1 h2 =>
      cases h2
      exact call_repr B hg hu pins s σ H _ us Q I rs ⟨_, _, rfl, Dq.same ex.fh h1, h.1.1, h.1.2.1, h.1.2.2, h.2 _ F H ex (Dq.str _)⟩
  · exact h.elim
end
/-- -i -/
def bNeg : B1 := fun x k => match x with
  | .d (.int i) => k (.d (.int (-i)))
  | _ => False
theorem mono_neg : MonoB1 bNeg := fun x k k' h q => by
  unfold bNeg at q ⊢
  split at q
  · exact h _ q
  · exact q.elim
theorem ua_neg {X : Cx} : UnR X (unaryOp .USub) (liftR1 X.K bNeg) := by
  intro pins s σ H v v' Q I rv h
  obtain ⟨p, F, x, ex, hx, h⟩ := h
  unfold bNeg at h
  split at h
  · cases (show Dq X.K F v (.int _) from hx)
    exact un_neg pins s σ H _ v' Q I rv ⟨_, rfl, h _ F H ex (Dq.int _)⟩
  · exact h.elim
end Dl

set_option Elab.async false
set_option linter.all false
set_option maxRecDepth 100000
set_option maxHeartbeats 4000000
/-! Readings of statements over data. -/
namespace Dl
open PySem PySem.Spec PyProof.Rows L2 Lw
theorem DEnds.Le.rfl' (E : DEnds) : E.Le E := ⟨fun _ h => h, fun _ h => h, fun _ h => h, fun _ h => h, fun _ _ _ h => h⟩
def flatA : Av → Bool
  | .d x => flatD x
  | _ => false
theorem flat_ra {K : PySem.W.Frag} {p : Option Addr} {F F' : Hp} {x : Av} {v : V} (f : flatA x = true) (h : Ra K p F x v) : Ra K p F' x v := by
  cases x with
  | d y =>
    have h : Dq K F v y := h
    cases h with
    | non => exact Dq.non
    | bl b => exact Dq.bl b
    | int i => exact Dq.int i
    | str z => exact Dq.str z
    | _ => exact Bool.noConfusion f
  | _ => exact Bool.noConfusion f
section
variable {X : Cx} {Z : Zn} {W : WX}
/-! ## blocks -/
def sNext : DTS := fun E Γ => E.nx Γ
def sSeq (s t : DTS) : DTS := fun E Γ => s { E with nx := fun Γ' => t E Γ' } Γ
theorem dss_nil : DSs X Z W [] sNext := ⟨fun _ _ _ h q => h.nx _ q, pss_weak pss_nil fun D σ H q => by
  obtain ⟨F, Γ, r, q⟩ := q
  exact q σ F H r⟩
theorem ds_pass {pos : Pos} : DS X Z W (.Pass pos) sNext := ⟨fun _ _ _ h q => h.nx _ q, ps_weak ps_pass fun D σ H q => by
  obtain ⟨F, Γ, r, q⟩ := q
  exact q σ F H r⟩
theorem dss_one {st : Stmt} {d : DTS} (h : DS X Z W st d) : DSs X Z W [st] d := ⟨h.mono, pss_one h.run⟩
theorem mono_seq {s t : DTS} (h1 : MonoS s) (h2 : MonoS t) : MonoS (sSeq s t) := fun E E' Γ h q => h1 { E with nx := fun Γ' => t E Γ' } { E' with nx := fun Γ' => t E' Γ' } Γ ⟨fun Γ' q' => h2 E E' Γ' h q', h.rt, h.bk, h.ct, h.er⟩ q
theorem dss_cons {st : Stmt} {rest : List Stmt} {d e : DTS} (h1 : DS X Z W st d) (h2 : DSs X Z W rest e) : DSs X Z W (st :: rest) (sSeq d e) :=
  ⟨mono_seq h1.mono h2.mono, pss_weak (pss_cons h1.run h2.run) fun D σ H q => by
    obtain ⟨F, Γ, r, q⟩ := q
    exact ⟨F, Γ, r, h1.mono { endL X.K Z W D with nx := fun Γ' => e (endL X.K Z W D) Γ' } _ Γ ⟨fun Γ' q' σ' F' H' r' => ⟨F', Γ', r', q'⟩, fun _ z => z, fun _ z => z, fun _ z => z, fun _ _ _ z => z⟩ q⟩⟩
def sBreak : DTS := fun E Γ => E.bk Γ
def sCont : DTS := fun E Γ => E.ct Γ
theorem ds_break {pos : Pos} : DS X Z W (.Break pos) sBreak := ⟨fun _ _ _ h q => h.bk _ q, ps_weak ps_break fun D σ H q => by
  obtain ⟨F, Γ, r, q⟩ := q
  exact q σ F H r⟩
theorem ds_cont {pos : Pos} : DS X Z W (.Continue pos) sCont := ⟨fun _ _ _ h q => h.ct _ q, ps_weak ps_continue fun D σ H q => by
  obtain ⟨F, Γ, r, q⟩ := q
  exact q σ F H r⟩
/-- own lists as data from here on -/
theorem ds_frz {st : Stmt} {d : DTS} (h : DS X Z W st d) : DS X Z W st (fun E Γ => d E (frz Γ)) := ⟨fun E E' Γ l q => h.mono E E' _ l q, ps_weak h.run fun D σ H q => by
  obtain ⟨F, Γ, r, q⟩ := q
  exact ⟨_, _, r.freeze, q⟩⟩
/-- code that is never come to -/
def sNever : DTS := fun _ _ => False
theorem ds_never {st : Stmt} : DS X Z W st sNever := ⟨fun _ _ _ _ q => q, ps_weak ps_never fun D σ H q => by
  obtain ⟨F, Γ, r, q⟩ := q
  exact q⟩
theorem dss_never {st : List Stmt} : DSs X Z W st sNever := ⟨fun _ _ _ _ q => q, pss_weak pss_never fun D σ H q => by
  obtain ⟨F, Γ, r, q⟩ := q
  exact q⟩
/-! ## return, if, expressions -/
theorem er_of {K : PySem.W.Frag} {F H F' H' : Hp} {σ : L2.St} {Γ : Gm} {D : Ends} {C : Addr} {fs : List (Str × PyData)} (r : Rep K Z F H σ Γ) (h : (endL K Z W D).er Γ C fs) : erL K Z W F H σ C fs := fun dx F' H' e x => h dx σ F' H' (r.step e) x
def sRet (d : DTE) : DTS := fun E Γ => d (frz Γ) E.rt (E.er (frz Γ))
theorem ds_ret {e : Expr} {d : DTE} {pos : Pos} (h : DE X Z W e d) : DS X Z W (.Return (some e) pos) (sRet d) :=
  ⟨fun E E' Γ l q => h.mono _ _ _ _ _ l.rt (l.er _) q, ps_weak (ps_ret h.run) fun D σ H q => by
    obtain ⟨F, Γ, r, q⟩ := q
    have r2 := r.freeze
    exact liftE.bind h.mono r2 (h.mono _ _ _ _ _ (fun _ z => z) (fun C fs z => er_of (F' := F) (H' := H) r2 z) q) fun x v F' H' hx e r3 ra => hx v F' H' r3.ext ra⟩
def sRetN : DTS := fun E _ => E.rt (.d .none)
theorem ds_retN {pos : Pos} : DS X Z W (.Return none pos) sRetN :=
  ⟨fun E E' Γ l q => l.rt _ q, ps_weak ps_retN fun D σ H q => by
    obtain ⟨F, Γ, r, q⟩ := q
    exact q _ F H r.ext Dq.non⟩
def sIf (t : DTT) (a b : DTS) : DTS := fun E Γ => t (frz Γ) (fun c => if c = true then a E Γ else b E Γ) (E.er (frz Γ))
theorem mono_if {t : DTT} {a b : DTS} (h1 : MonoE t) (h2 : MonoS a) (h3 : MonoS b) : MonoS (sIf t a b) := fun E E' Γ l q => h1 _ _ _ _ _ (fun c hc => by
  cases c with
  | true => exact h2 _ _ _ l hc
  | false => exact h3 _ _ _ l hc) (l.er _) q
theorem ds_if {c : Expr} {a b : List Stmt} {t : DTT} {da db : DTS} {pos : Pos} (hc : DT X Z W c t) (ha : DSs X Z W a da) (hb : DSs X Z W b db) : DS X Z W (.If c a b pos) (sIf t da db) :=
  ⟨mono_if hc.mono ha.mono hb.mono, ps_weak (ps_if hc.run ha.run hb.run) fun D σ H q => by
    obtain ⟨F, Γ, r, q⟩ := q
    have r2 := r.freeze
    refine liftT.bind hc.mono r2 (hc.mono _ _ _ _ _ (fun _ z => z) (fun C fs z => er_of (F' := F) (H' := H) r2 z) q) fun c F' H' hx e r3 => ?_
    have r4 := r.step (r.thaw e)
    cases c with
    | true => exact ⟨_, Γ, r4, hx⟩
    | false => exact ⟨_, Γ, r4, hx⟩⟩
def sDrop (d : DTE) : DTS := fun E Γ => d Γ (fun _ => E.nx Γ) (E.er Γ)
theorem ds_expr {e : Expr} {d : DTE} {pos : Pos} (h : DE X Z W e d) (hs : swapsWith e none pos.line X.env = pure false := by rfl) : DS X Z W (.Expr e pos) (sDrop d) :=
  ⟨fun E E' Γ l q => h.mono _ _ _ _ _ (fun _ z => l.nx _ z) (l.er _) q, ps_weak (ps_expr h.run hs) fun D σ H q => by
    obtain ⟨F, Γ, r, q⟩ := q
    exact liftE.bind h.mono r (h.mono _ _ _ _ _ (fun _ z => z) (fun C fs z => er_of (F' := F) (H' := H) r z) q) fun x v F' H' hx e r3 ra => hx σ F' H' r3⟩
/-! ## name = value -/
def sSet (i : Nat) (d : DTE) : DTS := fun E Γ => d Γ (fun x => E.nx (Γ.set i (.va x))) (E.er Γ)
/-- the value is flat; own lists may be read -/
def sSetL (i : Nat) (d : DTE) : DTS := fun E Γ => d (frz Γ) (fun x => flatA x = true ∧ E.nx (Γ.set i (.va x))) (E.er (frz Γ))
theorem mono_set {i : Nat} {d : DTE} (h : MonoE d) : MonoS (sSet i d) := fun E E' Γ l q => h _ _ _ _ _ (fun _ z => l.nx _ z) (l.er _) q
theorem mono_setL {i : Nat} {d : DTE} (h : MonoE d) : MonoS (sSetL i d) := fun E E' Γ l q => h _ _ _ _ _ (fun _ z => ⟨z.1, l.nx _ z.2⟩) (l.er _) q
theorem ds_set_of {st : Stmt} {i : Nat} {d : DTE} {e : Expr} (h : DE X Z W e d) (hp : PS X st (tAsg (liftE X.K Z W d) (gName i))) : DS X Z W st (sSet i d) :=
  ⟨mono_set h.mono, ps_weak hp fun D σ H q => by
    obtain ⟨F, Γ, r, q⟩ := q
    exact liftE.bind h.mono r (h.mono _ _ _ _ _ (fun _ z => z) (fun C fs z => er_of (F' := F) (H' := H) r z) q) fun x v F' H' hx e r3 ra => hx _ F' H' (r3.set ra)⟩
theorem ds_setL_of {st : Stmt} {i : Nat} {d : DTE} {e : Expr} (h : DE X Z W e d) (hp : PS X st (tAsg (liftE X.K Z W d) (gName i))) : DS X Z W st (sSetL i d) :=
  ⟨mono_setL h.mono, ps_weak hp fun D σ H q => by
    obtain ⟨F, Γ, r, q⟩ := q
    have r2 := r.freeze
    exact liftE.bind h.mono r2 (h.mono _ _ _ _ _ (fun _ z => z) (fun C fs z => er_of (F' := F) (H' := H) r2 z) q) fun x v F' H' hx e r3 ra => hx.2 _ _ H' ((r.step (r.thaw e)).set (flat_ra hx.1 ra))⟩
theorem ds_set {i : Nat} {x : Str} {e : Expr} {d : DTE} {pos pos' : Pos} (hN : X.N.Nodup) (hi : X.N[i]? = some x) (hx : Loc X.env.scope x) (h : DE X Z W e d) (hs : swapsWith e (some (.Name x pos')) pos.line X.env = pure false := by rfl)
    (hf : X.fn x = true ∨ X.env.scope.names.lookup x = some .local := by first | exact .inl rfl | exact .inr rfl | assumption) : DS X Z W (.Assign [.Name x pos'] e pos) (sSet i d) := ds_set_of h (ps_set hN hi hx h.run hs hf)
theorem ds_setL {i : Nat} {x : Str} {e : Expr} {d : DTE} {pos pos' : Pos} (hN : X.N.Nodup) (hi : X.N[i]? = some x) (hx : Loc X.env.scope x) (h : DE X Z W e d) (hs : swapsWith e (some (.Name x pos')) pos.line X.env = pure false := by rfl)
    (hf : X.fn x = true ∨ X.env.scope.names.lookup x = some .local := by first | exact .inl rfl | exact .inr rfl | assumption) : DS X Z W (.Assign [.Name x pos'] e pos) (sSetL i d) := ds_setL_of h (ps_set hN hi hx h.run hs hf)
/-- a, b = x, y -/
def sPar (i j : Nat) (d : DTA) : DTS := fun E Γ => d Γ (fun xs => match xs with
  | [x, y] => E.nx ((Γ.set i (.va x)).set j (.va y))
  | _ => False) (E.er Γ)
theorem ds_par_of {st : Stmt} {i j : Nat} {d : DTA} {es : List Expr} (h : DA X Z W es d) (hp : PS X st (tPar i j (liftA X.K Z W d))) : DS X Z W st (sPar i j d) :=
  ⟨fun E E' Γ l q => h.mono _ _ _ _ _ (fun xs z => by
    split at z
    · exact l.nx _ z
    · exact z.elim) (l.er _) q, ps_weak hp fun D σ H q => by
    obtain ⟨F, Γ, r, q⟩ := q
    refine liftA.bind h.mono r (h.mono _ _ _ _ _ (fun _ z => z) (fun C fs z => er_of (F' := F) (H' := H) r z) q) fun xs vs F' H' hx e r3 ra => ?_
    split at hx
    · cases ra with
      | cons h1 h2 =>
        cases h2 with
        | cons h2 h3 =>
          cases h3
          exact ⟨_, _, rfl, hx _ F' H' ((r3.set h1).set h2)⟩
    · exact hx.elim⟩
end
/-! ## lists that are new -/
abbrev DTF := Gm → (List PyData → Prop) → ER → Prop
def liftF (K : PySem.W.Frag) (Z : Zn) (W : WX) (d : DTF) : TE := fun σ H Q => ∃ F Γ, Rep K Z F H σ Γ ∧ d Γ (fun ds => ∀ q vs F' H', Ext Z.p F H F' H' → H' q = none → DqAll K F' vs ds → Q (.ref q) (upd H' q (.lst vs))) (erL K Z W F H σ)
structure DF (X : Cx) (Z : Zn) (W : WX) (e : Expr) (d : DTF) : Prop where
  mono : MonoE d
  run : PE X e (liftF X.K Z W d)
def dOfF (d : DTF) : DTE := fun Γ k e => d Γ (fun ds => k (.d (.list ds))) e
theorem mono_of {d : DTF} (h : MonoE d) : MonoE (dOfF d) := fun Γ k k' e e' hk he q => h _ _ _ _ _ (fun ds z => hk _ z) he q
section
variable {X : Cx} {Z : Zn} {W : WX}
theorem liftF.of {d : DTF} (m : MonoE d) {σ : L2.St} {H : Hp} {Q : VK} (q : liftE X.K Z W (dOfF d) σ H Q) : liftF X.K Z W d σ H Q := by
  obtain ⟨F, Γ, r, q⟩ := q
  exact ⟨F, Γ, r, m _ _ _ _ _ (fun ds z b vs F' H' e nb g => z _ _ _ (e.trans (fresh_lst e.at1 nb g).1) (fresh_lst e.at1 nb g).2) (fun _ _ z => z) q⟩
theorem de_f {e : Expr} {d : DTF} (h : DF X Z W e d) : DE X Z W e (dOfF d) := ⟨mono_of h.mono, pe_weak h.run fun σ H Q q => liftF.of h.mono q⟩
def fDisp (da : DTA) : DTF := fun Γ k e => da Γ (fun xs => match datas xs with
  | some ds => ds.length ≤ sizeLine ∧ k ds
  | none => False) e
theorem df_lst {da : DTA} {es : List Expr} {pos : Pos} (h : DA X Z W es da) : DF X Z W (.List es pos) (fDisp da) :=
  ⟨fun Γ k k' e e' hk he q => h.mono _ _ _ _ _ (fun xs hx => by
    cases z : datas xs with
    | none =>
      rw [z] at hx
      exact hx.elim
    | some ds =>
      rw [z] at hx
      exact ⟨hx.1, hk _ hx.2⟩) he q, pe_weak (pe_lst h.run) fun σ H Q q => by
    obtain ⟨F, Γ, r, q⟩ := q
    refine liftA.bind h.mono r q fun xs vs F1 H1 hx e1 r1 ra => ?_
    cases z : datas xs with
    | none =>
      rw [z] at hx
      exact hx.elim
    | some ds =>
      rw [z] at hx
      have g := datas_all z ra
      exact ⟨by rw [dq_len g]; exact hx.1, fun p np => hx.2 p vs F1 H1 e1 np g⟩⟩
def fList (da : DTA) : DTF := fun Γ k e => da Γ (fun xs => match xs with
  | [.d (.list ds)] => k ds
  | [.d (.tuple ds)] => k ds
  | _ => False) e
theorem df_list {x : Str} {da : DTA} {e : Expr} {p pos : Pos} (hg : Gl X x) (hm : X.mg x = none) (hv : bootBuiltins x = some (.type "list")) (ha : DA X Z W [e] da) (hn : x ≠ "__name__" := by decide) (hdb : (x == ("__debug__" : Str)) = false := by decide)
    (he : starEach [e] X.env = (false, eval e X.env) :: starEach [] X.env := by rfl) (hpl : (backTo pos (starEach [] X.env)).any (·.1) = false := by rfl) : DF X Z W (.Call (.Name x p) [e] [] pos) (fList da) :=
  ⟨fun Γ k k' e e' hk he q => ha.mono _ _ _ _ _ (fun xs hx => by
    split at hx
    · exact hk _ hx
    · exact hk _ hx
    · exact hx.elim) he q, pe_weak (pe_callTy call_list_of hg hm hv ha.run hn hdb he hpl) fun σ H Q q => by
    obtain ⟨F, Γ, r, q⟩ := q
    refine liftA.bind ha.mono r q fun xs vs F1 H1 hx e1 r1 ra => ?_
    split at hx
    · cases ra with
      | cons h1 h2 =>
        cases h2
        have h1 : Dq X.K F1 _ (.list _) := h1
        cases h1 with
        | lst g1 g2 => exact ⟨_, _, rfl, .inl (e1.fh.seq g1), fun q nq => hx q _ F1 H1 e1 nq g2⟩
    · cases ra with
      | cons h1 h2 =>
        cases h2
        have h1 : Dq X.K F1 _ (.tuple _) := h1
        cases h1 with
        | tup g1 g2 => exact ⟨_, _, rfl, .inr (same_t e1.fh g1), fun q nq => hx q _ F1 H1 e1 nq g2⟩
    · exact hx.elim⟩
/-- a slot gets a list of its own -/
theorem Rep.setOw {K : PySem.W.Frag} {F H : Hp} {σ : L2.St} {Γ : Gm} (r : Rep K Z F H σ Γ) {i : Nat} {q : Addr} {vs : List V} {ds : List PyData} (nq : H q = none) (g : DqAll K F vs ds) : Rep K Z F (upd H q (.lst vs)) (σ.set i (some (.ref q))) (Γ.set i (.ow ds)) := by
  have e := Ext.newM (o := .lst vs) r.now nq
  have r1 := r.step e
  have n0 : Z.H0 q = none := by
    cases z : Z.H0 q with
    | none => rfl
    | some o =>
      have := r.ext.live (b := q) (by rw [z]; exact fun y => nomatch y)
      exact absurd nq this
  have nF : F q = none := by
    cases z : F q with
    | none => rfl
    | some o =>
      rw [r.ext.fh _ _ z] at nq
      cases nq
  have same : ∀ j, j ≠ i → (σ.set i (some (V.ref q)))[j]? = σ[j]? ∧ (Γ.set i (Sl.ow ds))[j]? = Γ[j]? := fun j hj => ⟨List.getElem?_set_ne (Ne.symm hj), List.getElem?_set_ne (Ne.symm hj)⟩
  have here : ∀ s, (Γ.set i (Sl.ow ds))[i]? = some s → s = .ow ds ∧ (σ.set i (some (V.ref q)))[i]? = some (some (V.ref q)) := fun s h => by
    by_cases hl : i < Γ.length
    · rw [List.getElem?_set_self hl] at h
      cases h
      exact ⟨rfl, List.getElem?_set_self (by rw [r.len]; exact hl)⟩
    · rw [List.getElem?_eq_none (by rw [List.length_set]; omega)] at h
      cases h
  have far : ∀ (j : Nat) (xs : List PyData) (b : Addr), Γ[j]? = some (Sl.ow xs) → σ[j]? = some (some (V.ref b)) → b ≠ q := fun j xs b h1 h2 hb => by
    obtain ⟨b', vs', e1, e2, _⟩ := r.ow j xs h1
    rw [h2] at e1
    cases e1
    rw [hb, nq] at e2
    cases e2
  refine ⟨r1.ext, r.pz, r1.fl, by rw [List.length_set, List.length_set]; exact r.len, fun j y h => ?_, fun j xs h => ?_, fun j k xs ys b h1 h2 h3 h4 => ?_⟩
  · by_cases hj : j = i
    · subst hj
      exact absurd (here _ h).1 (fun z => nomatch z)
    · rw [(same j hj).2] at h
      rw [(same j hj).1]
      exact r1.va j y h
  · by_cases hj : j = i
    · subst hj
      obtain ⟨h1, h2⟩ := here _ h
      cases h1
      exact ⟨q, vs, h2, upd_same, nF, n0, g⟩
    · rw [(same j hj).2] at h
      rw [(same j hj).1]
      exact r1.ow j xs h
  · by_cases hj : j = i
    · by_cases hk : k = i
      · rw [hj, hk]
      · subst hj
        rw [(same k hk).2] at h2
        rw [(same k hk).1] at h4
        obtain ⟨_, e5⟩ := here _ h1
        rw [e5] at h3
        cases h3
        exact absurd rfl (far k ys q h2 h4)
    · by_cases hk : k = i
      · subst hk
        rw [(same j hj).2] at h1
        rw [(same j hj).1] at h3
        obtain ⟨_, e5⟩ := here _ h2
        rw [e5] at h4
        cases h4
        exact absurd rfl (far j xs q h1 h3)
      · rw [(same j hj).2] at h1
        rw [(same j hj).1] at h3
        rw [(same k hk).2] at h2
        rw [(same k hk).1] at h4
        exact r.dis j k xs ys b h1 h2 h3 h4
def sOwn (i : Nat) (d : DTF) : DTS := fun E Γ => d Γ (fun ds => E.nx (Γ.set i (.ow ds))) (E.er Γ)
theorem ds_own_of {st : Stmt} {i : Nat} {d : DTF} {e : Expr} (h : DF X Z W e d) (hp : PS X st (tAsg (liftF X.K Z W d) (gName i))) : DS X Z W st (sOwn i d) :=
  ⟨fun E E' Γ l q => h.mono _ _ _ _ _ (fun _ z => l.nx _ z) (l.er _) q, ps_weak hp fun D σ H q => by
    obtain ⟨F, Γ, r, q⟩ := q
    exact ⟨F, Γ, r, h.mono _ _ _ _ _ (fun ds z b vs F' H' e nb g => z _ F' _ ((r.step e).setOw nb g)) (fun C fs z => er_of (F' := F) (H' := H) r z) q⟩⟩
theorem ds_own {i : Nat} {x : Str} {e : Expr} {d : DTF} {pos pos' : Pos} (hN : X.N.Nodup) (hi : X.N[i]? = some x) (hx : Loc X.env.scope x) (h : DF X Z W e d) (hs : swapsWith e (some (.Name x pos')) pos.line X.env = pure false := by rfl)
    (hf : X.fn x = true ∨ X.env.scope.names.lookup x = some .local := by first | exact .inl rfl | exact .inr rfl | assumption) : DS X Z W (.Assign [.Name x pos'] e pos) (sOwn i d) := ds_own_of h (ps_set hN hi hx h.run hs hf)
/-- an own list is changed -/
theorem Rep.putOw {K : PySem.W.Frag} {F H : Hp} {σ : L2.St} {Γ : Gm} (r : Rep K Z F H σ Γ) {i : Nat} {b : Addr} {xs ds : List PyData} {vs : List V} (h : Γ[i]? = some (.ow xs)) (hb : σ[i]? = some (some (.ref b))) (g : DqAll K F vs ds) : Rep K Z F (upd H b (.lst vs)) σ (Γ.set i (.ow ds)) := by
  obtain ⟨b', vs0, h1, h2, h3, h4, h5⟩ := r.ow i xs h
  rw [hb] at h1
  cases h1
  have np := r.notpot h4
  have hl : i < Γ.length := (List.getElem?_eq_some_iff.mp h).1
  have same : ∀ j, j ≠ i → (Γ.set i (Sl.ow ds))[j]? = Γ[j]? := fun j hj => List.getElem?_set_ne (Ne.symm hj)
  have ext : Ext Z.p Z.F0 Z.H0 F (upd H b (.lst vs)) := by
    refine ⟨r.ext.ff, fun c o e => ?_, fun c o q e => ?_, r.ext.off, fun a q => ?_⟩
    · have n : c ≠ b := fun z => by
        rw [z, h3] at e
        cases e
      rw [upd_ne n]
      exact r.ext.fh _ _ e
    · have n : c ≠ b := fun z => by
        rw [z, h4] at e
        cases e
      rw [upd_ne n]
      exact r.ext.keep c o q e
    · obtain ⟨q1, q2⟩ := r.ext.pot a q
      exact ⟨q1.put (fun z => np (z ▸ q)), q2⟩
  refine ⟨ext, r.pz, r.fl, by rw [List.length_set]; exact r.len, fun j y e => ?_, fun j ys e => ?_, fun j k ys zs c e1 e2 => ?_⟩
  · by_cases hj : j = i
    · subst hj
      rw [List.getElem?_set_self hl] at e
      cases e
    · rw [same j hj] at e
      exact r.va j y e
  · by_cases hj : j = i
    · subst hj
      rw [List.getElem?_set_self hl] at e
      cases e
      exact ⟨b, vs, hb, upd_same, h3, h4, g⟩
    · rw [same j hj] at e
      obtain ⟨c, ws, q1, q2, q3, q4, q5⟩ := r.ow j ys e
      refine ⟨c, ws, q1, ?_, q3, q4, q5⟩
      have n : c ≠ b := fun z => by
        subst z
        exact hj (r.dis j i ys xs c e h q1 hb)
      rw [upd_ne n]
      exact q2
  · have fix : ∀ {m : Nat} {us : List PyData}, (Γ.set i (Sl.ow ds))[m]? = some (.ow us) → ∃ us', Γ[m]? = some (.ow us') := fun {m us} e => by
      by_cases hm : m = i
      · exact ⟨xs, hm ▸ h⟩
      · exact ⟨us, by rw [← same m hm]; exact e⟩
    obtain ⟨us, f1⟩ := fix e1
    obtain ⟨ws, f2⟩ := fix e2
    exact r.dis j k us ws c f1 f2
/-- xs.append(e) -/
def sApp (i : Nat) (d : DTE) : DTS := fun E Γ => match Γ[i]? with
  | some (.ow xs) => d Γ (fun x => match x with
    | .d y => xs.length < sizeLine ∧ E.nx (Γ.set i (.ow (xs ++ [y])))
    | _ => False) (E.er Γ)
  | _ => False
def sAppL (i : Nat) (d : DTE) : DTS := fun E Γ => match Γ[i]? with
  | some (.ow xs) => d (frz Γ) (fun x => flatA x = true ∧ match x with
    | .d y => xs.length < sizeLine ∧ E.nx (Γ.set i (.ow (xs ++ [y])))
    | _ => False) (E.er (frz Γ))
  | _ => False
theorem own_tyV {K : PySem.W.Frag} {H : Hp} {b : Addr} {vs : List V} (h : H b = some (.lst vs)) : tyV K "list" (.ref b) H := .inl ⟨rfl, vs, .inl (.inl h)⟩
abbrev AppOk (X : Cx) (i : Nat) (e c : Expr) : Prop := ∀ t, PE X e t → PE X c (tBM X.K "list" rAppend (tVar i) (tCons t tNil))
theorem ds_app {i : Nat} {e c : Expr} {d : DTE} {pos : Pos} (hp : AppOk X i e c) (h : DE X Z W e d) (hs : swapsWith c none pos.line X.env = pure false := by rfl) : DS X Z W (.Expr c pos) (sApp i d) :=
  ⟨fun E E' Γ l q => by
    unfold sApp at q ⊢
    split at q
    · exact h.mono _ _ _ _ _ (fun x z => by
        split at z
        · exact ⟨z.1, l.nx _ z.2⟩
        · exact z.elim) (l.er _) q
    · exact q.elim, ps_weak (ps_expr (hp _ h.run) hs) fun D σ H q => by
    obtain ⟨F, Γ, r, q⟩ := q
    unfold sApp at q
    split at q
    · rename_i xs hi
      obtain ⟨b, vs, h1, h2, h3, h4, h5⟩ := r.ow i xs hi
      refine ⟨.ref b, h1, own_tyV h2, ?_⟩
      refine liftE.bind h.mono r (h.mono _ _ _ _ _ (fun _ z => z) (fun C fs z => er_of (F' := F) (H' := H) r z) q) fun x v F' H' hx e r3 ra => ?_
      split at hx
      · obtain ⟨b', vs', g1, g2, g3, g4, g5⟩ := r3.ow i xs hi
        rw [h1] at g1
        cases g1
        exact ⟨b, vs', v, rfl, rfl, g2, by rw [dq_len g5]; exact hx.1, hx.2 σ F' _ (r3.putOw hi h1 (dqall_snoc g5 ra))⟩
      · exact hx.elim
    · exact q.elim⟩
theorem ds_appL {i : Nat} {e c : Expr} {d : DTE} {pos : Pos} (hp : AppOk X i e c) (h : DE X Z W e d) (hs : swapsWith c none pos.line X.env = pure false := by rfl) : DS X Z W (.Expr c pos) (sAppL i d) :=
  ⟨fun E E' Γ l q => by
    unfold sAppL at q ⊢
    split at q
    · exact h.mono _ _ _ _ _ (fun x z => ⟨z.1, by
        have z2 := z.2
        split at z2
        · exact ⟨z2.1, l.nx _ z2.2⟩
        · exact z2.elim⟩) (l.er _) q
    · exact q.elim, ps_weak (ps_expr (hp _ h.run) hs) fun D σ H q => by
    obtain ⟨F, Γ, r, q⟩ := q
    unfold sAppL at q
    split at q
    · rename_i xs hi
      obtain ⟨b, vs, h1, h2, h3, h4, h5⟩ := r.ow i xs hi
      refine ⟨.ref b, h1, own_tyV h2, ?_⟩
      have r2 := r.freeze
      refine liftE.bind h.mono r2 (h.mono _ _ _ _ _ (fun _ z => z) (fun C fs z => er_of (F' := F) (H' := H) r2 z) q) fun x v F' H' hx e r3 ra => ?_
      obtain ⟨fl, hx⟩ := hx
      have r4 := r.step (r.thaw e)
      split at hx
      · obtain ⟨b', vs', g1, g2, g3, g4, g5⟩ := r4.ow i xs hi
        rw [h1] at g1
        cases g1
        exact ⟨b, vs', v, rfl, rfl, g2, by rw [dq_len g5]; exact hx.1, hx.2 σ _ _ (r4.putOw hi h1 (dqall_snoc g5 (flat_ra fl ra)))⟩
      · exact hx.elim
    · exact q.elim⟩
end
end Dl

set_option Elab.async false
set_option linter.all false
set_option maxRecDepth 100000
set_option maxHeartbeats 4000000
/-! Targets, loops and comprehensions over data. -/
namespace Dl
open PySem PySem.Spec PyProof.Rows L2 Lw
/-! ## the slots of a block -/
theorem wipe_get {σ : L2.St} : ∀ {vs : List Nat} {j : Nat}, (wipe σ vs)[j]? = if j ∈ vs ∧ j < σ.length then some none else σ[j]?
  | [], j => by simp [wipe]
  | v :: vs, j => by
    unfold wipe
    by_cases hj : v = j
    · subst hj
      by_cases hl : v < σ.length
      · rw [List.getElem?_set_self (by rw [wipe_length]; exact hl), if_pos ⟨List.mem_cons_self, hl⟩]
      · rw [List.getElem?_eq_none (by rw [List.length_set, wipe_length]; omega), if_neg (fun z => hl z.2), List.getElem?_eq_none (by omega)]
    · rw [List.getElem?_set_ne hj, wipe_get]
      have : (j ∈ v :: vs ∧ j < σ.length) ↔ (j ∈ vs ∧ j < σ.length) := by
        simp only [List.mem_cons]
        constructor
        · rintro ⟨h | h, l⟩
          · exact absurd h.symm hj
          · exact ⟨h, l⟩
        · rintro ⟨h, l⟩
          exact ⟨.inr h, l⟩
      by_cases c : j ∈ vs ∧ j < σ.length
      · rw [if_pos c, if_pos (this.mpr c)]
      · rw [if_neg c, if_neg (fun z => c (this.mp z))]
theorem wipe_set {σ : L2.St} {vs : List Nat} {i : Nat} {x : Option V} (h : i ∈ vs) : wipe (σ.set i x) vs = wipe σ vs := by
  apply List.ext_getElem?
  intro j
  rw [wipe_get, wipe_get, List.length_set]
  by_cases c : j ∈ vs ∧ j < σ.length
  · rw [if_pos c, if_pos c]
  · rw [if_neg c, if_neg c]
    by_cases hj : i = j
    · subst hj
      have hl : ¬ i < σ.length := fun z => c ⟨h, z⟩
      rw [List.getElem?_eq_none (by rw [List.length_set]; omega), List.getElem?_eq_none (by omega)]
    · exact List.getElem?_set_ne hj
def wipeG (Γ : Gm) : List Nat → Gm
  | [] => Γ
  | v :: vs => (wipeG Γ vs).set v .no
theorem wipeG_length (Γ : Gm) : ∀ vs : List Nat, (wipeG Γ vs).length = Γ.length
  | [] => rfl
  | v :: vs => by unfold wipeG; rw [List.length_set, wipeG_length Γ vs]
theorem wipeG_get {Γ : Gm} : ∀ {vs : List Nat} {j : Nat} {s : Sl}, (wipeG Γ vs)[j]? = some s → (s = .no) ∨ (j ∉ vs ∧ Γ[j]? = some s)
  | [], j, s, h => .inr ⟨by simp, h⟩
  | v :: vs, j, s, h => by
    unfold wipeG at h
    by_cases hj : v = j
    · subst hj
      by_cases hl : v < (wipeG Γ vs).length
      · rw [List.getElem?_set_self hl] at h
        cases h
        exact .inl rfl
      · rw [List.getElem?_eq_none (by rw [List.length_set]; omega)] at h
        cases h
    · rw [List.getElem?_set_ne hj] at h
      rcases wipeG_get h with h | ⟨h1, h2⟩
      · exact .inl h
      · exact .inr ⟨by simp only [List.mem_cons, not_or]; exact ⟨fun e => hj e.symm, h1⟩, h2⟩
theorem Rep.wipe {K : PySem.W.Frag} {Z : Zn} {F H : Hp} {σ : L2.St} {Γ : Gm} (r : Rep K Z F H σ Γ) (vs : List Nat) : Rep K Z F H (L2.wipe σ vs) (wipeG Γ vs) := by
  have get : ∀ {j : Nat} {s : Sl}, (wipeG Γ vs)[j]? = some s → s ≠ .no → Γ[j]? = some s ∧ (L2.wipe σ vs)[j]? = σ[j]? := fun {j s} h n => by
    rcases wipeG_get h with h | ⟨h1, h2⟩
    · exact absurd h n
    · exact ⟨h2, by rw [wipe_get, if_neg (fun z => h1 z.1)]⟩
  refine ⟨r.ext, r.pz, r.fl, by rw [wipe_length, wipeG_length]; exact r.len, fun i x h => ?_, fun i xs h => ?_, fun i j xs ys b h1 h2 h3 h4 => ?_⟩
  · obtain ⟨e1, e2⟩ := get h (fun z => nomatch z)
    rw [e2]
    exact r.va i x e1
  · obtain ⟨e1, e2⟩ := get h (fun z => nomatch z)
    rw [e2]
    exact r.ow i xs e1
  · obtain ⟨e1, e2⟩ := get h1 (fun z => nomatch z)
    obtain ⟨e3, e4⟩ := get h2 (fun z => nomatch z)
    rw [e2] at h3
    rw [e4] at h4
    exact r.dis i j xs ys b e1 e3 h3 h4
/-! ## targets -/
abbrev DTG := Av → Gm → (Gm → Prop) → Prop
def MonoG (g : DTG) : Prop := ∀ x Γ (k k' : Gm → Prop), (∀ Γ', k Γ' → k' Γ') → g x Γ k → g x Γ k'
/-- ss: the slots that are set -/
def liftG (K : PySem.W.Frag) (Z : Zn) (ss : List Nat) (g : DTG) : TG := fun v σ H Q => ∃ F Γ x, Rep K Z F H σ Γ ∧ Ra K Z.p F x v ∧ g x Γ (fun Γ' => ∀ σ', Rep K Z F H σ' Γ' → (∀ vs, (∀ s ∈ ss, s ∈ vs) → wipe σ' vs = wipe σ vs) → Q σ' H)
structure DG (X : Cx) (Z : Zn) (tg : Expr) (ss : List Nat) (g : DTG) : Prop where
  mono : MonoG g
  run : PG X tg (liftG X.K Z ss g)
section
variable {X : Cx} {Z : Zn} {W : WX}
theorem pg_weak {tg : Expr} {t t' : TG} (h : PG X tg t) (w : ∀ v σ H Q, t' v σ H Q → t v σ H Q) : PG X tg t' := ⟨fun pins s σ H v u Q I r q => h.run pins s σ H v u Q I r (w v σ H Q q)⟩
def gN (i : Nat) : DTG := fun x Γ k => k (Γ.set i (.va x))
theorem dg_name_of {tg : Expr} {i : Nat} (h : PG X tg (gName i)) : DG X Z tg [i] (gN i) := ⟨fun x Γ k k' hk q => hk _ q, pg_weak h fun v σ H Q q => by
  obtain ⟨F, Γ, x, r, ra, q⟩ := q
  exact q _ (r.set ra) fun vs hv => wipe_set (hv i List.mem_cons_self)⟩
theorem dg_name {i : Nat} {x : Str} {pos : Pos} (hN : X.N.Nodup) (hi : X.N[i]? = some x) (hx : Loc X.env.scope x) (hf : X.fn x = true ∨ X.env.scope.names.lookup x = some .local := by first | exact .inl rfl | exact .inr rfl | assumption) : DG X Z (.Name x pos) [i] (gN i) := dg_name_of (pg_name hN hi hx hf)
/-- several names for the items of a tuple -/
def gNs : List Nat → List PyData → Gm → (Gm → Prop) → Prop
  | [], [], Γ, k => k Γ
  | i :: is, d :: ds, Γ, k => gNs is ds (Γ.set i (.va (.d d))) k
  | _, _, _, _ => False
theorem gNs_mono {k k' : Gm → Prop} (hk : ∀ Γ', k Γ' → k' Γ') : ∀ {is : List Nat} {ds : List PyData} {Γ : Gm}, gNs is ds Γ k → gNs is ds Γ k'
  | [], [], _, q => hk _ q
  | _ :: is, _ :: ds, _, q => gNs_mono hk (is := is) (ds := ds) q
def gT (is : List Nat) : DTG := fun x Γ k => match x with
  | .d (.tuple ds) => gNs is ds Γ k
  | _ => False
/-- the targets of names -/
inductive PNs (X : Cx) : List Expr → List Nat → TGs → Prop
  | nil : PNs X [] [] gNil
  | cons {e : Expr} {es : List Expr} {i : Nat} {is : List Nat} {u : TGs} (h : PG X e (gName i)) (g : PNs X es is u) (hs : (assignEach (e :: es) X.env).map (·.2) = assign e X.env :: (assignEach es X.env).map (·.2) := by rfl) : PNs X (e :: es) (i :: is) (gCons (gName i) u)
theorem PNs.pgs {es : List Expr} {is : List Nat} {u : TGs} (h : PNs X es is u) : PGs X es u := by
  induction h with
  | nil => exact pgs_nil
  | cons h g hs ih => exact pgs_cons h ih hs
theorem pns_go {K : PySem.W.Frag} {F H : Hp} {Q : L2.St → Hp → Prop} {k : Gm → Prop} : ∀ {es : List Expr} {is : List Nat} {u : TGs}, PNs X es is u → ∀ {vs : List V} {ds : List PyData} {σ : L2.St} {Γ : Gm} {P : L2.St → Prop}, Rep K Z F H σ Γ → DqAll K F vs ds → P σ → (∀ σ i v, i ∈ is → P σ → P (σ.set i v)) → gNs is ds Γ k →
    (∀ Γ', k Γ' → ∀ σ', Rep K Z F H σ' Γ' → P σ' → Q σ' H) → u vs σ H Q := by
  intro es is u h
  induction h with
  | nil =>
    intro vs ds σ Γ P r g p hp q hq
    cases g with
    | nil => exact ⟨rfl, hq _ q _ r p⟩
    | cons _ _ => exact q.elim
  | cons h g' hs ih =>
    intro vs ds σ Γ P r g p hp q hq
    cases g with
    | nil => exact q.elim
    | cons h1 h2 => exact ⟨_, _, rfl, ih (r.set (x := .d _) h1) h2 (hp _ _ _ List.mem_cons_self p) (fun σ i v hi => hp σ i v (List.mem_cons_of_mem _ hi)) q hq⟩
theorem dg_tup {es : List Expr} {is : List Nat} {u : TGs} {j n : Nat} {pos : Pos} (hc : X.calm = true) (h : PNs X es is u) (hn : (assignEach es X.env).length = n := by rfl) (hst : (assignEach es X.env).findIdx? (·.1) = none := by rfl) (hl : is.length = n := by rfl) : DG X Z (.Tuple es j pos) is (gT is) :=
  ⟨fun x Γ k k' hk q => by
    unfold gT at q ⊢
    split at q
    · exact gNs_mono hk q
    · exact q.elim, pg_weak (pg_tup hc h.pgs hn hst) fun v σ H Q q => by
    obtain ⟨F, Γ, x, r, ra, q⟩ := q
    unfold gT at q
    split at q
    · rename_i ds
      have ra : Dq X.K F v (.tuple ds) := ra
      cases ra with
      | tup h1 h2 =>
        refine ⟨_, _, rfl, same_t r.ext.fh h1, ?_, ?_⟩
        · have : ∀ {is : List Nat} {ds : List PyData} {Γ : Gm} {k : Gm → Prop}, gNs is ds Γ k → ds.length = is.length := by
            intro is
            induction is with
            | nil =>
              intro ds Γ k q
              cases ds with
              | nil => rfl
              | cons _ _ => exact q.elim
            | cons i is ih =>
              intro ds Γ k q
              cases ds with
              | nil => exact q.elim
              | cons d ds => exact congrArg Nat.succ (ih q)
          rw [dq_len h2, this q, hl]
        · exact pns_go (P := fun σ' => ∀ vs, (∀ s ∈ is, s ∈ vs) → wipe σ' vs = wipe σ vs) h r h2 (fun _ _ => rfl) (fun σ1 i v hi hp vs hv => by rw [wipe_set (hv i hi)]; exact hp vs hv) q fun Γ' hk σ' r' hp => hk σ' r' hp
    · exact q.elim⟩
/-- target = value -/
def sAsg (d : DTE) (g : DTG) : DTS := fun E Γ => d Γ (fun x => g x Γ E.nx) (E.er Γ)
theorem ds_asg {tg e : Expr} {d : DTE} {ss : List Nat} {g : DTG} {pos : Pos} (h : DE X Z W e d) (hg : DG X Z tg ss g) (hs : swapsWithSole [tg] e pos.line X.env = pure false := by rfl) (hw : swappedStores [tg] e X.env = pure none := by rfl)
    (h1 : (assignEach [tg] X.env).map (·.2) = [assign tg X.env] := by rfl) : DS X Z W (.Assign [tg] e pos) (sAsg d g) :=
  ⟨fun E E' Γ l q => h.mono _ _ _ _ _ (fun x z => hg.mono _ _ _ _ l.nx z) (l.er _) q, ps_weak (ps_asg h.run hg.run hs hw h1) fun D σ H q => by
    obtain ⟨F, Γ, r, q⟩ := q
    exact liftE.bind h.mono r (h.mono _ _ _ _ _ (fun _ z => z) (fun C fs z => er_of (F' := F) (H' := H) r z) q) fun x v F' H' hx e r3 ra => ⟨F', Γ, x, r3, ra, hg.mono _ _ _ _ (fun Γ' z σ' r' _ => z σ' F' H' r') hx⟩⟩
end
/-! ## what is walked -/
structure WalkA (K : PySem.W.Frag) (p : Option Addr) (F1 : Hp) (J : It) (xs : List Av) : Prop where
  goes : ∀ (i : Nat) (F H : Hp), i < xs.length → At p F H → Same F1 F → J.go i H
  stops : ∀ (F H : Hp), At p F H → Same F1 F → J.stop xs.length H
  yields : ∀ (i : Nat) (x : Av) (F H : Hp) (v : V) (H' : Hp), xs[i]? = some x → At p F H → Same F1 F → J.yld i H v H' → ∃ F', Ext p F H F' H' ∧ Ra K p F' x v
abbrev DTI := Gm → (List Av → Prop) → ER → Prop
def liftI (K : PySem.W.Frag) (Z : Zn) (W : WX) (d : DTI) : TI := fun σ H R => ∃ F Γ, Rep K Z F H σ Γ ∧ d Γ (fun xs => ∀ F' H' J, Ext Z.p F H F' H' → WalkA K Z.p F' J xs → R J H') (erL K Z W F H σ)
structure DI (X : Cx) (Z : Zn) (W : WX) (tg e : Expr) (d : DTI) : Prop where
  mono : MonoE d
  run : PI X tg e (liftI X.K Z W d)
section
variable {X : Cx} {Z : Zn} {W : WX} {tg : Expr}
theorem pi_weak {e : Expr} {t t' : TI} (h : PI X tg e t) (w : ∀ σ H R, t' σ H R → t σ H R) : PI X tg e t' := ⟨fun pins s σ H R I q => h.run pins s σ H R I (w σ H R q)⟩
theorem walkA_at {K : PySem.W.Frag} {p : Option Addr} {F1 : Hp} {J : It} {ds : List PyData} {vs : List V} {G : Hp → Prop} (g : DqAll K F1 vs ds) (w : Walk J vs.length G (YAt vs)) (hG : ∀ F H, At p F H → Same F1 F → G H) : WalkA K p F1 J (ds.map Av.d) := by
  have hl := dq_len g
  refine ⟨fun i F H hi a s => w.goes i H (by rw [List.length_map] at hi; omega) (hG F H a s), fun F H a s => by rw [List.length_map, ← hl]; exact w.stops H (hG F H a s), fun i x F H v H' hx a s y => ?_⟩
  rw [List.getElem?_map] at hx
  obtain ⟨d, hd, rfl⟩ := Option.map_eq_some_iff.mp hx
  have hi : i < vs.length := by
    have := (List.getElem?_eq_some_iff.mp hd).1
    omega
  obtain ⟨e1, e2⟩ := w.yields i H v H' hi (hG F H a s) y
  subst e1
  obtain ⟨d', e3, e4⟩ := dq_get g e2
  rw [hd] at e3
  cases e3
  exact ⟨F, a, Dq.same s e4⟩
/-- a list -/
def iL (d : DTE) : DTI := fun Γ k e => d Γ (fun x => match x with
  | .d (.list ds) => k (ds.map Av.d)
  | _ => False) e
def iT (d : DTE) : DTI := fun Γ k e => d Γ (fun x => match x with
  | .d (.tuple ds) => k (ds.map Av.d)
  | _ => False) e
def iS (d : DTE) : DTI := fun Γ k e => d Γ (fun x => match x with
  | .d (.str z) => k (z.cps.toList.map fun c => Av.d (.str ⟨#[c]⟩))
  | _ => False) e
theorem di_list {e : Expr} {d : DTE} (h : DE X Z W e d) : DI X Z W tg e (iL d) := ⟨fun Γ k k' e e' hk he q => h.mono _ _ _ _ _ (fun x z => by
  split at z
  · exact hk _ z
  · exact z.elim) he q, pi_weak (pi_list h.run) fun σ H R q => by
  obtain ⟨F, Γ, r, q⟩ := q
  refine liftE.bind h.mono r q fun x v F1 H1 hx e1 r1 ra => ?_
  split at hx
  · rename_i ds
    have ra : Dq X.K F1 v (.list ds) := ra
    cases ra with
    | lst g1 g2 => exact ⟨_, rfl, ⟨_, e1.fh.seq g1⟩, hx F1 H1 _ e1 (walkA_at g2 walk_list fun F H a s => (Same.tr s a.fh).seq g1)⟩
  · exact hx.elim⟩
theorem di_tup {e : Expr} {d : DTE} (h : DE X Z W e d) : DI X Z W tg e (iT d) := ⟨fun Γ k k' e e' hk he q => h.mono _ _ _ _ _ (fun x z => by
  split at z
  · exact hk _ z
  · exact z.elim) he q, pi_weak (pi_tup h.run) fun σ H R q => by
  obtain ⟨F, Γ, r, q⟩ := q
  refine liftE.bind h.mono r q fun x v F1 H1 hx e1 r1 ra => ?_
  split at hx
  · rename_i ds
    have ra : Dq X.K F1 v (.tuple ds) := ra
    cases ra with
    | tup g1 g2 => exact ⟨_, rfl, ⟨_, same_t e1.fh g1⟩, hx F1 H1 _ e1 (walkA_at g2 walk_tup fun F H a s => same_t (Same.tr s a.fh) g1)⟩
  · exact hx.elim⟩
theorem di_str {e : Expr} {d : DTE} (h : DE X Z W e d) : DI X Z W tg e (iS d) := ⟨fun Γ k k' e e' hk he q => h.mono _ _ _ _ _ (fun x z => by
  split at z
  · exact hk _ z
  · exact z.elim) he q, pi_weak (pi_str h.run) fun σ H R q => by
  obtain ⟨F, Γ, r, q⟩ := q
  refine liftE.bind h.mono r q fun x v F1 H1 hx e1 r1 ra => ?_
  split at hx
  · rename_i z
    cases (show Dq X.K F1 v (.str z) from ra)
    refine ⟨z, rfl, hx F1 H1 _ e1 ⟨fun i F H hi a s => ?_, fun F H a s => ?_, fun i x F H v H' hx a s y => ?_⟩⟩
    · show i < z.cps.size
      simpa using hi
    · show z.cps.size ≤ _
      simp
    · obtain ⟨rfl, c, hc, rfl⟩ := y
      rw [List.getElem?_map, Array.getElem?_toList, hc] at hx
      cases hx
      exact ⟨F, a, Dq.str _⟩
  · exact hx.elim⟩
def intsA (lo : Int) (n : Nat) : List Av := (List.range n).map fun i => Av.d (.int (lo + (i : Nat)))
/-- range(j); range(i, j) -/
def iR1 (d : DTA) : DTI := fun Γ k e => d Γ (fun xs => match xs with
  | [.d (.int j)] => (-(2 ^ 62) ≤ j ∧ j < 2 ^ 62) ∧ k (intsA 0 j.toNat)
  | _ => False) e
theorem walkA_rg {K : PySem.W.Frag} {p : Option Addr} {F1 : Hp} {lo : Int} {n : Nat} : WalkA K p F1 (Itr lo n) (intsA lo n) := by
  have hl : (intsA lo n).length = n := by simp [intsA]
  refine ⟨fun i F H hi a s => ?_, fun F H a s => ?_, fun i x F H v H' hx a s y => ?_⟩
  · rw [hl] at hi
    exact hi
  · rw [hl]
    exact Nat.le_refl _
  · obtain ⟨rfl, rfl⟩ := y
    unfold intsA at hx
    rw [List.getElem?_map] at hx
    obtain ⟨j, h1, rfl⟩ := Option.map_eq_some_iff.mp hx
    obtain ⟨h2, h3⟩ := List.getElem?_eq_some_iff.mp h1
    have e : j = i := by
      rw [← h3]
      simp
    subst e
    exact ⟨F, a, Dq.int _⟩
theorem di_range1 {a : Expr} {d : DTA} {p pos : Pos} (hg : Gl X "range") (hm : X.mg "range" = none) (h : DA X Z W [a] d) (hs : starEach [a] X.env = [(false, eval a X.env)] := by rfl) : DI X Z W tg (.Call (.Name "range" p) [a] [] pos) (iR1 d) :=
  ⟨fun Γ k k' e e' hk he q => h.mono _ _ _ _ _ (fun x z => by
    split at z
    · exact ⟨z.1, hk _ z.2⟩
    · exact z.elim) he q, pi_weak (pi_range1 hg hm h.run hs) fun σ H R q => by
    obtain ⟨F, Γ, r, q⟩ := q
    refine liftA.bind h.mono r q fun xs vs F1 H1 hx e1 r1 ra => ?_
    split at hx
    · rename_i j
      cases ra with
      | cons h1 h2 =>
        cases h2
        cases (show Dq X.K F1 _ (.int j) from h1)
        exact ⟨j, rfl, hx.1.1, hx.1.2, hx.2 F1 H1 _ e1 walkA_rg⟩
    · exact hx.elim⟩
/-- pairs that are made new -/
theorem walkA_pair {K : PySem.W.Frag} {p : Option Addr} {F1 : Hp} {J : It} {n : Nat} {G : Hp → Prop} {f g : Nat → Option V} {ps : List (PyData × PyData)} (w : Walk J n G (YPair f g)) (hn : ps.length = n) (hG : ∀ F H, At p F H → Same F1 F → G H)
    (hp : ∀ i a b x y, ps[i]? = some (a, b) → f i = some x → g i = some y → Dq K F1 x a ∧ Dq K F1 y b) : WalkA K p F1 J (ps.map fun q => Av.d (.tuple [q.1, q.2])) := by
  refine ⟨fun i F H hi a s => w.goes i H (by rw [List.length_map] at hi; omega) (hG F H a s), fun F H a s => by rw [List.length_map, hn]; exact w.stops H (hG F H a s), fun i x F H v H' hx a s y => ?_⟩
  rw [List.getElem?_map] at hx
  obtain ⟨⟨d1, d2⟩, hd, rfl⟩ := Option.map_eq_some_iff.mp hx
  have hi : i < n := by
    have := (List.getElem?_eq_some_iff.mp hd).1
    omega
  obtain ⟨T, x1, x2, rfl, nT, rfl, e1, e2⟩ := w.yields i H v H' hi (hG F H a s) y
  obtain ⟨q1, q2⟩ := hp i d1 d2 x1 x2 hd e1 e2
  have g : DqAll K F [x1, x2] [d1, d2] := .cons (Dq.same s q1) (.cons (Dq.same s q2) .nil)
  exact ⟨_, (fresh_tup a nT g).1, (fresh_tup (K := K) a nT g).2⟩
/-- enumerate of a list or a tuple -/
def enumD (ds : List PyData) : List (PyData × PyData) := (List.range ds.length).zip ds |>.map fun q => (.int (q.1 : Nat), q.2)
def iE (d : DTA) : DTI := fun Γ k e => d Γ (fun xs => match xs with
  | [.d (.list ds)] => k ((enumD ds).map fun q => Av.d (.tuple [q.1, q.2]))
  | [.d (.tuple ds)] => k ((enumD ds).map fun q => Av.d (.tuple [q.1, q.2]))
  | _ => False) e
theorem enumD_get {ds : List PyData} {i : Nat} {a b : PyData} (h : (enumD ds)[i]? = some (a, b)) : a = .int (i : Nat) ∧ ds[i]? = some b := by
  unfold enumD at h
  rw [List.getElem?_map] at h
  obtain ⟨⟨j, x⟩, h1, h2⟩ := Option.map_eq_some_iff.mp h
  cases h2
  rw [List.getElem?_zip_eq_some] at h1
  obtain ⟨h3, h4⟩ := h1
  obtain ⟨h5, h6⟩ := List.getElem?_eq_some_iff.mp h3
  have h6 : (List.range ds.length)[i] = j := h6
  have e : j = i := by
    rw [← h6]
    simp
  exact ⟨by rw [e], h4⟩
theorem enumD_len (ds : List PyData) : (enumD ds).length = ds.length := by simp [enumD]
theorem di_enum {e : Expr} {d : DTA} {p pos tpos : Pos} {elts : List Expr} {kk : Nat} (hg : Gl X "enumerate") (hm : X.mg "enumerate" = none) (h : DA X Z W [e] d) (hs : starEach [e] X.env = [(false, eval e X.env)] := by rfl) : DI X Z W (.Tuple elts kk tpos) (.Call (.Name "enumerate" p) [e] [] pos) (iE d) :=
  ⟨fun Γ k k' e e' hk he q => h.mono _ _ _ _ _ (fun x z => by
    split at z
    · exact hk _ z
    · exact hk _ z
    · exact z.elim) he q, pi_weak (pi_enumB hg hm h.run hs) fun σ H R q => by
    obtain ⟨F, Γ, r, q⟩ := q
    refine liftA.bind h.mono r q fun xs vs F1 H1 hx e1 r1 ra => ?_
    split at hx
    · rename_i ds
      cases ra with
      | cons h1 h2 =>
        cases h2
        have h1 : Dq X.K F1 _ (.list ds) := h1
        cases h1 with
        | lst g1 g2 =>
          refine ⟨false, _, _, rfl, e1.fh.seq g1, hx F1 H1 _ e1 (walkA_pair walk_enumB (by rw [enumD_len, dq_len g2]) (fun F H a s => show SqL _ _ _ _ from (Same.tr s a.fh).seq g1) fun i a b x y hp hx hy => ?_)⟩
          obtain ⟨rfl, hb⟩ := enumD_get hp
          cases hx
          obtain ⟨d', q1, q2⟩ := dq_get g2 hy
          rw [hb] at q1
          cases q1
          exact ⟨Dq.int _, q2⟩
    · rename_i ds
      cases ra with
      | cons h1 h2 =>
        cases h2
        have h1 : Dq X.K F1 _ (.tuple ds) := h1
        cases h1 with
        | tup g1 g2 =>
          refine ⟨true, _, _, rfl, same_t e1.fh g1, hx F1 H1 _ e1 (walkA_pair walk_enumB (by rw [enumD_len, dq_len g2]) (fun F H a s => show SqT _ _ _ _ from same_t (Same.tr s a.fh) g1) fun i a b x y hp hx hy => ?_)⟩
          obtain ⟨rfl, hb⟩ := enumD_get hp
          cases hx
          obtain ⟨d', q1, q2⟩ := dq_get g2 hy
          rw [hb] at q1
          cases q1
          exact ⟨Dq.int _, q2⟩
    · exact hx.elim⟩
end
/-! ## for -/
def dforL (g : DTG) (b : DTS) (E : DEnds) : List Av → Gm → Prop
  | [], Γ => E.nx Γ
  | x :: xs, Γ => g x Γ (fun Γ' => b { E with nx := fun Γ'' => dforL g b E xs Γ'', ct := fun Γ'' => dforL g b E xs Γ'', bk := E.nx } Γ')
theorem dforL_mono {g : DTG} {b : DTS} (mg : MonoG g) (mb : MonoS b) {E E' : DEnds} (l : E.Le E') : ∀ {xs : List Av} {Γ : Gm}, dforL g b E xs Γ → dforL g b E' xs Γ
  | [], _, q => l.nx _ q
  | x :: xs, Γ, q => mg x Γ _ _ (fun Γ' z => mb { E with nx := fun Γ'' => dforL g b E xs Γ'', ct := fun Γ'' => dforL g b E xs Γ'', bk := E.nx } _ _ ⟨fun _ w => dforL_mono mg mb l w, l.rt, l.nx, fun _ w => dforL_mono mg mb l w, l.er⟩ z) q
def sFor (it : DTI) (g : DTG) (b : DTS) : DTS := fun E Γ => it Γ (fun xs => dforL g b E xs Γ) (E.er Γ)
section
variable {X : Cx} {Z : Zn} {W : WX} {tg : Expr}
theorem pss_any {body : List Stmt} {b : DTS} (h : ∀ G, DSs X (Z.at_ G) W body b) : PSs X body (fun D σ H => ∃ G, liftS X.K (Z.at_ G) W b D σ H) := ⟨fun pins s σ H D I q => by
  obtain ⟨G, q⟩ := q
  exact (h G).run.run pins s σ H D I q⟩
theorem pg_any {ss : List Nat} {g : DTG} (h : ∀ G, DG X (Z.at_ G) tg ss g) : PG X tg (fun v σ H Q => ∃ G, liftG X.K (Z.at_ G) ss g v σ H Q) := ⟨fun pins s σ H v u Q I r q => by
  obtain ⟨G, q⟩ := q
  exact (h G).run.run pins s σ H v u Q I r q⟩
theorem ds_for {iter : Expr} {body : List Stmt} {it : DTI} {ss : List Nat} {g : DTG} {b : DTS} {pos : Pos} (hp : PassesOwn (model X.prog X.w) X.A X.env X.xe) (hc : X.calm = true) (hi : DI X Z W tg iter it) (hg : ∀ G, DG X (Z.at_ G) tg ss g) (hb : ∀ G, DSs X (Z.at_ G) W body b)
    (hs : ∀ x, foldedSetIterable iter X.env x = pure x := by intro _; rfl) : DS X Z W (.For tg iter body [] pos) (sFor it g b) :=
  ⟨fun E E' Γ l q => hi.mono _ _ _ _ _ (fun xs z => dforL_mono (hg Z.G).mono (hb Z.G).mono l z) (l.er _) q, ps_weak (ps_for hp hc hi.run (pg_any hg) (pss_any hb) hs) fun D σ H q => by
    obtain ⟨F, Γ, r, q⟩ := q
    refine ⟨F, Γ, r, hi.mono _ _ _ _ _ (fun xs hx F1 H1 J e1 w => ?_) (fun C fs z => er_of (F' := F) (H' := H) r z) q⟩
    have s1 : Same Z.G F1 := Same.tr r.fl e1.ff
    refine ⟨fun i m σ' H' => m = xs.length - i ∧ i ≤ xs.length ∧ ∃ F' Γ', Rep X.K (Z.at_ F1) F' H' σ' Γ' ∧ dforL g b (endL X.K Z W D) (xs.drop i) Γ', ⟨xs.length, by simp, Nat.zero_le _, F1, Γ, (r.step e1).raise F1 (fun _ _ z => z), hx⟩, ?_⟩
    rintro i m σ' H' ⟨rfl, hi', F', Γ', r', q'⟩
    by_cases hlt : i < xs.length
    · refine .inr ⟨w.goes i F' H' hlt r'.now r'.fl, fun σ2 H2 => i + 1 ≤ xs.length ∧ ∃ F2 Γ2, Rep X.K (Z.at_ F1) F2 H2 σ2 Γ2 ∧ dforL g b (endL X.K Z W D) (xs.drop (i + 1)) Γ2, fun σ2 H2 z => ⟨xs.length - (i + 1), by omega, rfl, z⟩, fun v H2 y => ?_⟩
      have hx' : xs[i]? = some xs[i] := List.getElem?_eq_getElem hlt
      obtain ⟨F2, e2, ra⟩ := w.yields i _ F' H' v H2 hx' r'.now r'.fl y
      rw [List.drop_eq_getElem_cons hlt] at q'
      refine ⟨F1, F2, Γ', xs[i], r'.step e2, ra, (hg F1).mono _ _ _ _ (fun Γ3 hb3 σ3 r3 _ => ⟨F1, F2, Γ3, r3, ?_⟩) q'⟩
      refine (hb F1).mono { endL X.K Z W D with nx := fun Γ'' => dforL g b (endL X.K Z W D) (xs.drop (i + 1)) Γ'', ct := fun Γ'' => dforL g b (endL X.K Z W D) (xs.drop (i + 1)) Γ'', bk := (endL X.K Z W D).nx } _ _ ⟨fun Γ4 q4 σ4 F4 H4 r4 => ⟨hlt, F4, Γ4, r4, q4⟩, fun x z => z, fun Γ4 q4 σ4 F4 H4 r4 => q4 σ4 F4 H4 (r4.lower s1), fun Γ4 q4 σ4 F4 H4 r4 => ⟨hlt, F4, Γ4, r4, q4⟩, fun Γ4 C fs q4 dx σ4 F4 H4 r4 x => q4 dx σ4 F4 H4 (r4.lower s1) x⟩ hb3
    · have e : i = xs.length := by omega
      subst e
      rw [List.drop_of_length_le (Nat.le_refl _)] at q'
      exact .inl ⟨w.stops F' H' r'.now r'.fl, q' σ' F' H' (r'.lower s1)⟩⟩
/-! ## while -/
def sWhile (t : DTT) (b : DTS) : DTS := fun E Γ => ∃ W : Nat → Gm → Prop, (∃ m, W m Γ) ∧ ∀ m Γ, W m Γ → t (frz Γ) (fun c => if c = true then b { E with nx := fun Γ' => ∃ m', m' < m ∧ W m' Γ', ct := fun Γ' => ∃ m', m' < m ∧ W m' Γ', bk := E.nx } Γ else E.nx Γ) (E.er (frz Γ))
theorem ds_while {c : Expr} {body : List Stmt} {t : DTT} {b : DTS} {pos : Pos} (hp : PassesOwn (model X.prog X.w) X.A X.env X.xe) (hc : DT X Z W c t) (hb : DSs X Z W body b) : DS X Z W (.While c body [] pos) (sWhile t b) :=
  ⟨fun E E' Γ l q => by
    obtain ⟨V, h0, h1⟩ := q
    refine ⟨V, h0, fun m Γ hv => hc.mono _ _ _ _ _ (fun c z => ?_) (l.er _) (h1 m Γ hv)⟩
    cases c with
    | true => exact hb.mono { E with nx := fun Γ' => ∃ m', m' < m ∧ V m' Γ', ct := fun Γ' => ∃ m', m' < m ∧ V m' Γ', bk := E.nx } _ _ ⟨fun _ w => w, l.rt, l.nx, fun _ w => w, l.er⟩ z
    | false => exact l.nx _ z, ps_weak (ps_while hp hc.run hb.run) fun D σ H q => by
    obtain ⟨F, Γ, r, V, ⟨m0, h0⟩, h1⟩ := q
    refine ⟨fun m σ' H' => ∃ F' Γ', Rep X.K Z F' H' σ' Γ' ∧ V m Γ', ⟨m0, F, Γ, r, h0⟩, ?_⟩
    rintro m σ' H' ⟨F', Γ', r', hv⟩
    have r2 := r'.freeze
    refine liftT.bind hc.mono r2 (hc.mono _ _ _ _ _ (fun _ z => z) (fun C fs z => er_of (F' := F') (H' := H') r2 z) (h1 m Γ' hv)) fun c F2 H2 hx e r3 => ?_
    have r4 := r'.step (r'.thaw e)
    cases c with
    | true =>
      refine ⟨fun σ3 H3 => ∃ m', m' < m ∧ ∃ F3 Γ3, Rep X.K Z F3 H3 σ3 Γ3 ∧ V m' Γ3, fun σ3 H3 z => z, _, Γ', r4, ?_⟩
      exact hb.mono { endL X.K Z W D with nx := fun Γ' => ∃ m', m' < m ∧ V m' Γ', ct := fun Γ' => ∃ m', m' < m ∧ V m' Γ', bk := (endL X.K Z W D).nx } _ _ ⟨fun Γ3 z σ3 F3 H3 r3 => by
        obtain ⟨m', l, hv⟩ := z
        exact ⟨m', l, F3, Γ3, r3, hv⟩, fun _ z => z, fun _ z => z, fun Γ3 z σ3 F3 H3 r3 => by
        obtain ⟨m', l, hv⟩ := z
        exact ⟨m', l, F3, Γ3, r3, hv⟩, fun _ _ _ z => z⟩ hx
    | false => exact hx σ' _ H2 r4⟩
/-! ## comprehensions -/
def E0d : ER := fun _ _ => False
abbrev W0 : WX := fun _ _ _ _ => False
/-- tests of a clause -/
structure DTs (X : Cx) (Z : Zn) (W : WX) (ifs : List Expr) (t : DTT) : Prop where
  mono : MonoE t
  run : PTs X ifs (liftT X.K Z W t)
def dYes : DTT := fun _ k _ => k true
theorem pts_weak {ifs : List Expr} {t t' : TT} (h : PTs X ifs t) (w : ∀ σ H Q, t' σ H Q → t σ H Q) : PTs X ifs t' := ⟨fun pins s σ H Q I q => h.run pins s σ H Q I (w σ H Q q)⟩
theorem dts_nil : DTs X Z W [] dYes := ⟨fun _ _ _ _ _ h _ q => h _ q, pts_weak pts_nil fun σ H Q q => by
  obtain ⟨F, Γ, r, q⟩ := q
  exact q F H r.now⟩
theorem dts_one {c : Expr} {t : DTT} (h : DT X Z W c t) : DTs X Z W [c] t := ⟨h.mono, pts_one h.run⟩
def dcomp (g : DTG) (t : DTT) (d : DTE) (Γ : Gm) : List Av → (List PyData → Prop) → Prop
  | [], k => k []
  | x :: xs, k => g x Γ (fun Γ' => t Γ' (fun b => if b = true then d Γ' (fun y => match y with
    | .d z => dcomp g t d Γ xs (fun zs => k (z :: zs))
    | _ => False) E0d else dcomp g t d Γ xs k) E0d)
theorem dcomp_mono {g : DTG} {t : DTT} {d : DTE} (mg : MonoG g) (mt : MonoE t) (md : MonoE d) {Γ : Gm} : ∀ {xs : List Av} {k k' : List PyData → Prop}, (∀ zs, k zs → k' zs) → dcomp g t d Γ xs k → dcomp g t d Γ xs k'
  | [], _, _, h, q => h _ q
  | x :: xs, k, k', h, q => mg _ _ _ _ (fun Γ' q => mt _ _ _ _ _ (fun b q => by
    cases b with
    | true => exact md _ _ _ _ _ (fun y q => by
        cases y with
        | d z => exact dcomp_mono mg mt md (fun zs hz => h _ hz) q
        | _ => exact q) (fun _ _ z => z) q
    | false => exact dcomp_mono mg mt md h q) (fun _ _ z => z) q) q
def fLc (it : DTI) (g : DTG) (t : DTT) (d : DTE) (vs : List Nat) : DTF := fun Γ k e => it Γ (fun xs => xs.length < sizeLine ∧ dcomp g t d (wipeG Γ vs) xs k) e
end
end Dl

set_option Elab.async false
set_option linter.all false
set_option maxRecDepth 100000
set_option maxHeartbeats 4000000
namespace Dl
open PySem PySem.Spec PyProof.Rows L2 Lw
theorem wipe_wipe {σ : L2.St} {vs : List Nat} : wipe (wipe σ vs) vs = wipe σ vs := by
  apply List.ext_getElem?
  intro j
  rw [wipe_get, wipe_length]
  by_cases c : j ∈ vs ∧ j < σ.length
  · rw [if_pos c, wipe_get, if_pos c]
  · rw [if_neg c]
theorem upd_off {H : Hp} {D : Addr} {o : HO} (h : H D = some o) : upd (off H D) D o = H := by
  funext b
  by_cases hb : b = D
  · rw [hb, upd_same, h]
  · rw [upd_ne hb, off_ne hb]
theorem off_upd {H : Hp} {D : Addr} {o : HO} (h : H D = none) : off (upd H D o) D = H := by
  funext b
  by_cases hb : b = D
  · rw [hb, off_self, h]
  · rw [off_ne hb, upd_ne hb]
theorem off_upd2 {H : Hp} {D : Addr} {o : HO} : off (upd H D o) D = off H D := by
  funext b
  by_cases hb : b = D
  · rw [hb, off_self, off_self]
  · rw [off_ne hb, off_ne hb, upd_ne hb]
section
variable {p : Option Addr} {F H F' H' : Hp} {D : Addr}
/-- with the list that is being made, and without -/
theorem At.on (x : At p F (off H D)) {o : HO} (h : H D = some o) : At p F H := by
  have := (Ext.newM (q := D) (o := o) x off_self).at1
  rw [upd_off h] at this
  exact this
theorem Ext.offD (x : At p F (Lw.off H D)) {o : HO} (h : H D = some o) (e : Ext p F H F' H') : Ext p F (Lw.off H D) F' (Lw.off H' D) ∧ H' D = some o := by
  have nF : F D = none := by
    cases z : F D with
    | none => rfl
    | some u =>
      have := x.fh _ _ z
      rw [off_self] at this
      cases this
  have nF' : F' D = none := e.off D (by rw [h]; exact fun z => nomatch z) nF
  have np : ∀ a, p = some a → a ≠ D := fun a q z => by
    have := (x.pot a q).1
    obtain ⟨y1, y2, e1, _⟩ := this
    rw [z, off_self] at e1
    cases e1
  refine ⟨⟨e.ff, fun b u q => ?_, fun b u q g => ?_, fun b g q => ?_, fun a q => ?_⟩, e.keep D o (fun z => np D z rfl) h⟩
  · have n : b ≠ D := fun z => by
      rw [z, nF'] at q
      cases q
    rw [off_ne n]
    exact e.fh _ _ q
  · obtain ⟨n, g⟩ := off_get g
    rw [off_ne n]
    exact e.keep b u q g
  · have n : b ≠ D := fun z => g (by rw [z]; exact off_self)
    rw [off_ne n] at g
    exact e.off b g q
  · obtain ⟨⟨y1, y2, e1, e2⟩, q2⟩ := e.pot a q
    exact ⟨⟨y1, y2, by rw [off_ne (np a q)]; exact e1, e2⟩, q2⟩
theorem Rep.on {K : PySem.W.Frag} {Z : Zn} {σ : L2.St} {Γ : Gm} (r : Rep K Z F (off H D) σ Γ) {o : HO} (h : H D = some o) : Rep K Z F H σ Γ := by
  have e := Ext.newM (q := D) (o := o) r.now off_self
  rw [upd_off h] at e
  exact r.step e
theorem Rep.offD {K : PySem.W.Frag} {Z : Zn} {σ : L2.St} {Γ : Gm} (r : Rep K Z F (off H D) σ Γ) {o : HO} (h : H D = some o) (e : Ext Z.p F H F' H') : Rep K Z F' (Lw.off H' D) σ Γ := r.step (Ext.offD r.now h e).1
end
section
variable {X : Cx} {Z : Zn} {W : WX} {tg : Expr}
theorem df_lc_core {it : DTI} {g : DTG} {t : DTT} {d : DTE} {ss vs : List Nat} {K : PySem.W.Frag} (mi : MonoE it) (mg : MonoG g) (mt : MonoE t) (md : MonoE d) (hss : ∀ s ∈ ss, s ∈ vs) {σ : L2.St} {H : Hp} {Q : VK} (q : liftF K Z W (fLc it g t d vs) σ H Q) :
    tLc (liftI K Z W it) (fun v σ H Q => ∃ G, liftG K (Z.at_ G) ss g v σ H Q) (fun σ H Q => ∃ G, liftT K (Z.at_ G) W0 t σ H Q) (fun σ H Q => ∃ G, liftE K (Z.at_ G) W0 d σ H Q) vs σ H Q := by
  obtain ⟨F, Γ, r, q⟩ := q
  refine ⟨F, Γ, r, mi _ _ _ _ _ (fun xs hx F1 H1 J e1 w => ?_) (fun _ _ z => z) q⟩
  obtain ⟨hlen, hx⟩ := hx
  intro D nD
  have rw1 : Rep K (Z.at_ F1) F1 H1 (wipe σ vs) (wipeG Γ vs) := ((r.step e1).raise F1 (fun _ _ z => z)).wipe vs
  refine ⟨fun i m Hc => m = xs.length - i ∧ i ≤ xs.length ∧ ∃ Fc zs us, Rep K (Z.at_ F1) Fc (Lw.off Hc D) (wipe σ vs) (wipeG Γ vs) ∧ Ext Z.p F H Fc (Lw.off Hc D) ∧ Hc D = some (.lst us) ∧ DqAll K Fc us zs ∧ zs.length ≤ i ∧
    dcomp g t d (wipeG Γ vs) (xs.drop i) (fun rest => ∀ q vs F' H', Ext Z.p F H F' H' → H' q = none → DqAll K F' vs (zs ++ rest) → Q (.ref q) (upd H' q (.lst vs))),
    ⟨xs.length, by simp, Nat.zero_le _, F1, [], [], by rw [off_upd nD]; exact rw1, by rw [off_upd nD]; exact e1, upd_same, .nil, Nat.le_refl _, hx⟩, ?_⟩
  rintro i m Hc ⟨rfl, hi, Fc, zs, us, rc, ec, hD, gz, lz, qc⟩
  have ro := rc.on hD
  by_cases hlt : i < xs.length
  · refine .inr ⟨w.goes i Fc Hc hlt ro.now ro.fl, fun H' => i + 1 ≤ xs.length ∧ ∃ Fc zs us, Rep K (Z.at_ F1) Fc (Lw.off H' D) (wipe σ vs) (wipeG Γ vs) ∧ Ext Z.p F H Fc (Lw.off H' D) ∧ H' D = some (.lst us) ∧ DqAll K Fc us zs ∧ zs.length ≤ i + 1 ∧
      dcomp g t d (wipeG Γ vs) (xs.drop (i + 1)) (fun rest => ∀ q vs F' H', Ext Z.p F H F' H' → H' q = none → DqAll K F' vs (zs ++ rest) → Q (.ref q) (upd H' q (.lst vs))), fun H' z => ⟨xs.length - (i + 1), by omega, rfl, z⟩, fun v H2 y => ?_⟩
    have hx' : xs[i]? = some xs[i] := List.getElem?_eq_getElem hlt
    obtain ⟨F2, e2, ra⟩ := w.yields i _ Fc Hc v H2 hx' ro.now ro.fl y
    rw [List.drop_eq_getElem_cons hlt] at qc
    refine ⟨F1, F2, wipeG Γ vs, xs[i], ro.step e2, ra, mg _ _ _ _ (fun Γ3 q3 σ3 r3 wp => ⟨(wp vs hss).trans wipe_wipe, F1, F2, Γ3, r3, mt _ _ _ _ _ (fun b qb F3 H3 e3 => ?_) (fun C fs z => z.elim) q3⟩) qc⟩
    have e23 : Ext Z.p Fc Hc F3 H3 := e2.trans e3
    cases b with
    | false =>
      obtain ⟨h1, h2⟩ := Ext.offD rc.now hD e23
      exact ⟨hlt, F3, zs, us, rc.step h1, ec.trans h1, h2, DqAll.same e23.ff gz, by omega, qb⟩
    | true =>
      refine ⟨F1, F3, Γ3, r3.step e3, md _ _ _ _ _ (fun yv qy v4 F4 H4 e4 ra4 => ?_) (fun C fs z => z.elim) qb⟩
      cases yv with
      | d z =>
        have e24 : Ext Z.p Fc Hc F4 H4 := e23.trans e4
        obtain ⟨h1, h2⟩ := Ext.offD rc.now hD e24
        refine ⟨us, h2, by rw [dq_len gz]; omega, hlt, F4, zs ++ [z], us ++ [v4], by rw [off_upd2]; exact rc.step h1, by rw [off_upd2]; exact ec.trans h1, upd_same, dqall_snoc (DqAll.same e24.ff gz) ra4, by rw [List.length_append]; show zs.length + 1 ≤ _; omega, ?_⟩
        refine dcomp_mono mg mt md (fun rest hr => ?_) qy
        rw [List.append_assoc]
        exact hr
      | _ => exact qy.elim
  · have e : i = xs.length := by omega
    subst e
    rw [List.drop_of_length_le (Nat.le_refl _)] at qc
    refine .inl ⟨w.stops Fc Hc ro.now ro.fl, ?_⟩
    have := qc D us Fc (Lw.off Hc D) ec off_self (by rw [List.append_nil]; exact gz)
    rw [upd_off hD] at this
    exact this
theorem df_lc {elt iter : Expr} {ifs : List Expr} {scope : Scope} {own : List (Str × Nat)} {pos : Pos} {it : DTI} {g : DTG} {t : DTT} {d : DTE} {ss : List Nat} (hc : X.calm = true) (hN : X.N.Nodup) (hi : DI X Z W tg iter it) (ok : BlkOk X.N X.env.scope scope own)
    (hg : ∀ (s : Shared) (H : Hp) (C : Addr) (cl : List (Str × Addr)) (fp : List Addr) (G : Hp), DG (X.blk s H scope (compEnvC scope cl C X.env) fp) (Z.at_ G) tg ss g)
    (ht : ∀ (s : Shared) (H : Hp) (C : Addr) (cl : List (Str × Addr)) (fp : List Addr) (G : Hp), DTs (X.blk s H scope (compEnvC scope cl C X.env) fp) (Z.at_ G) W0 ifs t)
    (he : ∀ (s : Shared) (H : Hp) (C : Addr) (cl : List (Str × Addr)) (fp : List Addr) (G : Hp), DE (X.blk s H scope (compEnvC scope cl C X.env) fp) (Z.at_ G) W0 elt d)
    (hss : ∀ s ∈ ss, s ∈ own.map (·.2) := by decide) (hs : ∀ x, foldedSetIterable iter X.env x = pure x := by intro _; rfl) : DF X Z W (.ListComp elt [⟨tg, iter, ifs, 0⟩] scope pos) (fLc it g t d (own.map (·.2))) := by
  have mg := (hg X.s_0 (fun _ => none) 0 [] [] (fun _ => none)).mono
  have mt := (ht X.s_0 (fun _ => none) 0 [] [] (fun _ => none)).mono
  have md := (he X.s_0 (fun _ => none) 0 [] [] (fun _ => none)).mono
  refine ⟨fun Γ k k' e e' hk hee q => hi.mono _ _ _ _ _ (fun xs z => ⟨z.1, dcomp_mono mg mt md hk z.2⟩) hee q, pe_weak (pe_lc (g := fun v σ H Q => ∃ G, liftG X.K (Z.at_ G) ss g v σ H Q) (tt := fun σ H Q => ∃ G, liftT X.K (Z.at_ G) W0 t σ H Q) (te := fun σ H Q => ∃ G, liftE X.K (Z.at_ G) W0 d σ H Q) hc hN hi.run ok (fun s H C cl fp => ⟨fun pins s' σ H' v u Q I r q => ?_⟩) (fun s H C cl fp => ⟨fun pins s' σ H' Q I q => ?_⟩) (fun s H C cl fp => ⟨fun pins s' σ H' Q I q => ?_⟩) hs) fun σ H Q q => df_lc_core hi.mono mg mt md hss q⟩
  · obtain ⟨G, q⟩ := q
    exact (hg s H C cl fp G).run.run pins s' σ H' v u Q I r q
  · obtain ⟨G, q⟩ := q
    exact (ht s H C cl fp G).run.run pins s' σ H' Q I q
  · obtain ⟨G, q⟩ := q
    exact (he s H C cl fp G).run.run pins s' σ H' Q I q
end
end Dl

set_option Elab.async false
set_option linter.all false
set_option maxRecDepth 100000
set_option maxHeartbeats 4000000
/-! Defs over data: their promises, their bodies, their calls. -/
namespace Dl
open PySem PySem.Spec PyProof.Rows L2 Lw
abbrev ASp := List Av → (Av → Prop) → ER → Prop
def MonoSp (a : ASp) : Prop := ∀ xs (k k' : Av → Prop) (e e' : ER), (∀ x, k x → k' x) → (∀ C fs, e C fs → e' C fs) → a xs k e → a xs k' e'
/-- what is promised of a def of n parameters -/
structure SpOk (n : Nat) (a : ASp) : Prop where
  mono : MonoSp a
  len : ∀ xs k e, a xs k e → xs.length = n
def spZ (K : PySem.W.Frag) (a : ASp) : Sp := fun vs H Q E => ∃ F p xs, At p F H ∧ RaL K p F xs vs ∧ a xs (fun x => ∀ v F' H', Ext p F H F' H' → Ra K p F' x v → Q v H') (fun C fs => ∀ dx F' H', Ext p F H F' H' → XdOk K F' dx fs → E (.ref C) (some dx) H')
/-- g: it is called where no repr is under way -/
structure FZ (P : Program) (w : World) (K : PySem.W.Frag) (mg : Str → Option Value) (base : Heap) (g : Bool) (k : Nat) (f : Addr) (fd : FuncData) (ps : List Str) (a : ASp) : Prop where
  sp : SpOk ps.length a
  run : ∀ (A : Around) (outer : List Env) (s : Shared) (H : Hp) (args : Args) (us : List Value) (vs : List V) (Q : VK) (E : XK), (g = true → A.guards = some []) → Room k A → Env0 P w K mg base A outer s H → BindsTo s fd args (ps.zip us) → Vals vs us → spZ K a vs H Q E →
    codeAny (model P w) A (.call (.ref f) args) (CR (L2.CX P w) outer P w H s Q E) s
section
variable {P : Program} {w : World} {K : PySem.W.Frag} {mg : Str → Option Value} {base : Heap} {g : Bool} {j k : Nat} {f : Addr} {fd : FuncData} {ps : List Str} {a : ASp}
theorem FZ.lift (F : FZ P w K mg base g j f fd ps a) (h : j ≤ k) : FZ P w K mg base g k f fd ps a := ⟨F.sp, fun A outer s H args us vs Q E hg hr => F.run A outer s H args us vs Q E hg (hr.mono h)⟩
theorem FZ.toG (F : FZ P w K mg base false k f fd ps a) : FZ P w K mg base true k f fd ps a := ⟨F.sp, fun A outer s H args us vs Q E hg hr => F.run A outer s H args us vs Q E (fun z => nomatch z) hr⟩
/-- a weaker promise -/
theorem FZ.imp {b : ASp} (F : FZ P w K mg base g k f fd ps a) (mb : SpOk ps.length b) (h : ∀ xs k e, b xs k e → a xs k e) : FZ P w K mg base g k f fd ps b :=
  ⟨mb, fun A outer s H args us vs Q E hg hr e0 hb r hs => F.run A outer s H args us vs Q E hg hr e0 hb r (by
    obtain ⟨F', p, xs, a1, ra, q⟩ := hs
    exact ⟨F', p, xs, a1, ra, h _ _ _ q⟩)⟩
/-- from the older form -/
theorem FZ.of0 {sp : Sp} (F : FnOk P w K mg base CX0 k f fd ps sp) (m : SpOk ps.length a) (h : ∀ vs H Q E, spZ K a vs H Q E → sp vs H Q E) : FZ P w K mg base false k f fd ps a :=
  ⟨m, fun A outer s H args us vs Q E _ hr e0 hb r hs => codeAny_mono (F.run A outer s H args us vs Q E hr e0 hb r (h _ _ _ _ hs)) fun r s' hq => by
    match r, hq with
    | .error e, hq => exact False.elim hq
    | .ok (.ret u), hq => exact hq
    | .ok .next, hq => exact False.elim hq
    | .ok .brk, hq => exact False.elim hq
    | .ok .cont, hq => exact False.elim hq⟩
theorem FZ.of {sp : Sp} (F : FnOk P w K mg base (L2.CX P w) k f fd ps sp) (m : SpOk ps.length a) (h : ∀ vs H Q E, spZ K a vs H Q E → sp vs H Q E) : FZ P w K mg base false k f fd ps a :=
  ⟨m, fun A outer s H args us vs Q E _ hr e0 hb r hs => F.run A outer s H args us vs Q E hr e0 hb r (h _ _ _ _ hs)⟩
end
/-! ## a def's body -/
def startG (N : List Str) (xs : List Av) : Gm := xs.map Sl.va ++ List.replicate (N.length - xs.length) Sl.no
theorem raL_len {K : PySem.W.Frag} {p : Option Addr} {F : Hp} {xs : List Av} {vs : List V} (h : RaL K p F xs vs) : xs.length = vs.length := Paired.length h
theorem raL_get {K : PySem.W.Frag} {p : Option Addr} {F : Hp} : ∀ {xs : List Av} {vs : List V} {i : Nat} {x : Av}, RaL K p F xs vs → xs[i]? = some x → ∃ v, vs[i]? = some v ∧ Ra K p F x v
  | _, _, _, _, .nil, e => by simp at e
  | _, _, 0, _, .cons h _, e => by
    simp at e
    subst e
    exact ⟨_, rfl, h⟩
  | _, _, i + 1, x, .cons _ g, e => by
    obtain ⟨v, h1, h2⟩ := raL_get (i := i) (x := x) g (by simpa using e)
    exact ⟨v, by simpa using h1, h2⟩
theorem start_rep {K : PySem.W.Frag} {p : Option Addr} {F H : Hp} {N : List Str} {xs : List Av} {vs : List V} (at_ : At p F H) (ra : RaL K p F xs vs) : Rep K ⟨p, F, H, F⟩ F H (L2.start N vs) (startG N xs) := by
  have hl := raL_len ra
  have key : ∀ (i : Nat) (s : Sl), (startG N xs)[i]? = some s → s = .no ∨ ∃ x, s = .va x ∧ xs[i]? = some x := fun i s h => by
    unfold startG at h
    by_cases hi : i < xs.length
    · rw [List.getElem?_append_left (by simpa using hi), List.getElem?_map] at h
      obtain ⟨x, h1, h2⟩ := Option.map_eq_some_iff.mp h
      exact .inr ⟨x, h2.symm, h1⟩
    · rw [List.getElem?_append_right (by simpa using hi), List.getElem?_replicate] at h
      split at h
      · cases h
        exact .inl rfl
      · cases h
  refine ⟨at_, fun a e => pot_some (at_.pot a e).1, fun _ _ z => z, by simp [L2.start, startG, hl], fun i x h => ?_, fun i zs h => ?_, fun i j zs ys b h => ?_⟩
  · rcases key i _ h with e | ⟨y, e, hy⟩
    · cases e
    · cases e
      obtain ⟨v, h1, h2⟩ := raL_get ra hy
      refine ⟨v, ?_, h2⟩
      unfold L2.start
      rw [List.getElem?_append_left (by rw [List.length_map]; exact (List.getElem?_eq_some_iff.mp h1).1), List.getElem?_map, h1]
      rfl
  · rcases key i _ h with e | ⟨y, e, hy⟩ <;> cases e
  · rcases key i _ h with e | ⟨y, e, hy⟩ <;> cases e
/-- what a body is to reach -/
def bodyE (k : Av → Prop) (e : ER) : DEnds := ⟨fun _ => k (.d .none), k, fun _ => False, fun _ => False, fun _ => e⟩
/-- the wish of a def about exceptions -/
abbrev WF (E : XK) : WX := fun cls d _ H => E cls d H
section
variable {P : Program} {w : World} {K : PySem.W.Frag} {mg : Str → Option Value} {base : Heap} {x qual : Str} {params : Arguments} {body : List Stmt} {scope : Scope} {f : Addr} {fd : FuncData} {k : Nat} {N ps : List Str} {a : ASp} {b : DTS}
theorem body_go {E : XK} {Q : VK} {p : Option Addr} {F H : Hp} {xs : List Av} {vs : List V} (mb : MonoS b) (at_ : At p F H) (ra : RaL K p F xs vs) (q : b (bodyE (fun x => ∀ v F' H', Ext p F H F' H' → Ra K p F' x v → Q v H') (fun C fs => ∀ dx F' H', Ext p F H F' H' → XdOk K F' dx fs → E (.ref C) (some dx) H')) (startG N xs)) :
    liftS K ⟨p, F, H, F⟩ (WF E) b { nx := fun _ H' => Q .non H', rt := Q } (L2.start N vs) H :=
  ⟨F, _, start_rep at_ ra, mb (bodyE (fun x => ∀ v F' H', Ext p F H F' H' → Ra K p F' x v → Q v H') (fun C fs => ∀ dx F' H', Ext p F H F' H' → XdOk K F' dx fs → E (.ref C) (some dx) H')) _ _ ⟨fun Γ' z σ' F' H' r => z _ F' H' r.ext Dq.non, fun x z v F' H' e ra => z v F' H' e ra, fun _ z => z.elim, fun _ z => z.elim, fun Γ' C fs z dx σ' F' H' r x => z dx F' H' r.ext x⟩ q⟩
theorem fz_ok (F : FunD K x qual params body scope [] [] f fd) (S : FnScope N ps scope) (ma : SpOk ps.length a)
    (hb : ∀ (cdv : Value) (A : Around) (outer : List Env) (s : Shared) (H : Hp) (E : XK) (Z : Zn), Room k (A.deeper (envOfC qual scope s.heap.objs.size f cdv)) → DSs (cxOf (L2.CX P w) P w K mg base N qual scope f cdv A outer s H E) Z (WF E) body b)
    (hs : ∀ xs k e, a xs k e → b (bodyE k e) (startG N xs)) : FZ P w K mg base false (k + 1) f fd ps a := by
  refine FZ.of (sp := spZ K a) (F.ok S (fun vs H Q E h => ?_) (fun cdv A outer s H vs Q E hr h => ?_)) ma (fun _ _ _ _ h => h)
  · obtain ⟨F', p, xs, _, ra, q⟩ := h
    rw [← raL_len ra, ma.len _ _ _ q]
  · obtain ⟨F', p, xs, at_, ra, q⟩ := h
    have hb' := hb cdv A outer s H E ⟨p, F', H, F'⟩ hr
    exact ⟨_, hb'.run, body_go hb'.mono at_ ra (hs _ _ _ q)⟩
/-- where it shows something -/
theorem fz_g (F : FunD K x qual params body scope [] [] f fd) (S : FnScope N ps scope) (ma : SpOk ps.length a)
    (hb : ∀ (cdv : Value) (A : Around) (outer : List Env) (s : Shared) (H : Hp) (E : XK) (Z : Zn), A.guards = some [] → Room k (A.deeper (envOfC qual scope s.heap.objs.size f cdv)) → DSs (cxOf (L2.CX P w) P w K mg base N qual scope f cdv A outer s H E) Z (WF E) body b)
    (hs : ∀ xs k e, a xs k e → b (bodyE k e) (startG N xs)) : FZ P w K mg base true (k + 1) f fd ps a := by
  have G := fn_g (P := P) (w := w) (mg := mg) (base := base) (CX := L2.CX P w) (k := k) (sp := spZ K a) F S (fun vs H Q E h => by
    obtain ⟨F', p, xs, _, ra, q⟩ := h
    rw [← raL_len ra, ma.len _ _ _ q]) (fun cdv A outer s H vs Q E hg hr h => by
    obtain ⟨F', p, xs, at_, ra, q⟩ := h
    have hb' := hb cdv A outer s H E ⟨p, F', H, F'⟩ hg hr
    exact ⟨_, hb'.run, body_go hb'.mono at_ ra (hs _ _ _ q)⟩)
  exact ⟨ma, fun A outer s H args us vs Q E hg hr e0 hb r h => G.run A outer s H args us vs Q E (hg rfl) hr e0 hb r h⟩
end
/-! ## calls -/
/-- a def by its name -/
structure OZ (P : Program) (w : World) (K : PySem.W.Frag) (mg : Str → Option Value) (base : Heap) (g : Bool) (k : Nat) (x : Str) (ps : List Str) (a : ASp) (f : Addr) (fd : FuncData) : Prop where
  ok : FZ P w K mg base g k f fd ps a
  m : mg x = some (.ref f)
  kp : PySem.W.keepIn K (.ref f) = true
  b : Binds K fd ps []
def dCall (a : ASp) (da : DTA) : DTE := fun Γ k e => da Γ (fun xs => a xs k e) e
theorem mono_call {a : ASp} {da : DTA} (h1 : MonoSp a) (h2 : MonoE da) : MonoE (dCall a da) := fun Γ k k' e e' hk he q => h2 _ _ _ _ _ (fun xs z => h1 _ _ _ _ _ hk he z) he q
section
variable {X : Cx} {Z : Zn} {W : WX} {g : Bool} {k : Nat} {x : Str} {ps : List Str} {a : ASp} {f : Addr} {fd : FuncData} {p pos : Pos} {e : Expr} {es : List Expr} {da : DTA}
theorem run_fz {pins : List (Addr × Obj)} {σ : L2.St} {H : Hp} {s : Shared} {Q : VK} {args : Args} {us : List Value} {vs : List V} (F : FZ X.prog X.w X.K X.mg X.base g k f fd ps a) (hg : g = true → X.A.guards = some []) (hr : Room k X.A) (tk : Takes X W) (hb : BindsTo s fd args (ps.zip us))
    (I : Inv X pins σ H s) (r : Vals vs us) (h : spZ X.K a vs H Q (WE W σ)) : codeAny (model X.prog X.w) X.A (.call (.ref f) args) (fun r s' => match r with | .ok (.ret v) => EP X pins σ Q v s' | .ok _ => False | .error e => X.xe e s') s := by
  refine codeAny_mono (F.run X.A X.stack s H args us vs Q (WE W σ) hg hr I.env0 hb r h) fun res st hq => ?_
  match res, hq with
  | .error ev, hq => exact passAt tk σ pins H s ev st I hq
  | .ok (.ret _), hq => exact I.after hq
  | .ok .next, hq => exact False.elim hq
  | .ok .brk, hq => exact False.elim hq
  | .ok .cont, hq => exact False.elim hq
theorem lift_call {es : List Expr} (h : DA X Z W es da) (m : MonoSp a) {σ : L2.St} {H : Hp} {Q : VK} (q : liftE X.K Z W (dCall a da) σ H Q) : tR (spZ X.K a) (WE W) (liftA X.K Z W da) σ H Q := by
  obtain ⟨F, Γ, r, q⟩ := q
  refine liftA.bind h.mono r q fun xs vs F1 H1 hx e1 r1 ra => ?_
  exact ⟨F1, Z.p, xs, r1.now, ra, m _ _ _ _ _ (fun z hz v F' H' e rz => hz v F' H' (e1.trans e) rz) (fun C fs hz dx F' H' e x => hz dx F' H' (e1.trans e) x) hx⟩
theorem binds_of (O : OZ X.prog X.w X.K X.mg X.base g k x ps a f fd) {pins : List (Addr × Obj)} {σ : L2.St} {H : Hp} {s : Shared} {Q : VK} {E : XK} {us : List Value} {vs : List V} (I : Inv X pins σ H s) (r : Vals vs us) (h : spZ X.K a vs H Q E) : BindsTo s fd ⟨us, []⟩ (ps.zip us) := by
  obtain ⟨F1, p, xs, _, ra, q⟩ := h
  have hl : us.length = ps.length := by rw [← r.length, ← raL_len ra, O.ok.sp.len _ _ _ q]
  have b := O.b s us I.kIn (by rw [List.append_nil]; exact hl)
  rw [List.append_nil] at b
  exact b
theorem de_call (O : OZ X.prog X.w X.K X.mg X.base g k x ps a f fd) (hgd : g = true → X.A.guards = some []) (tk : Takes X W) (hr : Room k X.A) (h : DA X Z W (e :: es) da) (hg : Gl X x := by rfl) (hdb : (x == ("__debug__" : Str)) = false := by decide)
    (he : starEach (e :: es) X.env = (false, eval e X.env) :: starEach es X.env := by rfl) (hpl : (backTo pos (starEach es X.env)).any (fun q => q.1) = false := by rfl) : DE X Z W (.Call (.Name x p) (e :: es) [] pos) (dCall a da) :=
  ⟨mono_call O.ok.sp.mono h.mono, pe_weak (t := tR (spZ X.K a) (WE W) (liftA X.K Z W da)) ⟨fun pins s σ H Q I q => by
    refine wpAny_Call_Name_kw (ld_glob I hg O.m ?_ hdb)
    refine PySem.W.callWith_K (h₀ := X.base) I.ok.mod.kin O.kp (thn (h.run.run pos pins s σ H _ I q) fun us s1 hh => ?_) he hpl
    obtain ⟨vs, H1, I1, r, q⟩ := hh
    exact ⟨I1.kIn, wpAny_call (run_fz O.ok hgd hr tk (binds_of O I1 r q) I1 r q)⟩⟩ fun σ H Q q => lift_call h O.ok.sp.mono q⟩
def tR0 (sp : Sp) (E : L2.St → XK) : TE := fun σ H Q => sp [] H Q (E σ)
theorem lift_call0 (m : MonoSp a) {σ : L2.St} {H : Hp} {Q : VK} (q : liftE X.K Z W (dCall a dNil) σ H Q) : tR0 (spZ X.K a) (WE W) σ H Q := by
  obtain ⟨F, Γ, r, q⟩ := q
  exact ⟨F, Z.p, [], r.now, .nil, m _ _ _ _ _ (fun z hz v F' H' e rz => hz v F' H' e rz) (fun C fs hz dx F' H' e x => hz dx F' H' e x) q⟩
theorem mono_nil : MonoE dNil := fun _ _ _ _ _ h _ q => h _ q
theorem de_call0 (O : OZ X.prog X.w X.K X.mg X.base g k x ps a f fd) (hgd : g = true → X.A.guards = some []) (tk : Takes X W) (hr : Room k X.A) (hg : Gl X x := by rfl) (hdb : (x == ("__debug__" : Str)) = false := by decide) : DE X Z W (.Call (.Name x p) [] [] pos) (dCall a dNil) :=
  ⟨mono_call O.ok.sp.mono mono_nil, pe_weak (t := tR0 (spZ X.K a) (WE W)) ⟨fun pins s σ H Q I q => by
    refine wpAny_Call_Name_kw (ld_glob I hg O.m ?_ hdb)
    exact PySem.W.callWith_K0 I.kIn O.kp (wpAny_call (run_fz (us := []) O.ok hgd hr tk (binds_of O I .nil q) I .nil q))⟩ fun σ H Q q => lift_call0 O.ok.sp.mono q⟩
/-- keywords -/
structure DK (X : Cx) (Z : Zn) (W : WX) (kws : List Keyword) (d : DTA) : Prop where
  mono : MonoE d
  run : PK X kws (liftA X.K Z W d)
theorem pk_weak {kws : List Keyword} {t t' : TA} (h : PK X kws t) (w : ∀ σ H Q, t' σ H Q → t σ H Q) : PK X kws t' := ⟨fun pos pins s σ H Q I q => h.run pos pins s σ H Q I (w σ H Q q)⟩
theorem dk_nil : DK X Z W [] dNil := ⟨mono_nil, pk_weak pk_nil fun σ H Q q => by
  obtain ⟨F, Γ, r, q⟩ := q
  exact q [] F H r.now .nil⟩
theorem dk_cons {nm : Option Str} {kpos : Pos} {kws : List Keyword} {d : DTE} {ds : DTA} (h1 : DE X Z W e d) (h2 : DK X Z W kws ds) : DK X Z W (⟨nm, e, kpos⟩ :: kws) (dCons d ds) :=
  ⟨fun Γ k k' e e' hk he q => h1.mono Γ _ _ _ _ (fun x hx => h2.mono Γ _ _ _ _ (fun xs hxs => hk _ hxs) he hx) he q, pk_weak (pk_cons h1.run h2.run) fun σ H Q q => by
    obtain ⟨F, Γ, r, q⟩ := q
    refine liftE.bind h1.mono r q fun x v F1 H1 hx e1 r1 ra => ?_
    exact liftA.bind h2.mono r1 (h2.mono Γ _ _ _ _ (fun _ z => z) (fun C fs z => z.later e1) hx) fun y w F2 H2 hy e2 r2 rb => hy (v :: w) F2 H2 (e1.trans e2) (.cons (ra.same e2.ff) rb)⟩
/-- the binding of keywords ks: gA puts their values in the parameters' order -/
structure KZ (K : PySem.W.Frag) (fd : FuncData) (ps ks : List Str) (gA : List Av → List Av) : Prop where
  ex : ∃ (g : List Value → List Value) (gV : List V → List V), (∀ (s : Shared) (ws : List Value), K.In s.heap → ws.length = ks.length → BindsTo s fd ⟨[], ks.zip ws⟩ (ps.zip (g ws))) ∧ (∀ zs ws, Vals zs ws → Vals (gV zs) (g ws)) ∧ ∀ p F xs vs, RaL K p F xs vs → RaL K p F (gA xs) (gV vs)
def dCallK (n : Nat) (a : ASp) (gA : List Av → List Av) (da : DTA) : DTE := fun Γ k e => da Γ (fun xs => xs.length = n ∧ a (gA xs) k e) e
theorem mono_callK {n : Nat} {gA : List Av → List Av} (h1 : MonoSp a) (h2 : MonoE da) : MonoE (dCallK n a gA da) := fun Γ k k' e e' hk he q => h2 _ _ _ _ _ (fun xs z => ⟨z.1, h1 _ _ _ _ _ hk he z.2⟩) he q
theorem de_callK {ks : List Str} {gA : List Av → List Av} {kws : List Keyword} (O : OZ X.prog X.w X.K X.mg X.base g k x ps a f fd) (B : KZ X.K fd ps ks gA) (hgd : g = true → X.A.guards = some []) (tk : Takes X W) (hr : Room k X.A) (h : DK X Z W kws da) (hg : Gl X x := by rfl)
    (hall : (backToKw pos (keywordEach kws X.env)).all (fun q => q.1.isSome) = true := by rfl)
    (hks : (backToKw pos (keywordEach kws X.env)).filterMap (fun q => q.1) = ks := by rfl)
    (hdb : (x == ("__debug__" : Str)) = false := by decide)
    (hpl : ((backTo pos (starEach [] X.env)).any (fun q => q.1) || (backToKw pos (keywordEach kws X.env)).any (fun q => q.1.isNone)) = false := by rfl) : DE X Z W (.Call (.Name x p) [] kws pos) (dCallK ks.length a gA da) :=
  ⟨mono_callK O.ok.sp.mono h.mono, ⟨fun pins s σ H Q I q => by
    obtain ⟨g', gV, b1, b2, b3⟩ := B.ex
    obtain ⟨F, Γ, r, q⟩ := q
    refine wpAny_Call_Name_kw (ld_glob I hg O.m ?_ hdb)
    refine PySem.W.callWith_KW0 (h₀ := X.base) I.ok.mod.kin O.kp hall ?_ hpl
    refine thn (h.run.run pos pins s σ H _ I (liftA.bind (Q := fun vs H1 => vs.length = ks.length ∧ spZ X.K a (gV vs) H1 Q (WE W σ)) h.mono r q fun xs vs F1 H1 hx e1 r1 ra => ⟨by rw [← raL_len ra]; exact hx.1, F1, Z.p, gA xs, r1.now, b3 _ _ _ _ ra, O.ok.sp.mono _ _ _ _ _ (fun z hz v F' H' e rz => hz v F' H' (e1.trans e) rz) (fun C fs hz dx F' H' e x => hz dx F' H' (e1.trans e) x) hx.2⟩)) fun ws s2 hq => ?_
    obtain ⟨zs, H2, I2, rz, l2, q2⟩ := hq
    refine ⟨I2.kIn, ?_⟩
    rw [hks]
    exact wpAny_call (run_fz O.ok hgd hr tk (b1 s2 ws I2.kIn (rz.length.symm.trans l2)) I2 (b2 _ _ rz) q2)⟩⟩
end
/-! ## methods -/
structure MZ (P : Program) (w : World) (K : PySem.W.Frag) (mg : Str → Option Value) (base : Heap) (g : Bool) (k : Nat) (C : Addr) (m : Str) (ps : List Str) (a : ASp) (fd : FuncData) : Prop where
  ok : FZ P w K mg base g k (He.ma K C m) fd ps a
  me : Meth K C m (He.ma K C m)
  c : Cls K C
  b : Binds K fd ps []
/-- an instance of the class at C whose attributes do not hide m -/
def InsA (C : Addr) (m : Str) : Av → Prop
  | .sh C' _ => C' = C ∧ m ≠ "listed"
  | .ob C' fs => C' = C ∧ fs.lookup m = none
  | _ => False
theorem roF_none {K : PySem.W.Frag} {p : Option Addr} {F : Hp} {m : Str} : ∀ {fs : List (Str × Av)} {ws : List (Str × V)}, RoF K p F fs ws → fs.lookup m = none → ws.lookup m = none
  | _, _, .nil, _ => rfl
  | (n, _) :: _, _, .cons _ g, h => by
    simp only [List.lookup] at h ⊢
    cases e : m == n with
    | true =>
      rw [e] at h
      cases h
    | false =>
      rw [e] at h
      exact roF_none g h
theorem roF_some {K : PySem.W.Frag} {p : Option Addr} {F : Hp} {m : Str} {x : Av} : ∀ {fs : List (Str × Av)} {ws : List (Str × V)}, RoF K p F fs ws → fs.lookup m = some x → ∃ v, ws.lookup m = some v ∧ Ra K p F x v
  | _, _, .nil, h => nomatch h
  | (n, _) :: _, _, .cons r g, h => by
    simp only [List.lookup] at h ⊢
    cases e : m == n with
    | true =>
      rw [e] at h
      cases h
      exact ⟨_, rfl, r.ra⟩
    | false =>
      rw [e] at h
      exact roF_some g h
theorem insA_at {K : PySem.W.Frag} {p : Option Addr} {F : Hp} {C : Addr} {m : Str} {x : Av} {v : V} (h : InsA C m x) (r : Ra K p F x v) : ∃ b dx fs, v = .ref b ∧ F b = some (.ins C dx fs) ∧ fs.lookup m = none := by
  cases x with
  | sh C' ns =>
    obtain ⟨rfl, n⟩ := h
    obtain ⟨b, rfl, dx, t, o, h1, _⟩ := r
    refine ⟨b, dx, _, rfl, h1, ?_⟩
    have : (m == ("listed" : Str)) = false := by simpa using n
    simp [List.lookup, this]
  | ob C' fs =>
    obtain ⟨rfl, n⟩ := h
    obtain ⟨b, dx, ws, rfl, h1, h2⟩ := r
    exact ⟨b, dx, ws, rfl, h1, roF_none h2 n⟩
  | _ => exact h.elim
def dMeth (C : Addr) (m : Str) (a : ASp) (d : DTE) (da : DTA) : DTE := fun Γ k e => d Γ (fun x => InsA C m x ∧ da Γ (fun xs => a (x :: xs) k e) e) e
theorem mono_meth {C : Addr} {m : Str} {a : ASp} {d : DTE} {da : DTA} (h1 : MonoSp a) (h2 : MonoE d) (h3 : MonoE da) : MonoE (dMeth C m a d da) := fun Γ k k' e e' hk he q => h2 _ _ _ _ _ (fun x z => ⟨z.1, h3 _ _ _ _ _ (fun xs z => h1 _ _ _ _ _ hk he z) he z.2⟩) he q
section
variable {X : Cx} {Z : Zn} {W : WX} {g : Bool} {k : Nat} {C : Addr} {m : Str} {ps : List Str} {a : ASp} {fd : FuncData} {apos pos : Pos} {o e : Expr} {es : List Expr} {d : DTE} {da : DTA}
theorem bindsM (O : MZ X.prog X.w X.K X.mg X.base g k C m ps a fd) {pins : List (Addr × Obj)} {σ : L2.St} {H : Hp} {s : Shared} {Q : VK} {E : XK} {us : List Value} {vs : List V} (I : Inv X pins σ H s) (r : Vals vs us) (h : spZ X.K a vs H Q E) : BindsTo s fd ⟨us, []⟩ (ps.zip us) := by
  obtain ⟨F1, p, xs, _, ra, q⟩ := h
  have hl : us.length = ps.length := by rw [← r.length, ← raL_len ra, O.ok.sp.len _ _ _ q]
  have b := O.b s us I.kIn (by rw [List.append_nil]; exact hl)
  rw [List.append_nil] at b
  exact b
theorem de_meth {pl : Sem Bool} (O : MZ X.prog X.w X.K X.mg X.base g k C m ps a fd) (hgd : g = true → X.A.guards = some []) (tk : Takes X W) (hr : Room k X.A) (ho : DE X Z W o d) (ha : DA X Z W (e :: es) da)
    (hst : starEach (e :: es) X.env = (false, eval e X.env) :: starEach es X.env := by rfl) (hpl : (backTo pos (starEach es X.env)).any (fun q => q.1) = false := by rfl)
    (ht : eval (.Call (.Attribute o m apos) (e :: es) [] pos) X.env = (do
      let ov ← eval o X.env
      standAt apos.atName
      let (f, first) ← holding [ov] (getMethod ov m pl)
      callWith pos f first (backTo pos (starEach (e :: es) X.env)) (backToKw pos (keywordEach [] X.env))) := by rfl) : DE X Z W (.Call (.Attribute o m apos) (e :: es) [] pos) (dMeth C m a d da) :=
  ⟨mono_meth O.ok.sp.mono ho.mono ha.mono, ⟨fun pins s σ H Q I q => by
    obtain ⟨F, Γ, r, q⟩ := q
    refine PySem.W.methodCall_KW (pl := pl) (thn (ho.run.run pins s σ H _ I (liftE.bind (Q := fun v H1 => ∃ b dx fs, v = .ref b ∧ H1 b = some (.ins C dx fs) ∧ fs.lookup m = none ∧ liftA X.K Z W da σ H1 fun vs H2 => spZ X.K a (v :: vs) H2 Q (WE W σ)) ho.mono r q fun x v F1 H1 hx e1 r1 ra => ?_)) fun u s1 hh => ?_) ht
    · obtain ⟨b, dx, fs, e2, e3, e4⟩ := insA_at hx.1 ra
      refine ⟨b, dx, fs, e2, e1.fh _ _ e3, e4, liftA.bind ha.mono r1 (ha.mono Γ _ _ _ _ (fun _ z => z) (fun C fs z => z.later e1) hx.2) fun xs vs F2 H2 hxs e5 r2 ras => ?_⟩
      exact ⟨F2, Z.p, x :: xs, r2.now, .cons (ra.same e5.ff) ras, O.ok.sp.mono _ _ _ _ _ (fun z hz v F' H' e rz => hz v F' H' ((e1.trans e5).trans e) rz) (fun C fs hz dx F' H' e x => hz dx F' H' ((e1.trans e5).trans e) x) hxs⟩
    · obtain ⟨v, H1, I1, rx, b, dx, fs, ex, ea, l, q⟩ := hh
      subst ex
      obtain rfl : u = Value.ref b := rx
      refine getmeth_ok I1 ea O.c O.me l ?_
      refine PySem.W.callWith_K (first := [.ref b]) (h₀ := X.base) I.ok.mod.kin O.me.kp (thn (ha.run.run pos pins s1 σ H1 _ I1 q) fun us s2 hh => ?_) hst hpl
      obtain ⟨vs, H2, I2, r, q2⟩ := hh
      exact ⟨I2.kIn, wpAny_call (run_fz (us := .ref b :: us) (vs := .ref b :: vs) O.ok hgd hr tk (bindsM (vs := .ref b :: vs) O I2 (.cons rfl r) q2) I2 (.cons rfl r) q2)⟩⟩⟩
theorem de_meth0 {pl : Sem Bool} (O : MZ X.prog X.w X.K X.mg X.base g k C m ps a fd) (hgd : g = true → X.A.guards = some []) (tk : Takes X W) (hr : Room k X.A) (ho : DE X Z W o d)
    (ht : eval (.Call (.Attribute o m apos) [] [] pos) X.env = (do
      let ov ← eval o X.env
      standAt apos.atName
      let (f, first) ← holding [ov] (getMethod ov m pl)
      callWith pos f first (backTo pos (starEach [] X.env)) (backToKw pos (keywordEach [] X.env))) := by rfl) : DE X Z W (.Call (.Attribute o m apos) [] [] pos) (dMeth C m a d dNil) :=
  ⟨mono_meth O.ok.sp.mono ho.mono mono_nil, ⟨fun pins s σ H Q I q => by
    obtain ⟨F, Γ, r, q⟩ := q
    refine PySem.W.methodCall_KW (pl := pl) (thn (ho.run.run pins s σ H _ I (liftE.bind (Q := fun v H1 => ∃ b dx fs, v = .ref b ∧ H1 b = some (.ins C dx fs) ∧ fs.lookup m = none ∧ spZ X.K a [v] H1 Q (WE W σ)) ho.mono r q fun x v F1 H1 hx e1 r1 ra => ?_)) fun u s1 hh => ?_) ht
    · obtain ⟨b, dx, fs, e2, e3, e4⟩ := insA_at hx.1 ra
      exact ⟨b, dx, fs, e2, e1.fh _ _ e3, e4, F1, Z.p, [x], r1.now, .cons ra .nil, O.ok.sp.mono _ _ _ _ _ (fun z hz v F' H' e rz => hz v F' H' (e1.trans e) rz) (fun C fs hz dx F' H' e x => hz dx F' H' (e1.trans e) x) hx.2⟩
    · obtain ⟨v, H1, I1, rx, b, dx, fs, ex, ea, l, q⟩ := hh
      subst ex
      obtain rfl : u = Value.ref b := rx
      refine getmeth_ok I1 ea O.c O.me l ?_
      exact PySem.W.callWith_K0 (first := [.ref b]) I1.kIn O.me.kp (wpAny_call (run_fz (us := [.ref b]) (vs := [.ref b]) O.ok hgd hr tk (bindsM (vs := [.ref b]) O I1 (.cons rfl .nil) q) I1 (.cons rfl .nil) q))⟩⟩
end
end Dl

set_option Elab.async false
set_option linter.all false
set_option maxRecDepth 100000
set_option maxHeartbeats 4000000
/-! Exceptions over data: raised, taken, read. -/
namespace Dl
open PySem PySem.Spec PyProof.Rows L2 Lw
/-! ## new objects, for good -/
section
variable {p : Option Addr} {F H H' : Hp}
/-- what is new in H' stands for good from now on -/
def Fn (F H H' : Hp) : Hp := fun b => match H b with
  | none => H' b
  | some _ => F b
theorem Fn_old {b : Addr} (h : H b ≠ none) : Fn F H H' b = F b := by
  unfold Fn
  cases e : H b with
  | none => exact absurd e h
  | some o => rfl
theorem Fn_new {b : Addr} (h : H b = none) : Fn F H H' b = H' b := by
  unfold Fn
  rw [h]
theorem Ext.fresh (x : At p F H) (s : Same H H') : Ext p F H (Fn F H H') H' := by
  have live : ∀ b o, F b = some o → H b ≠ none := fun b o e => by
    rw [x.fh _ _ e]
    exact fun z => nomatch z
  refine ⟨fun b o e => ?_, fun b o e => ?_, fun b o _ e => s _ _ e, fun b h e => ?_, fun a e => ⟨(x.pot a e).1.same s, ?_⟩⟩
  · rw [Fn_old (live b o e)]
    exact e
  · by_cases h : H b = none
    · rw [Fn_new h] at e
      exact e
    · rw [Fn_old h] at e
      exact s _ _ (x.fh _ _ e)
  · rw [Fn_old h]
    exact e
  · rw [Fn_old (pot_some (x.pot a e).1)]
    exact (x.pot a e).2
end
/-! ## raise -/
abbrev XSp := List Av → (List (Str × PyData) → Prop) → Prop
/-- a class of exceptions: what its instances keep of their arguments -/
structure XZ (P : Program) (w : World) (K : PySem.W.Frag) (mg : Str → Option Value) (base : Heap) (k : Nat) (x : Str) (C : Addr) (a : XSp) : Prop where
  mono : ∀ xs (q q' : List (Str × PyData) → Prop), (∀ fs, q fs → q' fs) → a xs q → a xs q'
  ex : ∃ (B newId initId : String) (tl : List Value) (ps : List Str) (sp : Sp) (fI : Addr) (fd : FuncData), ExB B newId initId tl ∧ OwnE P w K mg base k x ps sp C fI fd tl newId ∧
    ∀ (p : Option Addr) (F H : Hp) (xs : List Av) (vs : List V) (E : XK), At p F H → RaL K p F xs vs → a xs (fun fs => ∀ dx F' H', Ext p F H F' H' → XdOk K F' dx fs → E (.ref C) (some dx) H') →
      vs.length ≤ 1000 ∧ ∀ b, H b = none → sp (.ref b :: (vs ++ [])) (upd H b (exo b C none))
        (fun u H2 => u = .non ∧ ∃ (d : Addr) (fs : List (Str × V)), H2 b = some (exo b C (some d)) ∧ H2 d = some (exd d fs) ∧ H d = none ∧ E (.ref C) (some d) (upd (del H2 b) d (.xd fs))) (fun _ _ _ => False)
def xI (f : Str) : XSp := fun xs k => ∃ n, xs = [.d (.int n)] ∧ k [(f, .int n)]
def xV (n : Nat) : XSp := fun xs k => ∃ d, xs = [.d d] ∧ d.depth ≤ n ∧ slim d = true ∧ k [("value", d)]
section
variable {P : Program} {w : World} {K : PySem.W.Frag} {mg : Str → Option Value} {base : Heap} {k : Nat} {x : Str} {C fI : Addr} {ps : List Str} {fd : FuncData} {B newId initId : String} {tl : List Value}
theorem xz_I {f : Str} (EB : ExB B newId initId tl) (O : OwnE P w K mg base k x ps (sp_iniI f C) C fI fd tl newId) : XZ P w K mg base k x C (xI f) := by
  refine ⟨fun xs q q' h ⟨n, e, z⟩ => ⟨n, e, h _ z⟩, B, newId, initId, tl, ps, _, fI, fd, EB, O, fun p F H xs vs E a ra ⟨n, e, z⟩ => ?_⟩
  subst e
  cases ra with
  | cons h g =>
    cases g
    cases (show Dq K F _ (.int n) from h)
    refine raise_I fun dx H' s nd hd => z dx (Fn F H H') H' (Ext.fresh a s) ⟨[(f, .int n)], ?_, fun g y e => ?_⟩
    · rw [Fn_new nd]
      exact hd
    · refine ⟨.int n, ?_, ?_⟩
      · revert e
        simp only [List.lookup]
        cases g == f <;> simp
      · revert e
        simp only [List.lookup]
        cases g == f
        · intro e
          cases e
        · intro e
          cases e
          exact .int n
theorem xz_V {n : Nat} (EB : ExB B newId initId tl) (O : OwnE P w K mg base k x ps (sp_iniV K C n) C fI fd tl newId) : XZ P w K mg base k x C (xV n) := by
  refine ⟨fun xs q q' h ⟨d, e, z1, z2, z⟩ => ⟨d, e, z1, z2, h _ z⟩, B, newId, initId, tl, ps, _, fI, fd, EB, O, fun p F H xs vs E a ra ⟨d, e, z1, z2, z⟩ => ?_⟩
  subst e
  cases ra with
  | cons h g =>
    cases g
    refine raise_V (d := d) (Dq.same a.fh h) z1 z2 fun v' dx H' s nd hd fr => z dx (Fn F H H') H' (Ext.fresh a s) ⟨[("value", v')], ?_, fun g y e => ?_⟩
    · rw [Fn_new nd]
      exact hd
    · revert e
      simp only [List.lookup]
      cases g == ("value" : Str)
      · intro e
        cases e
      · intro e
        cases e
        refine ⟨v', rfl, Dq.same (fun b o e => ?_) fr⟩
        unfold nw at e
        cases q : H b with
        | none =>
          rw [q] at e
          rw [Fn_new q]
          exact e
        | some u =>
          rw [q] at e
          cases e
end
def dRaise (C : Addr) (a : XSp) (da : DTA) : DTS := fun E Γ => da (frz Γ) (fun xs => a xs (E.er (frz Γ) C)) (E.er (frz Γ))
section
variable {X : Cx} {Z : Zn} {W : WX} {k : Nat} {x : Str} {C : Addr} {a : XSp} {p pos pos' : Pos} {e : Expr} {es : List Expr} {da : DTA}
theorem ds_raise (O : XZ X.prog X.w X.K X.mg X.base k x C a) (hc : X.calm = true) (tk : Takes X W) (hr : Room (k + 1) X.A) (h : DA X Z W (e :: es) da) (hg : Gl X x := by rfl) (hdb : (x == ("__debug__" : Str)) = false := by decide)
    (he : starEach (e :: es) X.env = (false, eval e X.env) :: starEach es X.env := by rfl) (hpl : (backTo pos (starEach es X.env)).any (fun q => q.1) = false := by rfl) :
    DS X Z W (.Raise (some (.Call (.Name x p) (e :: es) [] pos)) none pos') (dRaise C a da) := by
  obtain ⟨B, newId, initId, tl, ps, sp, fI, fd, EB, OE, ok⟩ := O.ex
  refine ⟨fun E E' Γ le q => h.mono _ _ _ _ _ (fun xs z => O.mono _ _ _ (fun fs y => le.er _ _ _ y) z) (fun C fs y => le.er _ _ _ y) q, ps_weak (ps_raise hc tk (pmk_e EB OE hr h.run hg hdb he hpl)) fun D σ H q => ?_⟩
  obtain ⟨F, Γ, r, q⟩ := q
  refine liftA.bind h.mono r.freeze (h.mono _ _ _ _ _ (fun xs z => z) (fun C fs z => ?_) q) fun xs vs F1 H1 hx e1 r1 ra => ?_
  · exact fun dx F' H' e x => z dx σ F' H' (r.freeze.step e) x
  · exact ok Z.p F1 H1 xs vs (fun cls d H' => W cls d σ H') r1.now ra (O.mono _ _ _ (fun fs z dx F' H' e x => z dx σ F' H' (r1.step e) x) hx)
end
end Dl

set_option Elab.async false
set_option linter.all false
set_option maxRecDepth 100000
set_option maxHeartbeats 4000000
/-! try over data. -/
namespace Dl
open PySem PySem.Spec PyProof.Rows L2 Lw
theorem Rep.unset {K : PySem.W.Frag} {Z : Zn} {F H : Hp} {σ : L2.St} {Γ : Gm} (r : Rep K Z F H σ Γ) (i : Nat) : Rep K Z F H (σ.set i none) (Γ.set i .no) := by
  have key : ∀ (j : Nat) (s : Sl), s ≠ .no → (Γ.set i .no)[j]? = some s → j ≠ i ∧ Γ[j]? = some s := fun j s hs e => by
    by_cases hj : j = i
    · subst hj
      by_cases hl : j < Γ.length
      · rw [List.getElem?_set_self hl] at e
        cases e
        exact absurd rfl hs
      · rw [List.getElem?_eq_none (by rw [List.length_set]; omega)] at e
        cases e
    · rw [List.getElem?_set_ne (Ne.symm hj)] at e
      exact ⟨hj, e⟩
  have sg : ∀ j, j ≠ i → (σ.set i none)[j]? = σ[j]? := fun j hj => List.getElem?_set_ne (Ne.symm hj)
  refine ⟨r.ext, r.pz, r.fl, by rw [List.length_set, List.length_set]; exact r.len, fun j y e => ?_, fun j xs e => ?_, fun j k xs ys b e1 e2 e3 e4 => ?_⟩
  · obtain ⟨hj, e⟩ := key j (.va y) (fun z => nomatch z) e
    rw [sg j hj]
    exact r.va j y e
  · obtain ⟨hj, e⟩ := key j (.ow xs) (fun z => nomatch z) e
    rw [sg j hj]
    exact r.ow j xs e
  · obtain ⟨hj, e1⟩ := key j (.ow xs) (fun z => nomatch z) e1
    obtain ⟨hk, e2⟩ := key k (.ow ys) (fun z => nomatch z) e2
    rw [sg j hj] at e3
    rw [sg k hk] at e4
    exact r.dis j k xs ys b e1 e2 e3 e4
/-- the ends of a suite: the exception's name is gone behind it -/
def endX (i : Nat) (E : DEnds) : DEnds := ⟨fun Γ => E.nx (Γ.set i .no), E.rt, fun Γ => E.bk (Γ.set i .no), fun Γ => E.ct (Γ.set i .no), fun _ _ _ => False⟩
theorem endX_le {i : Nat} {E E' : DEnds} (le : E.Le E') : (endX i E).Le (endX i E') := ⟨fun _ z => le.nx _ z, le.rt, fun _ z => le.bk _ z, fun _ z => le.ct _ z, fun _ _ _ z => z⟩
abbrev DTX := Addr → Value → Option Addr → DTS
/-- clause c takes an exception of class C with the fields fs -/
def xTake (i : Nat) (t : DTX) (E : DEnds) (Γ : Gm) (C : Addr) (fs : List (Str × PyData)) : Prop := ∀ a dx, t a (.ref C) (some dx) (endX i E) (Γ.set i (.va (.ex a dx fs)))
def try1E (K : PySem.W.Frag) (c : Value) (i : Nat) (t : DTX) (E : DEnds) : DEnds := ⟨E.nx, E.rt, E.bk, E.ct, fun Γ' C fs => (PySem.W.exmOne K (.ref C) c = some true ∧ xTake i t E Γ' C fs) ∨ (PySem.W.exmOne K (.ref C) c = some false ∧ E.er Γ' C fs)⟩
def dTry1 (K : PySem.W.Frag) (c : Value) (i : Nat) (b : DTS) (t : DTX) : DTS := fun E Γ => b (try1E K c i t E) Γ
def try2E (K : PySem.W.Frag) (c1 c2 : Value) (i : Nat) (t1 t2 : DTX) (E : DEnds) : DEnds :=
  ⟨E.nx, E.rt, E.bk, E.ct, fun Γ' C fs => (PySem.W.exmOne K (.ref C) c1 = some true ∧ xTake i t1 E Γ' C fs) ∨ (PySem.W.exmOne K (.ref C) c1 = some false ∧ PySem.W.exmOne K (.ref C) c2 = some true ∧ xTake i t2 E Γ' C fs)⟩
def dTry2 (K : PySem.W.Frag) (c1 c2 : Value) (i : Nat) (b : DTS) (t1 t2 : DTX) : DTS := fun E Γ => b (try2E K c1 c2 i t1 t2 E) Γ
theorem xTake.mono {i : Nat} {t : DTX} {E E' : DEnds} {Γ : Gm} {C : Addr} {fs : List (Str × PyData)} (m : ∀ a cls d, MonoS (t a cls d)) (le : E.Le E') (h : xTake i t E Γ C fs) : xTake i t E' Γ C fs := fun a dx => m _ _ _ _ _ _ (endX_le le) (h a dx)
section
variable {X : Cx} {Z : Zn} {W : WX} {x n x1 x2 : Str} {c c1 c2 : Value} {i : Nat} {body u1 u2 : List Stmt} {v1 v2 : Stmt} {q1 q2 p1 p2 pos : Pos} {b : DTS} {t t1 t2 : DTX}
/-- a suite of the clause -/
def DX (X : Cx) (Z : Zn) (sts : List Stmt) (t : DTX) : Prop := ∀ (a : Addr) (oe : Obj) (cls : Value) (d : Option Addr) (pn : List (Addr × Obj)), Zc cls d oe → (∃ vs, oe.data = .fields vs) → DSs (X.suite a ((a, oe) :: pn)) Z W0 sts (t a cls d)
theorem DX.mono {sts : List Stmt} (h : DX X Z sts t) : ∀ a cls d, MonoS (t a cls d) := fun a cls d => (h a { cls := cls, dict := d, data := .fields #[] } cls d [] ⟨rfl, rfl⟩ ⟨_, rfl⟩).mono
theorem take_go {K : PySem.W.Frag} {D : Ends} {F H : Hp} {σ : L2.St} {Γ : Gm} {C dx : Addr} {fs : List (Str × PyData)} (m : ∀ a cls d, MonoS (t a cls d)) (r : Rep K Z F H σ Γ) (hx : XdOk K F dx fs) (h : xTake i t (endL K Z W D) Γ C fs) (a : Addr) :
    liftS K Z W0 (t a (.ref C) (some dx)) { nx := fun σ' H' => D.nx (σ'.set i none) H', rt := D.rt, bk := fun σ' H' => D.bk (σ'.set i none) H', ct := fun σ' H' => D.ct (σ'.set i none) H' } (σ.set i (some (.ref a))) H := by
  refine ⟨F, _, r.set (x := .ex a dx fs) ⟨rfl, hx⟩, m _ _ _ (endX i (endL K Z W D)) _ _ ⟨fun Γ' z σ' F' H' r' => z _ F' H' (r'.unset i), fun y z => z, fun Γ' z σ' F' H' r' => z _ F' H' (r'.unset i), fun Γ' z σ' F' H' r' => z _ F' H' (r'.unset i), fun _ _ _ z => z.elim⟩ (h a dx)⟩
theorem ds_try1 (hs : X.stack = X.env :: X.outer) (hf : X.env.frame = some X.env.locals) (hN : X.N.Nodup) (hi : X.N[i]? = some n) (hl : X.env.kindOf n = some .local) (hc : Names X x c) (tk : Takes X W)
    (hb : ∀ (W : WX) (pn : List (Addr × Obj)) (xe : Value → Shared → Prop), Takes (X.tr pn xe) W → DSs (X.tr pn xe) Z W body b) (h1 : DX X Z (v1 :: u1) t) (mb : MonoS b) :
    DS X Z W (.Try body [.ExceptHandler (some (.Name x q1)) (some n) (v1 :: u1) p1] [] [] pos) (dTry1 X.K c i b t) := by
  have m1 := h1.mono
  refine ⟨fun E E' Γ le q => mb (try1E X.K c i t E) _ _ ⟨le.nx, le.rt, le.bk, le.ct, fun Γ' C fs z => ?_⟩ q, ps_weak (ps_try_as (tb := fun W' => liftS X.K Z W' b) (ts := fun a cls d => liftS X.K Z W0 (t a cls d)) (Wout := W) hs hf hN hi hl hc tk (fun W' pn xe t1 _ => (hb W' pn xe t1).run) fun a oe cls d pn hz hf => (h1 a oe cls d pn hz hf).run) fun D σ H q => ?_⟩
  · rcases z with ⟨z1, z⟩ | ⟨z1, z⟩
    · exact .inl ⟨z1, z.mono m1 le⟩
    · exact .inr ⟨z1, le.er _ _ _ z⟩
  · obtain ⟨F, Γ, r, q⟩ := q
    refine ⟨F, Γ, r, mb (try1E X.K c i t (endL X.K Z W D)) _ _ ⟨fun _ z => z, fun _ z => z, fun _ z => z, fun _ z => z, fun Γ' C fs z dx σ' F' H' r' hx => ?_⟩ q⟩
    rcases z with ⟨z1, z⟩ | ⟨z1, z⟩
    · exact ⟨true, z1, fun _ a _ => take_go m1 r' hx z a, fun e => nomatch e⟩
    · exact ⟨false, z1, (fun e => nomatch e), fun _ => z dx σ' F' H' r' hx⟩
theorem ds_try2 (hs : X.stack = X.env :: X.outer) (hf : X.env.frame = some X.env.locals) (hN : X.N.Nodup) (hi : X.N[i]? = some n) (hl : X.env.kindOf n = some .local) (hc1 : Names X x1 c1) (hc2 : Names X x2 c2)
    (hb : ∀ (W : WX) (pn : List (Addr × Obj)) (xe : Value → Shared → Prop), Takes (X.tr pn xe) W → DSs (X.tr pn xe) Z W body b) (h1 : DX X Z (v1 :: u1) t1) (h2 : DX X Z (v2 :: u2) t2) (mb : MonoS b) :
    DS X Z W (.Try body [.ExceptHandler (some (.Name x1 q1)) (some n) (v1 :: u1) p1, .ExceptHandler (some (.Name x2 q2)) (some n) (v2 :: u2) p2] [] [] pos) (dTry2 X.K c1 c2 i b t1 t2) := by
  have m1 := h1.mono
  have m2 := h2.mono
  refine ⟨fun E E' Γ le q => mb (try2E X.K c1 c2 i t1 t2 E) _ _ ⟨le.nx, le.rt, le.bk, le.ct, fun Γ' C fs z => ?_⟩ q, ps_weak (ps_try_two (tb := fun W' => liftS X.K Z W' b) (t1 := fun a cls d => liftS X.K Z W0 (t1 a cls d)) (t2 := fun a cls d => liftS X.K Z W0 (t2 a cls d)) hs hf hN hi hl hc1 hc2 (fun W' pn xe t1 => (hb W' pn xe t1).run) (fun a oe cls d pn hz hf => (h1 a oe cls d pn hz hf).run) fun a oe cls d pn hz hf => (h2 a oe cls d pn hz hf).run) fun D σ H q => ?_⟩
  · rcases z with ⟨z1, z⟩ | ⟨z1, z2, z⟩
    · exact .inl ⟨z1, z.mono m1 le⟩
    · exact .inr ⟨z1, z2, z.mono m2 le⟩
  · obtain ⟨F, Γ, r, q⟩ := q
    refine ⟨F, Γ, r, mb (try2E X.K c1 c2 i t1 t2 (endL X.K Z W D)) _ _ ⟨fun _ z => z, fun _ z => z, fun _ z => z, fun _ z => z, fun Γ' C fs z dx σ' F' H' r' hx => ?_⟩ q⟩
    rcases z with ⟨z1, z⟩ | ⟨z1, z2, z⟩
    · exact .inl ⟨z1, fun a _ => take_go m1 r' hx z a⟩
    · exact .inr ⟨z1, z2, fun a _ => take_go m2 r' hx z a⟩
/-- e.f in the suite of a clause -/
def dXf (a : Addr) (cls : Value) (dd : Option Addr) (C : Addr) (f : Str) (d : DTE) : DTE := fun Γ k e => d Γ (fun x => ∃ dx fs y, x = .ex a dx fs ∧ cls = .ref C ∧ dd = some dx ∧ fs.lookup f = some y ∧ k (.d y)) e
theorem de_xf {a C : Addr} {oe : Obj} {cls : Value} {dd : Option Addr} {pn : List (Addr × Obj)} {e : Expr} {d : DTE} {f : Str} (T : XfC X.K C) (hno : PySem.W.findIn X.K (.ref C) f = some none) (hz : Zc cls dd oe) (hf : ∃ vs, oe.data = .fields vs)
    (h : DE (X.suite a ((a, oe) :: pn)) Z W e d) (hb : attributeBase e f X.env (eval e X.env) = eval e X.env := by rfl) : DE (X.suite a ((a, oe) :: pn)) Z W (.Attribute e f pos) (dXf a cls dd C f d) := by
  refine ⟨fun Γ k k' e e' hk he q => h.mono _ _ _ _ _ (fun x ⟨dx, fs, y, h1, h2, h3, h4, h5⟩ => ⟨dx, fs, y, h1, h2, h3, h4, hk _ h5⟩) he q, pe_weak (pe_xf T hno hz hf h.run hb) fun σ H Q q => ?_⟩
  obtain ⟨F, Γ, r, q⟩ := q
  refine liftE.bind h.mono r q fun x v F1 H1 hx e1 r1 ra => ?_
  obtain ⟨dx, fs, y, rfl, h2, h3, h4, h5⟩ := hx
  obtain ⟨rv, ws, g1, g2⟩ := ra
  obtain ⟨y', h6, h7⟩ := g2 f y h4
  exact ⟨rv, h2, dx, ws, y', h3, e1.fh _ _ g1, h6, h5 _ F1 H1 e1 h7⟩
end
end Dl

set_option Elab.async false
set_option linter.all false
set_option maxRecDepth 100000
set_option maxHeartbeats 4000000
/-! Making instances; methods by keywords. -/
namespace Dl
open PySem PySem.Spec PyProof.Rows L2 Lw
structure CZ (P : Program) (w : World) (K : PySem.W.Frag) (mg : Str → Option Value) (base : Heap) (k : Nat) (x : Str) (C : Addr) (a : ASp) : Prop where
  mono : MonoSp a
  ex : ∃ sp, OwnK P w K mg base (L2.CX P w) k x C sp ∧ ∀ (p : Option Addr) (F H : Hp) (xs : List Av) (vs : List V) (Q : VK) (E : XK), At p F H → RaL K p F xs vs →
    a xs (fun x => ∀ v F' H', Ext p F H F' H' → Ra K p F' x v → Q v H') (fun C fs => ∀ dx F' H', Ext p F H F' H' → XdOk K F' dx fs → E (.ref C) (some dx) H') →
    ∀ x dx, H x = none → H dx = none → dx ≠ x → sp (.ref x :: vs) (upd (upd H dx (.own x)) x (.ins C dx [])) (fun v H2 => v = .non ∧ Q (.ref x) H2) E
/-- the promise of the `__init__` of a sheet: its tuple is new -/
def sp_shInitN (K : PySem.W.Frag) (C CF : Addr) : Sp := fun vs H Q E => ∃ (a dx : Addr) (v : V) (d : PyData), vs = [.ref a, v] ∧ H a = some (.ins C dx []) ∧ Dq K (Lw.off H a) v d ∧ Sh d ∧ (∀ i, fwD d = some i → OutI "index" CF H i E) ∧
  (∀ ns H' t, d = .tuple (ns.map PyData.str) → Nms ns → Off a H H' → H' a = some (.ins C dx [("listed", .ref t)]) → SqT K H' t (ns.map V.str) → Q .non H') ∧
  ∀ ns H' t o, d = .list (ns.map PyData.str) → Nms ns → Off a H H' → H t = none → H' a = some (.ins C dx [("listed", .ref t)]) → H' t = some (.frz o (.tup (ns.map V.str))) → o.dict = none → Q .non H'
theorem mk_sheetN {K : PySem.W.Frag} {C CF : Addr} {H : Hp} {v : V} {ds : List PyData} {R : Addr → Hp → Prop} {E : XK} (hd : Dq K H v (.list ds)) (hs : Sh (.list ds)) (ho : ∀ i, fwL ds = some i → OutI "index" CF H i E)
    (hp : ∀ ns x dx t o H', ds = ns.map PyData.str → Nms ns → Same H H' → H x = none → H t = none → H' x = some (.ins C dx [("listed", .ref t)]) → H' t = some (.frz o (.tup (ns.map V.str))) → o.dict = none → R x H') :
    ∀ x dx, H x = none → H dx = none → dx ≠ x → sp_shInitN K C CF [.ref x, v] (upd (upd H dx (.own x)) x (.ins C dx [])) (fun v H2 => v = .non ∧ R x H2) E := by
  intro x dx nx nd ne
  have s1 : Same H (upd H dx (.own x)) := same_upd nd
  have nx1 : upd H dx (.own x) x = none := by rw [upd_ne ne.symm]; exact nx
  have s2 : Same H (upd (upd H dx (.own x)) x (.ins C dx [])) := s1.trans (same_upd nx1)
  have s3 : Same H (Lw.off (upd (upd H dx (.own x)) x (.ins C dx [])) x) := fun b o e => by
    have nb : b ≠ x := ne_of_none e nx
    rw [off_ne nb]
    exact s2 _ _ e
  refine ⟨x, dx, v, .list ds, rfl, upd_same, hd.same s3, hs, fun i e => (ho i e).later s2, (fun ns H' t h1 => nomatch h1), fun ns H' t ob h1 h2 o h6 h3 h4 h5 => ⟨rfl, hp ns x dx t ob H' (by injection h1) h2 ?_ nx (s2.free h6) h3 h4 h5⟩⟩
  exact (s3.trans o).trans off_under
/-- a sheet of a list -/
def aSheet (C CF : Addr) : ASp := fun xs k e => ∃ ds, xs = [.d (.list ds)] ∧ Sh (.list ds) ∧ (∀ i, fwL ds = some i → e CF [("index", .int i)]) ∧ ∀ ns, ds = ns.map PyData.str → Nms ns → k (.sh C ns)
section
variable {P : Program} {w : World} {K : PySem.W.Frag} {mg : Str → Option Value} {base : Heap} {k : Nat} {x : Str} {C CF : Addr}
theorem cz_sheet (O : OwnK P w K mg base (L2.CX P w) k x C (sp_shInitN K C CF)) : CZ P w K mg base k x C (aSheet C CF) := by
  refine ⟨fun xs k k' e e' hk he ⟨ds, h1, h2, h3, h4⟩ => ⟨ds, h1, h2, fun i q => he _ _ (h3 i q), fun ns a b => hk _ (h4 ns a b)⟩, _, O, fun p F H xs vs Q E a ra h => ?_⟩
  obtain ⟨ds, rfl, h2, h3, h4⟩ := h
  cases ra with
  | cons hv g =>
    cases g
    refine mk_sheetN (R := fun x H2 => Q (.ref x) H2) (Dq.same a.fh hv) h2 (fun i q => ?_) fun ns y dy t o H' e nm s ny nt g1 g2 g3 => ?_
    · refine fun dx H' s nd hd => h3 i q dx (Fn F H H') H' (Ext.fresh a s) ⟨[("index", .int i)], ?_, fun g y e => ?_⟩
      · rw [Fn_new nd]
        exact hd
      · revert e
        simp only [List.lookup]
        cases g == ("index" : Str)
        · intro e
          cases e
        · intro e
          cases e
          exact ⟨_, rfl, .int i⟩
    · exact h4 ns e nm (.ref y) (Fn F H H') H' (Ext.fresh a s) ⟨y, rfl, dy, t, o, (Fn_new ny).trans g1, (Fn_new nt).trans g2, g3, nm⟩
end
section
variable {X : Cx} {Z : Zn} {W : WX} {g : Bool} {k : Nat} {x : Str} {C : Addr} {a : ASp} {p pos : Pos} {e : Expr} {es : List Expr} {da : DTA}
theorem de_make (O : CZ X.prog X.w X.K X.mg X.base k x C a) (tk : Takes X W) (hr : Room (k + 1) X.A) (h : DA X Z W (e :: es) da) (hg : Gl X x := by rfl) (hdb : (x == ("__debug__" : Str)) = false := by decide)
    (he : starEach (e :: es) X.env = (false, eval e X.env) :: starEach es X.env := by rfl) (hpl : (backTo pos (starEach es X.env)).any (fun q => q.1) = false := by rfl) : DE X Z W (.Call (.Name x p) (e :: es) [] pos) (dCall a da) := by
  obtain ⟨sp, OK, ok⟩ := O.ex
  refine ⟨mono_call O.mono h.mono, pe_weak (pe_mkA OK (fun σ => passAt tk σ) hr h.run hg hdb he hpl) fun σ H Q q => ?_⟩
  obtain ⟨F, Γ, r, q⟩ := q
  refine liftA.bind h.mono r q fun xs vs F1 H1 hx e1 r1 ra => ?_
  exact ok Z.p F1 H1 xs vs Q (WE W σ) r1.now ra (O.mono _ _ _ _ _ (fun z hz v F' H' e rz => hz v F' H' (e1.trans e) rz) (fun C fs hz dx F' H' e x => hz dx F' H' (e1.trans e) x) hx)
end
/-- the binding of keywords behind the instance -/
structure KM (K : PySem.W.Frag) (fd : FuncData) (ps ks : List Str) (gA : List Av → List Av) : Prop where
  ex : ∃ (g : List Value → List Value) (gV : List V → List V), (∀ (s : Shared) (u : Value) (ws : List Value), K.In s.heap → ws.length = ks.length → BindsTo s fd ⟨[u], ks.zip ws⟩ (ps.zip (u :: g ws))) ∧ (∀ zs ws, Vals zs ws → Vals (gV zs) (g ws)) ∧ ∀ p F xs vs, RaL K p F xs vs → RaL K p F (gA xs) (gV vs)
def dMethK (C : Addr) (m : Str) (n : Nat) (a : ASp) (gA : List Av → List Av) (d : DTE) (da : DTA) : DTE := fun Γ k e => d Γ (fun x => InsA C m x ∧ da Γ (fun xs => xs.length = n ∧ a (x :: gA xs) k e) e) e
section
variable {X : Cx} {Z : Zn} {W : WX} {g : Bool} {k : Nat} {C : Addr} {m : Str} {ps : List Str} {a : ASp} {fd : FuncData} {apos pos : Pos} {o : Expr} {d : DTE} {da : DTA}
theorem de_methK {pl : Sem Bool} {ks : List Str} {gA : List Av → List Av} {kws : List Keyword} (O : MZ X.prog X.w X.K X.mg X.base g k C m ps a fd) (B : KM X.K fd ps ks gA) (hgd : g = true → X.A.guards = some []) (tk : Takes X W) (hr : Room k X.A) (ho : DE X Z W o d) (ha : DK X Z W kws da)
    (hall : (backToKw pos (keywordEach kws X.env)).all (fun q => q.1.isSome) = true := by rfl)
    (hks : (backToKw pos (keywordEach kws X.env)).filterMap (fun q => q.1) = ks := by rfl)
    (hpl : ((backTo pos (starEach [] X.env)).any (fun q => q.1) || (backToKw pos (keywordEach kws X.env)).any (fun q => q.1.isNone)) = false := by rfl)
    (ht : eval (.Call (.Attribute o m apos) [] kws pos) X.env = (do
      let ov ← eval o X.env
      standAt apos.atName
      let (f, first) ← holding [ov] (getMethod ov m pl)
      callWith pos f first (backTo pos (starEach [] X.env)) (backToKw pos (keywordEach kws X.env))) := by rfl) : DE X Z W (.Call (.Attribute o m apos) [] kws pos) (dMethK C m ks.length a gA d da) :=
  ⟨fun Γ k k' e e' hk he q => ho.mono _ _ _ _ _ (fun x z => ⟨z.1, ha.mono _ _ _ _ _ (fun xs y => ⟨y.1, O.ok.sp.mono _ _ _ _ _ hk he y.2⟩) he z.2⟩) he q, ⟨fun pins s σ H Q I q => by
    obtain ⟨F, Γ, r, q⟩ := q
    obtain ⟨g', gV, b1, b2, b3⟩ := B.ex
    refine PySem.W.methodCall_KW (pl := pl) (thn (ho.run.run pins s σ H _ I (liftE.bind (Q := fun v H1 => ∃ b dx fs, v = .ref b ∧ H1 b = some (.ins C dx fs) ∧ fs.lookup m = none ∧ liftA X.K Z W da σ H1 fun vs H2 => vs.length = ks.length ∧ spZ X.K a (v :: gV vs) H2 Q (WE W σ)) ho.mono r q fun x v F1 H1 hx e1 r1 ra => ?_)) fun u s1 hh => ?_) ht
    · obtain ⟨b, dx, fs, e2, e3, e4⟩ := insA_at hx.1 ra
      refine ⟨b, dx, fs, e2, e1.fh _ _ e3, e4, liftA.bind ha.mono r1 (ha.mono Γ _ _ _ _ (fun _ z => z) (fun C fs z => z.later e1) hx.2) fun xs vs F2 H2 hxs e5 r2 ras => ?_⟩
      exact ⟨by rw [← raL_len ras]; exact hxs.1, F2, Z.p, x :: gA xs, r2.now, .cons (ra.same e5.ff) (b3 _ _ _ _ ras), O.ok.sp.mono _ _ _ _ _ (fun z hz v F' H' e rz => hz v F' H' ((e1.trans e5).trans e) rz) (fun C fs hz dx F' H' e x => hz dx F' H' ((e1.trans e5).trans e) x) hxs.2⟩
    · obtain ⟨v, H1, I1, rx, b, dx, fs, ex, ea, l, q⟩ := hh
      subst ex
      obtain rfl : u = Value.ref b := rx
      refine getmeth_ok I1 ea O.c O.me l ?_
      refine PySem.W.callWith_KW0 (first := [.ref b]) (h₀ := X.base) I.ok.mod.kin O.me.kp hall (thn (ha.run.run pos pins s1 σ H1 _ I1 q) fun ws s2 hq => ?_) hpl
      obtain ⟨zs, H2, I2, rz, l2, q2⟩ := hq
      refine ⟨I2.kIn, ?_⟩
      rw [hks]
      exact wpAny_call (run_fz (us := .ref b :: g' ws) (vs := .ref b :: gV zs) O.ok hgd hr tk (b1 s2 _ ws I2.kIn (rz.length.symm.trans l2)) I2 (.cons rfl (b2 _ _ rz)) q2)⟩⟩
end
end Dl

set_option Elab.async false
set_option linter.all false
set_option maxRecDepth 100000
set_option maxHeartbeats 4000000
/-! Methods with ** : the keywords come as a dict. -/
namespace Dl
open PySem PySem.Spec PyProof.Rows L2 Lw
/-! ## the dict that the binding lays -/
theorem push_update (h : Heap) (o : Obj) (f : Obj → Obj) : (h.push o).update h.objs.size f = h.push (f o) := by
  cases h with
  | mk objs l =>
    show (⟨(objs.push o).modify objs.size f, l⟩ : Heap) = ⟨objs.push (f o), l⟩
    congr 1
    apply Array.ext
    · simp
    · intro i h1 h2
      simp only [Array.getElem_modify, Array.getElem_push]
      by_cases hi : i < objs.size
      · simp [hi, Nat.ne_of_gt hi]
      · have : i = objs.size := by simp at h2; omega
        subst this
        simp
section
variable {prog : Program} {w : World} {A : Around} {E : Value → Shared → Prop}
theorem ns_set {h0 : Heap} {s : Shared} {es : List DictEntry} {n : Nat} {k : Str} {v : Value} {Q : Unit → Shared → Prop} (hh : s.heap = h0.push (PySem.W.dictOf es n)) (hs : ∀ e ∈ es, e.key.isStr k = false) (hr : ∀ e ∈ es, e.refKey = false)
    (h : Q () { s with heap := h0.push (PySem.W.dictOf (es ++ [⟨PyData.keyHash w.params k, .str k s.toks, v⟩]) (n + 1)), toks := s.toks + 1 }) : wpAny (model prog w) A (nsSet h0.objs.size k v) Q E s := by
  have e1 : es.any (·.key.isStr k) = false := by
    cases q : es.any (·.key.isStr k) with
    | false => rfl
    | true =>
      obtain ⟨e, he, z⟩ := List.any_eq_true.mp q
      rw [hs e he] at z
      cases z
  have e2 : es.any (·.refKey) = false := by
    cases q : es.any (·.refKey) with
    | false => rfl
    | true =>
      obtain ⟨e, he, z⟩ := List.any_eq_true.mp q
      rw [hr e he] at z
      cases z
  have e : Obj.putName k (PyData.keyHash w.params k) (.str k s.toks) v (PySem.W.dictOf es n) = PySem.W.dictOf (es ++ [⟨PyData.keyHash w.params k, .str k s.toks, v⟩]) (n + 1) := by
    rw [PySem.W.putName_dict, PySem.W.putL_new hs]
    show PySem.W.dictOf _ (if es.any (·.key.isStr k) then n else n + 1) = _
    rw [e1, if_neg Bool.false_ne_true]
  have c : aRefKeyMayBeTheName k es.toArray = false := by
    rw [aRefKeyMayBeTheName_at, ← Array.any_toList, ← Array.any_toList]
    show (!es.any (·.key.isStr k) && es.any (·.refKey)) = false
    rw [e2, Bool.and_false]
  have D : s.heap.get? h0.objs.size = some (PySem.W.dictOf es n) := by
    rw [hh]
    exact Heap.get?_push_size _ rfl
  unfold nsSet
  refine wpAny_bind (wpAny_bind (wpAny_askSetting (wpAny_pure (wpAny_bind (wpAny_mkText (wpAny_bind (wpAny_loadPart D ?_)))))))
  dsimp only
  rw [c]
  refine wpAny_updatePart D ?_
  show Q () { s with heap := s.heap.update _ _, toks := s.toks + 1 }
  rw [hh, push_update]
  rw [← e] at h
  exact h
theorem ns_fill {h0 : Heap} {Q : PUnit → Shared → Prop} : ∀ (ex : List (Str × Value)) (s : Shared) (es : List DictEntry) (n : Nat), s.heap = h0.push (PySem.W.dictOf es n) → (∀ e ∈ es, ∀ x ∈ ex, e.key.isStr x.1 = false) → (∀ e ∈ es, e.refKey = false) → (ex.map (·.1)).Nodup →
    Q ⟨⟩ { s with heap := h0.push (PySem.W.dictOf (es ++ PySem.W.kwEs w.params s.toks ex) (n + ex.length)), toks := s.toks + ex.length } →
    wpAny (model prog w) A (forIn ex PUnit.unit fun x _ => (nsSet h0.objs.size x.1 x.2 >>= fun _ => pure (ForInStep.yield PUnit.unit))) Q E s
  | [], s, es, n, hh, _, _, _, h => by
    rw [List.forIn_nil]
    refine wpAny_pure ?_
    have z : Q ⟨⟩ { s with heap := h0.push (PySem.W.dictOf (es ++ []) n), toks := s.toks } := h
    rw [List.append_nil, ← hh] at z
    exact z
  | x :: r, s, es, n, hh, hs, hr, hn, h => by
    obtain ⟨hn1, hn2⟩ := List.nodup_cons.mp (show (x.1 :: r.map (·.1)).Nodup from hn)
    rw [List.forIn_cons]
    refine wpAny_bind (wpAny_bind (ns_set hh (fun e he => hs e he x (.head _)) hr (wpAny_pure ?_)))
    refine ns_fill r { s with heap := h0.push (PySem.W.dictOf (es ++ [⟨PyData.keyHash w.params x.1, .str x.1 s.toks, x.2⟩]) (n + 1)), toks := s.toks + 1 } _ _ rfl (fun e he y hy => ?_) (fun e he => ?_) hn2 ?_
    · rcases List.mem_append.mp he with he | he
      · exact hs e he y (.tail _ hy)
      · obtain rfl := List.mem_singleton.mp he
        show (x.1 == y.1) = false
        exact beq_eq_false_iff_ne.mpr fun q => hn1 (by rw [q]; exact List.mem_map_of_mem hy)
    · rcases List.mem_append.mp he with he | he
      · exact hr e he
      · obtain rfl := List.mem_singleton.mp he
        rfl
    · have t1 : s.toks + 1 + r.length = s.toks + (r.length + 1) := by omega
      have t2 : n + 1 + r.length = n + (r.length + 1) := by omega
      show Q ⟨⟩ { s with heap := _, toks := s.toks + 1 + r.length }
      rw [t1, t2, List.append_assoc]
      exact h
theorem kw_pairs {prog : Program} {w : World} : ∀ (ks : List Str) (ws : List Value) (t : Tok), Pairs (mixKind prog w) (PySem.W.kwEs w.params t (ks.zip ws)) ((ks.map Sum.inr).zip ws)
  | [], _, _ => Pairs.nil
  | _ :: _, [], _ => Pairs.nil
  | k :: ks, u :: ws, t => Pairs.cons (mixKind_str prog w k t) rfl (kw_pairs ks ws (t + 1))
theorem kw_nodup : ∀ {ks : List Str} {ws : List Value}, ks.Nodup → (((ks.map (Sum.inr : Str → Key)).zip ws).map (·.1)).Nodup
  | [], _, _ => List.nodup_nil
  | _ :: _, [], _ => List.nodup_nil
  | k :: ks, u :: ws, h => by
    obtain ⟨h1, h2⟩ := List.nodup_cons.mp h
    show ((Sum.inr k : Key) :: (((ks.map (Sum.inr : Str → Key)).zip ws).map (·.1))).Nodup
    refine List.nodup_cons.mpr ⟨fun hx => ?_, kw_nodup h2⟩
    obtain ⟨y, hy, e⟩ := List.mem_map.mp hx
    obtain ⟨z, hz, e2⟩ := List.mem_map.mp (List.of_mem_zip hy).1
    rw [e] at e2
    have e3 : z = k := by injection e2
    exact h1 (e3 ▸ hz)
theorem kw_dict {prog : Program} {w : World} {ks : List Str} {ws : List Value} (t : Tok) (n : Nat) (hn : ks.Nodup) : (PySem.W.dictOf (PySem.W.kwEs w.params t (ks.zip ws)) n).IsDictOf (mixKind prog w) ((ks.map Sum.inr).zip ws) :=
  ⟨(PySem.W.kwEs w.params t (ks.zip ws)).toArray, n, ⟨rfl, rfl, rfl⟩, rfl, fun e he => by
    obtain ⟨k, u, hk, hh⟩ := PySem.W.kwEs_key (ks.zip ws) t e (List.mem_toArray.mp he)
    exact ⟨.inr k, by rw [hk]; exact mixKind_str prog w k u, hh.trans rfl⟩, kw_pairs ks ws t, kw_nodup hn⟩
end
/-! ## such a def -/
/-- one parameter, then the dict -/
def BindsS (fd : FuncData) (p1 pk : Str) (ks : List Str) : Prop := ∀ (u : Value) (ws : List Value), ws.length = ks.length →
  bindArgs fd ⟨[u], ks.zip ws⟩ = ((alloc (PySem.W.dictOf [] 0) : Sem Addr) >>= fun d => forIn (ks.zip ws) PUnit.unit (fun x _ => (nsSet d x.1 x.2 >>= fun _ => pure (ForInStep.yield PUnit.unit))) >>= fun _ => pure [(p1, u), (pk, Value.ref d)])
def spS (K : PySem.W.Frag) (a : ASp) (v : V) (ks : List Str) (zs : List V) (H : Hp) (Q : VK) (E : XK) : Prop := ∃ F p x ds, At p F H ∧ Ra K p F x v ∧ DqAll K F zs ds ∧
  a [x, .kd (ks.zip ds)] (fun x => ∀ v F' H', Ext p F H F' H' → Ra K p F' x v → Q v H') (fun C fs => ∀ dx F' H', Ext p F H F' H' → XdOk K F' dx fs → E (.ref C) (some dx) H')
structure FS (P : Program) (w : World) (K : PySem.W.Frag) (mg : Str → Option Value) (base : Heap) (k : Nat) (f : Addr) (fd : FuncData) (p1 pk : Str) (a : ASp) : Prop where
  mono : MonoSp a
  run : ∀ (A : Around) (outer : List Env) (s : Shared) (H : Hp) (u : Value) (v : V) (ks : List Str) (ws : List Value) (zs : List V) (Q : VK) (E : XK), Room k A → Env0 P w K mg base A outer s H → BindsS fd p1 pk ks → ks.Nodup → ks.length ≤ 100 → RelV v u → Vals zs ws → zs.length = ks.length →
    spS K a v ks zs H Q E → codeAny (model P w) A (.call (.ref f) ⟨[u], ks.zip ws⟩) (CR (L2.CX P w) outer P w H s Q E) s
theorem env0_tok {P : Program} {w : World} {K : PySem.W.Frag} {mg : Str → Option Value} {base : Heap} {A : Around} {outer : List Env} {s : Shared} {H : Hp} (e : Env0 P w K mg base A outer s H) (t : Tok) : Env0 P w K mg base A outer { s with toks := t } H := ⟨e.frames, e.mod, e.bs, e.bsz, e.funs, e.frf, e.hok, e.bare⟩
theorem kv_zip : ∀ {ks : List Str} {zs : List V} {ws : List Value}, Vals zs ws → KV ((ks.map (Sum.inr : Str → Key)).zip zs) ((ks.map (Sum.inr : Str → Key)).zip ws)
  | [], _, _, _ => .nil
  | _ :: _, _, _, .nil => .nil
  | _ :: _, _, _, .cons a r => .cons ⟨rfl, a⟩ (kv_zip r)
theorem kd_zip {K : PySem.W.Frag} {F : Hp} : ∀ {ks : List Str} {zs : List V} {ds : List PyData}, DqAll K F zs ds → KdR K F ((ks.map (Sum.inr : Str → Key)).zip zs) (ks.zip ds)
  | [], _, _, _ => .nil
  | _ :: _, _, _, .nil => .nil
  | _ :: _, _, _, .cons a r => .cons ⟨rfl, a⟩ (kd_zip r)
section
variable {P : Program} {w : World} {K : PySem.W.Frag} {mg : Str → Option Value} {base : Heap} {x qual : Str} {params : Arguments} {body : List Stmt} {scope : Scope} {f : Addr} {fd : FuncData} {k : Nat} {N : List Str} {p1 pk : Str} {a : ASp} {b : DTS}
theorem fs_ok (F : FunD K x qual params body scope [] [] f fd) (S : FnScope N [p1, pk] scope) (ma : MonoSp a)
    (hb : ∀ (cdv : Value) (A : Around) (outer : List Env) (s : Shared) (H : Hp) (E : XK) (Z : Zn), Room k (A.deeper (envOfC qual scope s.heap.objs.size f cdv)) → DSs (cxOf (L2.CX P w) P w K mg base N qual scope f cdv A outer s H E) Z (WF E) body b)
    (hs : ∀ xs k e, a xs k e → b (bodyE k e) (startG N xs)) : FS P w K mg base (k + 1) f fd p1 pk a := by
  refine ⟨ma, fun A outer s H u v ks ws zs Q E hr e0 hbd hn hk rv rz hl hsp => ?_⟩
  obtain ⟨oc, od, dV, kV, doc, pm, an, cdv, ct, osl, rfl, lk, hcd, _, _⟩ := F.ex
  obtain ⟨F0, p, x0, ds, at_, ra, rd, q⟩ := hsp
  have hlw : ws.length = ks.length := rz.length.symm.trans hl
  have hn0 : H s.heap.objs.size = none := e0.hok.fresh (Nat.le_refl _)
  have hex : ((ks.zip ws).map (·.1)).Nodup := by
    have e : (ks.zip ws).map (·.1) = ks := by
      rw [List.map_fst_zip (by omega)]
    rw [e]
    exact hn
  refine StX.run_bnd lk hcd S hr e0 (G := fun xs H2 => ∃ d o, H d = none ∧ xs = [v, .ref d] ∧ H2 = upd H d (.frz o (.dK ((ks.map (Sum.inr : Str → Key)).zip zs)))) (fun A' Ex Q' h => ?_) fun s2 H2 xs hg hr' => ?_
  · rw [hbd u ws hlw]
    refine wpAny_bind (wpAny_alloc (wpAny_bind (ns_fill (h0 := s.heap) (ks.zip ws) { s with heap := s.heap.push (PySem.W.dictOf [] 0) } [] 0 rfl (fun _ he => nomatch he) (fun _ he => nomatch he) hex (wpAny_pure ?_))))
    have get : (s.heap.push (PySem.W.dictOf (PySem.W.kwEs w.params s.toks (ks.zip ws)) (0 + (ks.zip ws).length))).get? s.heap.objs.size = some (PySem.W.dictOf (PySem.W.kwEs w.params s.toks (ks.zip ws)) (0 + (ks.zip ws).length)) := Heap.get?_push_size _ rfl
    have new : ObjOk P w (upd H s.heap.objs.size (.frz (PySem.W.dictOf (PySem.W.kwEs w.params s.toks (ks.zip ws)) (0 + (ks.zip ws).length)) (.dK ((ks.map (Sum.inr : Str → Key)).zip zs)))) (s.heap.push (PySem.W.dictOf (PySem.W.kwEs w.params s.toks (ks.zip ws)) (0 + (ks.zip ws).length))) s.heap.objs.size
        (.frz (PySem.W.dictOf (PySem.W.kwEs w.params s.toks (ks.zip ws)) (0 + (ks.zip ws).length)) (.dK ((ks.map (Sum.inr : Str → Key)).zip zs))) := by
      refine ⟨get, ?_, ?_, _, kv_zip rz, Heap.dictOf_iff.mpr ⟨_, get, kw_dict _ _ hn⟩⟩
      · rw [List.length_zip, List.length_map]
        have : (100 : Nat) ≤ sizeLine := by decide
        omega
      · have := StX.env0_big e0
        exact beq_eq_false_iff_ne.mpr (Nat.ne_of_gt this)
    have un := StX.un_laid (fs := frs outer) (s := s) (o := PySem.W.dictOf (PySem.W.kwEs w.params s.toks (ks.zip ws)) (0 + (ks.zip ws).length)) (u := .frz (PySem.W.dictOf (PySem.W.kwEs w.params s.toks (ks.zip ws)) (0 + (ks.zip ws).length)) (.dK ((ks.map (Sum.inr : Str → Key)).zip zs))) hn0
    exact h { s with heap := s.heap.push (PySem.W.dictOf (PySem.W.kwEs w.params s.toks (ks.zip ws)) (0 + (ks.zip ws).length)), toks := s.toks + (ks.zip ws).length } _ [v, .ref s.heap.objs.size] [u, .ref s.heap.objs.size] (env0_tok (StX.env0_laid e0 new) _) un rfl
      (fun e s' => StX.cxUp outer s H _ _ E e s' un (fun b o q => Heap.get?_push_of_some _ q) rfl) (.cons rv (.cons rfl .nil)) rfl ⟨_, _, hn0, rfl, rfl⟩
  · obtain ⟨d, o, nd, rfl, rfl⟩ := hg
    have ex := Ext.new (o := .frz o (.dK ((ks.map (Sum.inr : Str → Key)).zip zs))) at_ nd
    have hb' := hb cdv A outer s2 (upd H d (.frz o (.dK ((ks.map (Sum.inr : Str → Key)).zip zs)))) E ⟨p, upd F0 d (.frz o (.dK ((ks.map (Sum.inr : Str → Key)).zip zs))), upd H d (.frz o (.dK ((ks.map (Sum.inr : Str → Key)).zip zs))), upd F0 d (.frz o (.dK ((ks.map (Sum.inr : Str → Key)).zip zs)))⟩ hr'
    have rk : Ra K p (upd F0 d (.frz o (.dK ((ks.map (Sum.inr : Str → Key)).zip zs)))) (.kd (ks.zip ds)) (.ref d) := ⟨d, o, _, rfl, upd_same, kd_zip (DqAll.same ex.ff rd)⟩
    refine ⟨_, hb'.run, body_go hb'.mono ex.at1 (.cons (ra.same ex.ff) (.cons rk .nil)) (hs _ _ _ (ma _ _ _ _ _ (fun y hy v F' H' e2 ry => hy v F' H' (ex.trans e2) ry) (fun C fs hz dx F' H' e2 y => hz dx F' H' (ex.trans e2) y) q))⟩
end
/-! ## and its call: m(k = e, ..) -/
structure MS (P : Program) (w : World) (K : PySem.W.Frag) (mg : Str → Option Value) (base : Heap) (k : Nat) (C : Addr) (m : Str) (p1 pk : Str) (a : ASp) (fd : FuncData) : Prop where
  ok : FS P w K mg base k (He.ma K C m) fd p1 pk a
  me : Meth K C m (He.ma K C m)
  c : Cls K C
def dMethS (C : Addr) (m : Str) (ks : List Str) (a : ASp) (d : DTE) (da : DTA) : DTE := fun Γ k e => d Γ (fun x => InsA C m x ∧ da Γ (fun xs => ∃ ds, xs = ds.map Av.d ∧ ds.length = ks.length ∧ a [x, .kd (ks.zip ds)] k e) e) e
theorem raL_d {K : PySem.W.Frag} {p : Option Addr} {F : Hp} : ∀ {ds : List PyData} {vs : List V}, RaL K p F (ds.map Av.d) vs → DqAll K F vs ds
  | [], _, .nil => .nil
  | _ :: _, _, .cons h g => .cons h (raL_d g)
section
variable {X : Cx} {Z : Zn} {W : WX} {k : Nat} {C : Addr} {m p1 pk : Str} {a : ASp} {fd : FuncData} {apos pos : Pos} {o : Expr} {d : DTE} {da : DTA}
theorem run_fs {f : Addr} {pins : List (Addr × Obj)} {σ : L2.St} {H : Hp} {s : Shared} {Q : VK} {u : Value} {v : V} {ks : List Str} {ws : List Value} {zs : List V} (F : FS X.prog X.w X.K X.mg X.base k f fd p1 pk a) (hr : Room k X.A) (tk : Takes X W) (hb : BindsS fd p1 pk ks) (hn : ks.Nodup) (hk : ks.length ≤ 100)
    (I : Inv X pins σ H s) (rv : RelV v u) (r : Vals zs ws) (hl : zs.length = ks.length) (h : spS X.K a v ks zs H Q (WE W σ)) : codeAny (model X.prog X.w) X.A (.call (.ref f) ⟨[u], ks.zip ws⟩) (fun r s' => match r with | .ok (.ret v) => EP X pins σ Q v s' | .ok _ => False | .error e => X.xe e s') s := by
  refine codeAny_mono (F.run X.A X.stack s H u v ks ws zs Q (WE W σ) hr I.env0 hb hn hk rv r hl h) fun res st hq => ?_
  match res, hq with
  | .error ev, hq => exact passAt tk σ pins H s ev st I hq
  | .ok (.ret _), hq => exact I.after hq
  | .ok .next, hq => exact False.elim hq
  | .ok .brk, hq => exact False.elim hq
  | .ok .cont, hq => exact False.elim hq
theorem de_methS {pl : Sem Bool} {ks : List Str} {kws : List Keyword} (O : MS X.prog X.w X.K X.mg X.base k C m p1 pk a fd) (B : BindsS fd p1 pk ks) (hn : ks.Nodup) (hk : ks.length ≤ 100) (tk : Takes X W) (hr : Room k X.A) (ho : DE X Z W o d) (ha : DK X Z W kws da)
    (hall : (backToKw pos (keywordEach kws X.env)).all (fun q => q.1.isSome) = true := by rfl)
    (hks : (backToKw pos (keywordEach kws X.env)).filterMap (fun q => q.1) = ks := by rfl)
    (hpl : ((backTo pos (starEach [] X.env)).any (fun q => q.1) || (backToKw pos (keywordEach kws X.env)).any (fun q => q.1.isNone)) = false := by rfl)
    (ht : eval (.Call (.Attribute o m apos) [] kws pos) X.env = (do
      let ov ← eval o X.env
      standAt apos.atName
      let (f, first) ← holding [ov] (getMethod ov m pl)
      callWith pos f first (backTo pos (starEach [] X.env)) (backToKw pos (keywordEach kws X.env))) := by rfl) : DE X Z W (.Call (.Attribute o m apos) [] kws pos) (dMethS C m ks a d da) :=
  ⟨fun Γ k k' e e' hk he q => ho.mono _ _ _ _ _ (fun x z => ⟨z.1, ha.mono _ _ _ _ _ (fun xs ⟨ds, y1, y2, y3⟩ => ⟨ds, y1, y2, O.ok.mono _ _ _ _ _ hk he y3⟩) he z.2⟩) he q, ⟨fun pins s σ H Q I q => by
    obtain ⟨F, Γ, r, q⟩ := q
    refine PySem.W.methodCall_KW (pl := pl) (thn (ho.run.run pins s σ H _ I (liftE.bind (Q := fun v H1 => ∃ b dx fs, v = .ref b ∧ H1 b = some (.ins C dx fs) ∧ fs.lookup m = none ∧ liftA X.K Z W da σ H1 fun vs H2 => vs.length = ks.length ∧ spS X.K a v ks vs H2 Q (WE W σ)) ho.mono r q fun x v F1 H1 hx e1 r1 ra => ?_)) fun u s1 hh => ?_) ht
    · obtain ⟨b, dx, fs, e2, e3, e4⟩ := insA_at hx.1 ra
      refine ⟨b, dx, fs, e2, e1.fh _ _ e3, e4, liftA.bind ha.mono r1 (ha.mono Γ _ _ _ _ (fun _ z => z) (fun C fs z => z.later e1) hx.2) fun xs vs F2 H2 hxs e5 r2 ras => ?_⟩
      obtain ⟨ds, y1, y2, y3⟩ := hxs
      subst y1
      have hd := raL_d ras
      refine ⟨?_, F2, Z.p, x, ds, r2.now, ra.same e5.ff, hd, O.ok.mono _ _ _ _ _ (fun z hz v F' H' e rz => hz v F' H' ((e1.trans e5).trans e) rz) (fun C fs hz dx F' H' e x => hz dx F' H' ((e1.trans e5).trans e) x) y3⟩
      rw [← raL_len ras, List.length_map]
      exact y2
    · obtain ⟨v, H1, I1, rx, b, dx, fs, ex, ea, l, q⟩ := hh
      subst ex
      obtain rfl : u = Value.ref b := rx
      refine getmeth_ok I1 ea O.c O.me l ?_
      refine PySem.W.callWith_KW0 (first := [.ref b]) (h₀ := X.base) I.ok.mod.kin O.me.kp hall (thn (ha.run.run pos pins s1 σ H1 _ I1 q) fun ws s2 hq => ?_) hpl
      obtain ⟨zs, H2, I2, rz, l2, q2⟩ := hq
      refine ⟨I2.kIn, ?_⟩
      rw [hks]
      exact wpAny_call (run_fs (u := .ref b) (v := .ref b) O.ok hr tk B hn hk I2 rfl rz l2 q2)⟩⟩
theorem de_methS0 {pl : Sem Bool} (O : MS X.prog X.w X.K X.mg X.base k C m p1 pk a fd) (B : BindsS fd p1 pk []) (tk : Takes X W) (hr : Room k X.A) (ho : DE X Z W o d)
    (ht : eval (.Call (.Attribute o m apos) [] [] pos) X.env = (do
      let ov ← eval o X.env
      standAt apos.atName
      let (f, first) ← holding [ov] (getMethod ov m pl)
      callWith pos f first (backTo pos (starEach [] X.env)) (backToKw pos (keywordEach [] X.env))) := by rfl) : DE X Z W (.Call (.Attribute o m apos) [] [] pos) (dMethS C m [] a d dNil) :=
  ⟨fun Γ k k' e e' hk he q => ho.mono _ _ _ _ _ (fun x z => ⟨z.1, mono_nil _ _ _ _ _ (fun xs ⟨ds, y1, y2, y3⟩ => ⟨ds, y1, y2, O.ok.mono _ _ _ _ _ hk he y3⟩) he z.2⟩) he q, ⟨fun pins s σ H Q I q => by
    obtain ⟨F, Γ, r, q⟩ := q
    refine PySem.W.methodCall_KW (pl := pl) (thn (ho.run.run pins s σ H _ I (liftE.bind (Q := fun v H1 => ∃ b dx fs, v = .ref b ∧ H1 b = some (.ins C dx fs) ∧ fs.lookup m = none ∧ spS X.K a v [] [] H1 Q (WE W σ)) ho.mono r q fun x v F1 H1 hx e1 r1 ra => ?_)) fun u s1 hh => ?_) ht
    · obtain ⟨b, dx, fs, e2, e3, e4⟩ := insA_at hx.1 ra
      obtain ⟨ds, y1, y2, y3⟩ := hx.2
      refine ⟨b, dx, fs, e2, e1.fh _ _ e3, e4, F1, Z.p, x, [], r1.now, ra, .nil, O.ok.mono _ _ _ _ _ (fun z hz v F' H' e rz => hz v F' H' (e1.trans e) rz) (fun C fs hz dx F' H' e x => hz dx F' H' (e1.trans e) x) y3⟩
    · obtain ⟨v, H1, I1, rx, b, dx, fs, ex, ea, l, q⟩ := hh
      subst ex
      obtain rfl : u = Value.ref b := rx
      refine getmeth_ok I1 ea O.c O.me l ?_
      exact PySem.W.callWith_K0 (first := [.ref b]) I1.kIn O.me.kp (wpAny_call (run_fs (u := .ref b) (v := .ref b) (ks := []) (ws := []) (zs := []) O.ok hr tk B List.nodup_nil (by decide) I1 rfl .nil rfl q))⟩⟩
end
end Dl

set_option Elab.async false
set_option linter.all false
set_option maxRecDepth 100000
set_option maxHeartbeats 4000000
/-! The fields of a sheet; the dict of keywords. -/
namespace Dl
open PySem PySem.Spec PyProof.Rows L2 Lw
section
variable {X : Cx} {Z : Zn} {W : WX} {e o i f : Expr} {d da db dc : DTE} {pos apos cpos : Pos} {tg : Expr}
/-- x.listed -/
def bListed (C : Addr) : B1 := fun x k => match x with
  | .sh C' ns => C' = C ∧ k (.d (.tuple (ns.map PyData.str)))
  | _ => False
theorem mono_listed {C : Addr} : MonoB1 (bListed C) := fun x k k' hk q => by
  unfold bListed at q ⊢
  split at q
  · exact ⟨q.1, hk _ q.2⟩
  · exact q.elim
theorem de_listed {C : Addr} (SC : ShC X.K C) (h : DE X Z W e d) (hb : attributeBase e "listed" X.env (eval e X.env) = eval e X.env := by rfl) : DE X Z W (.Attribute e "listed" pos) (dUn (bListed C) d) := by
  refine ⟨mono_un mono_listed h.mono, pe_weak (pe_fld h.run hb) fun σ H Q q => ?_⟩
  obtain ⟨F, Γ, r, q⟩ := q
  refine liftE.bind h.mono r q fun x v F1 H1 hx e1 r1 ra => ?_
  unfold bListed at hx
  split at hx
  · rename_i C' ns
    obtain ⟨rfl, hx⟩ := hx
    obtain ⟨b, rfl, dx, t, o, h1, h2, h3, h4⟩ := ra
    exact ⟨b, C', dx, _, .ref t, rfl, e1.fh _ _ h1, SC.c, SC.no, rfl, hx (.ref t) F1 H1 e1 (Dq.tup (.inl (.inr ⟨o, h2⟩)) (strs_dq ns))⟩
  · exact hx.elim
/-- for k in d -/
def iK (d : DTE) : DTI := fun Γ k e => d Γ (fun x => match x with
  | .kd kvs => k (kvs.map fun q => Av.d (.str q.1))
  | _ => False) e
theorem kdR_get {K : PySem.W.Frag} {F : Hp} : ∀ {ws : List (Key × V)} {kvs : List (Str × PyData)} {i : Nat} {k : Key} {v : V}, KdR K F ws kvs → ws[i]? = some (k, v) → ∃ z y, kvs[i]? = some (z, y) ∧ k = Sum.inr z ∧ Dq K F v y
  | _, _, _, _, _, .nil, e => by simp at e
  | _, _, 0, _, _, .cons ⟨h1, h2⟩ _, e => by
    simp at e
    subst e
    exact ⟨_, _, rfl, h1, h2⟩
  | _, _, i + 1, k, v, .cons _ g, e => by
    obtain ⟨z, y, h1, h2⟩ := kdR_get (i := i) (k := k) (v := v) g (by simpa using e)
    exact ⟨z, y, by simpa using h1, h2⟩
theorem kdR_len {K : PySem.W.Frag} {F : Hp} {ws : List (Key × V)} {kvs : List (Str × PyData)} (h : KdR K F ws kvs) : ws.length = kvs.length := Paired.length h
theorem kdR_val {K : PySem.W.Frag} {F : Hp} {z : Str} : ∀ {ws : List (Key × V)} {kvs : List (Str × PyData)}, KdR K F ws kvs → (kvs.lookup z = none ∧ valV ws (Sum.inr z) = none) ∨ ∃ y v, kvs.lookup z = some y ∧ valV ws (Sum.inr z) = some v ∧ Dq K F v y
  | _, _, .nil => .inl ⟨rfl, rfl⟩
  | (k, v) :: ws, (x, y) :: kvs, .cons ⟨h1, h2⟩ g => by
    have h1 : k = Sum.inr x := h1
    subst h1
    by_cases hz : x = z
    · subst hz
      refine .inr ⟨y, v, by simp [List.lookup], ?_, h2⟩
      unfold valV
      rw [List.find?_cons_of_pos (by simp)]
      rfl
    · have e1 : ((x, y) :: kvs).lookup z = kvs.lookup z := by
        have : (z == x) = false := by simpa using fun q : z = x => hz q.symm
        simp [List.lookup, this]
      have e2 : valV ((Sum.inr x, v) :: ws) (Sum.inr z : Key) = valV ws (Sum.inr z) := by
        unfold valV
        rw [List.find?_cons_of_neg (by simpa using hz)]
      rw [e1, e2]
      exact kdR_val g
theorem di_keys (h : DE X Z W e d) : DI X Z W tg e (iK d) := ⟨fun Γ k k' e e' hk he q => h.mono _ _ _ _ _ (fun x z => by
  split at z
  · exact hk _ z
  · exact z.elim) he q, pi_weak (pi_keys h.run) fun σ H R q => by
  obtain ⟨F, Γ, r, q⟩ := q
  refine liftE.bind h.mono r q fun x v F1 H1 hx e1 r1 ra => ?_
  split at hx
  · rename_i kvs
    obtain ⟨b, o, ws, rfl, g1, g2⟩ := ra
    have hl := kdR_len g2
    refine ⟨b, o, rfl, .inl ⟨ws, e1.fh _ _ g1, hx F1 H1 _ e1 ⟨fun i F H hi a s => ⟨a.fh _ _ (s _ _ g1), by rw [List.length_map] at hi; omega⟩, fun F H a s => ⟨a.fh _ _ (s _ _ g1), by rw [List.length_map]; omega⟩, fun i x F H v H' hx a s y => ?_⟩⟩⟩
    obtain ⟨rfl, k, v', hk, rfl⟩ := y
    obtain ⟨z, y, h1, rfl, h3⟩ := kdR_get g2 hk
    rw [List.getElem?_map, h1] at hx
    cases hx
    exact ⟨F, a, Dq.str z⟩
  · exact hx.elim⟩
/-- d[k] -/
def bGet : B2 := fun x y k => match x, y with
  | .kd kvs, .d (.str z) => match kvs.lookup z with
    | some v => k (.d v)
    | none => False
  | _, _ => False
theorem mono_get : MonoB bGet := fun x y k k' hk q => by
  unfold bGet at q ⊢
  split at q
  · split at q
    · exact hk _ q
    · exact q.elim
  · exact q.elim
theorem de_dget (hu : X.A.units + 1 < cLine) (ha : DE X Z W o da) (hb : DE X Z W i db) (hs : NoSl i) : DE X Z W (.Subscript o i pos) (dBin bGet da db) :=
  ⟨mono_bin mono_get ha.mono hb.mono, pe_weak (pe_dget hu ha.run hb.run hs) fun σ H Q q => by
    obtain ⟨F, Γ, r, q⟩ := q
    refine liftE.bind ha.mono r q fun x v F1 H1 hx e1 r1 ra => ?_
    refine liftE.bind hb.mono r1 (hb.mono Γ _ _ _ _ (fun _ z => z) (fun C fs z => z.later e1) hx) fun y w F2 H2 hy e2 r2 rb => ?_
    unfold bGet at hy
    split at hy
    · rename_i kvs z
      obtain ⟨b, ob, ws, rfl, g1, g2⟩ := ra
      cases (show Dq X.K F2 w (.str z) from rb)
      have g1' := e2.fh _ _ (e2.ff _ _ g1)
      rcases kdR_val (z := z) (KdR.same e2.ff g2) with ⟨h1, _⟩ | ⟨y, v, h1, h2, h3⟩
      · rw [h1] at hy
        exact hy.elim
      · rw [h1] at hy
        exact ⟨b, v, rfl, .inl ⟨ws, Sum.inr z, .inr ⟨ob, g1'⟩, rfl, h2.symm⟩, hy v F2 H2 (e1.trans e2) h3⟩
    · exact hy.elim⟩
/-- d.get(k, x) -/
def dGet2 (da db dc : DTE) : DTE := fun Γ k e => da Γ (fun x => match x with
  | .kd kvs => db Γ (fun y => dc Γ (fun w => match y with
    | .d (.str z) => match kvs.lookup z with
      | some v => k (.d v)
      | none => k w
    | _ => False) e) e
  | _ => False) e
theorem de_dget2 (hu : X.A.units + 1 < cLine) (ha : DE X Z W o da) (hb : DE X Z W i db) (hc : DE X Z W f dc) (m : M2 X o "get" apos i f cpos) : DE X Z W (.Call (.Attribute o "get" apos) [i, f] [] cpos) (dGet2 da db dc) := by
  refine ⟨fun Γ k k' e e' hk he q => ha.mono _ _ _ _ _ (fun x z => ?_) he q, pe_weak (pe_dget2 hu ha.run hb.run hc.run m) fun σ H Q q => ?_⟩
  · split at z
    · refine hb.mono _ _ _ _ _ (fun y z => hc.mono _ _ _ _ _ (fun w z => ?_) he z) he z
      split at z
      · split at z
        · exact hk _ z
        · exact hk _ z
      · exact z.elim
    · exact z.elim
  · obtain ⟨F, Γ, r, q⟩ := q
    refine liftE.bind ha.mono r q fun x v F1 H1 hx e1 r1 ra => ?_
    split at hx
    · rename_i kvs
      obtain ⟨b, ob, ws, rfl, g1, g2⟩ := ra
      refine ⟨b, rfl, .inl ⟨ws, .inr ⟨ob, e1.fh _ _ g1⟩⟩, ?_⟩
      refine liftE.bind hb.mono r1 (hb.mono Γ _ _ _ _ (fun _ z => z) (fun C fs z => z.later e1) hx) fun y w F2 H2 hy e2 r2 rb => ?_
      refine liftE.bind hc.mono r2 (hc.mono Γ _ _ _ _ (fun _ z => z) (fun C fs z => (z.later e1).later e2) hy) fun u t F3 H3 hu e3 r3 rc => ?_
      have ee := (e1.trans e2).trans e3
      split at hu
      · rename_i z
        cases (show Dq X.K F2 w (.str z) from rb)
        have g1' := e3.fh _ _ (e3.ff _ _ (e2.ff _ _ g1))
        rcases kdR_val (z := z) (KdR.same e3.ff (KdR.same e2.ff g2)) with ⟨h1, h2⟩ | ⟨y, v, h1, h2, h3⟩
        · rw [h1] at hu
          exact ⟨none, .inl ⟨ws, Sum.inr z, .inr ⟨ob, g1'⟩, rfl, h2.symm⟩, hu t F3 H3 ee rc⟩
        · rw [h1] at hu
          exact ⟨some v, .inl ⟨ws, Sum.inr z, .inr ⟨ob, g1'⟩, rfl, h2.symm⟩, hu v F3 H3 ee h3⟩
      · exact hu.elim
    · exact hx.elim
end
end Dl

set_option Elab.async false
set_option linter.all false
set_option maxRecDepth 100000
set_option maxHeartbeats 4000000
/-! A name = a list comprehension; methods of built-in values. -/
namespace Dl
open PySem PySem.Spec PyProof.Rows L2 Lw
section
variable {X : Cx} {Z : Zn} {W : WX} {tg : Expr}
theorem ps_lcF {i : Nat} {y : Str} {py spos : Pos} {elt iter : Expr} {ifs : List Expr} {scope : Scope} {own : List (Str × Nat)} {pos : Pos} {it : DTI} {g : DTG} {t : DTT} {d : DTE} {ss : List Nat} (hc : X.calm = true) (hN : X.N.Nodup) (hy : X.N[i]? = some y) (hyl : X.env.scope.names.lookup y = some .local)
    (hsw : swapsWith (.ListComp elt [⟨tg, iter, ifs, 0⟩] scope pos) (some (.Name y py)) spos.line X.env = pure true) (hi : DI X Z W tg iter it) (ok : BlkOk X.N X.env.scope scope own)
    (hg : ∀ (s : Shared) (H : Hp) (C : Addr) (cl : List (Str × Addr)) (fp : List Addr) (G : Hp), DG (X.blk s H scope (compEnvC scope cl C X.env) fp) (Z.at_ G) tg ss g)
    (ht : ∀ (s : Shared) (H : Hp) (C : Addr) (cl : List (Str × Addr)) (fp : List Addr) (G : Hp), DTs (X.blk s H scope (compEnvC scope cl C X.env) fp) (Z.at_ G) W0 ifs t)
    (he : ∀ (s : Shared) (H : Hp) (C : Addr) (cl : List (Str × Addr)) (fp : List Addr) (G : Hp), DE (X.blk s H scope (compEnvC scope cl C X.env) fp) (Z.at_ G) W0 elt d)
    (hss : ∀ s ∈ ss, s ∈ own.map (·.2)) (hs : ∀ x, foldedSetIterable iter X.env x = pure x) : PS X (.Assign [.Name y py] (.ListComp elt [⟨tg, iter, ifs, 0⟩] scope pos) spos) (tAsg (liftF X.K Z W (fLc it g t d (own.map (·.2)))) (gName i)) := by
  have mg := (hg X.s_0 (fun _ => none) 0 [] [] (fun _ => none)).mono
  have mt := (ht X.s_0 (fun _ => none) 0 [] [] (fun _ => none)).mono
  have md := (he X.s_0 (fun _ => none) 0 [] [] (fun _ => none)).mono
  refine ps_weak (ps_setLc (g := fun v σ H Q => ∃ G, liftG X.K (Z.at_ G) ss g v σ H Q) (tt := fun σ H Q => ∃ G, liftT X.K (Z.at_ G) W0 t σ H Q) (te := fun σ H Q => ∃ G, liftE X.K (Z.at_ G) W0 d σ H Q) hc hN hy hyl hsw hi.run ok (fun s H C cl fp => ⟨fun pins s' σ H' v u Q I r q => ?_⟩) (fun s H C cl fp => ⟨fun pins s' σ H' Q I q => ?_⟩) (fun s H C cl fp => ⟨fun pins s' σ H' Q I q => ?_⟩) hs) fun D σ H q => df_lc_core hi.mono mg mt md hss q
  · obtain ⟨G, q⟩ := q
    exact (hg s H C cl fp G).run.run pins s' σ H' v u Q I r q
  · obtain ⟨G, q⟩ := q
    exact (ht s H C cl fp G).run.run pins s' σ H' Q I q
  · obtain ⟨G, q⟩ := q
    exact (he s H C cl fp G).run.run pins s' σ H' Q I q
theorem ds_ownLc {i : Nat} {y : Str} {py spos : Pos} {elt iter : Expr} {ifs : List Expr} {scope : Scope} {own : List (Str × Nat)} {pos : Pos} {it : DTI} {g : DTG} {t : DTT} {d : DTE} {ss : List Nat} (hc : X.calm = true) (hN : X.N.Nodup) (hy : X.N[i]? = some y) (hyl : X.env.scope.names.lookup y = some .local)
    (hsw : swapsWith (.ListComp elt [⟨tg, iter, ifs, 0⟩] scope pos) (some (.Name y py)) spos.line X.env = pure true) (hi : DI X Z W tg iter it) (ok : BlkOk X.N X.env.scope scope own)
    (hg : ∀ (s : Shared) (H : Hp) (C : Addr) (cl : List (Str × Addr)) (fp : List Addr) (G : Hp), DG (X.blk s H scope (compEnvC scope cl C X.env) fp) (Z.at_ G) tg ss g)
    (ht : ∀ (s : Shared) (H : Hp) (C : Addr) (cl : List (Str × Addr)) (fp : List Addr) (G : Hp), DTs (X.blk s H scope (compEnvC scope cl C X.env) fp) (Z.at_ G) W0 ifs t)
    (he : ∀ (s : Shared) (H : Hp) (C : Addr) (cl : List (Str × Addr)) (fp : List Addr) (G : Hp), DE (X.blk s H scope (compEnvC scope cl C X.env) fp) (Z.at_ G) W0 elt d)
    (hss : ∀ s ∈ ss, s ∈ own.map (·.2) := by decide) (hs : ∀ x, foldedSetIterable iter X.env x = pure x := by intro _; rfl) : DS X Z W (.Assign [.Name y py] (.ListComp elt [⟨tg, iter, ifs, 0⟩] scope pos) spos) (sOwn i (fLc it g t d (own.map (·.2)))) :=
  ds_own_of (df_lc (pos := pos) hc hN hi ok hg ht he hss hs) (ps_lcF hc hN hy hyl hsw hi ok hg ht he hss hs)
theorem ds_setLc {i : Nat} {y : Str} {py spos : Pos} {elt iter : Expr} {ifs : List Expr} {scope : Scope} {own : List (Str × Nat)} {pos : Pos} {it : DTI} {g : DTG} {t : DTT} {d : DTE} {ss : List Nat} (hc : X.calm = true) (hN : X.N.Nodup) (hy : X.N[i]? = some y) (hyl : X.env.scope.names.lookup y = some .local)
    (hsw : swapsWith (.ListComp elt [⟨tg, iter, ifs, 0⟩] scope pos) (some (.Name y py)) spos.line X.env = pure true) (hi : DI X Z W tg iter it) (ok : BlkOk X.N X.env.scope scope own)
    (hg : ∀ (s : Shared) (H : Hp) (C : Addr) (cl : List (Str × Addr)) (fp : List Addr) (G : Hp), DG (X.blk s H scope (compEnvC scope cl C X.env) fp) (Z.at_ G) tg ss g)
    (ht : ∀ (s : Shared) (H : Hp) (C : Addr) (cl : List (Str × Addr)) (fp : List Addr) (G : Hp), DTs (X.blk s H scope (compEnvC scope cl C X.env) fp) (Z.at_ G) W0 ifs t)
    (he : ∀ (s : Shared) (H : Hp) (C : Addr) (cl : List (Str × Addr)) (fp : List Addr) (G : Hp), DE (X.blk s H scope (compEnvC scope cl C X.env) fp) (Z.at_ G) W0 elt d)
    (hss : ∀ s ∈ ss, s ∈ own.map (·.2) := by decide) (hs : ∀ x, foldedSetIterable iter X.env x = pure x := by intro _; rfl) : DS X Z W (.Assign [.Name y py] (.ListComp elt [⟨tg, iter, ifs, 0⟩] scope pos) spos) (sSet i (dOfF (fLc it g t d (own.map (·.2))))) := by
  have f := df_lc (pos := pos) hc hN hi ok hg ht he hss hs
  exact ds_set_of (de_f f) (ps_weak (ps_lcF hc hN hy hyl hsw hi ok hg ht he hss hs) fun D σ H q => liftF.of f.mono q)
/-! ## methods of lists and texts -/
abbrev BM := Av → List Av → (Av → Prop) → Prop
def MonoM (b : BM) : Prop := ∀ x xs (k k' : Av → Prop), (∀ z, k z → k' z) → b x xs k → b x xs k'
def liftM (K : PySem.W.Frag) (b : BM) : V → List V → Hp → VK → Prop := fun v vs H Q => ∃ p F x xs, At p F H ∧ Ra K p F x v ∧ RaL K p F xs vs ∧ b x xs (fun z => ∀ w F' H', Ext p F H F' H' → Ra K p F' z w → Q w H')
def isLst : Av → Prop
  | .d (.list _) => True
  | _ => False
def isTxt : Av → Prop
  | .d (.str _) => True
  | _ => False
def dBm (ty : Av → Prop) (b : BM) (d : DTE) (da : DTA) : DTE := fun Γ k e => d Γ (fun x => ty x ∧ da Γ (fun xs => b x xs k) e) e
theorem de_bm {T : String} {name : Str} {id : String} {ty : Av → Prop} {b : BM} {o e : Expr} {es : List Expr} {d : DTE} {da : DTA} {apos cpos : Pos} (pa : PlainAttrs T) (slot : Slot T name id) (hty : typeOf (.builtin id) = pure (.type "method_descriptor")) (hm : MtR X id (liftM X.K b)) (mb : MonoM b)
    (hT : ∀ p F H x v, At p F H → Ra X.K p F x v → ty x → tyV X.K T v H) (ho : DE X Z W o d) (ha : DA X Z W (e :: es) da)
    (hbase : attributeBase o name X.env (eval o X.env) = eval o X.env := by rfl)
    (hfew : ((backTo cpos (starEach (e :: es) X.env)).all (fun x => !x.1) && (backToKw cpos (keywordEach [] X.env)).all (fun x => x.1.isSome)
      && decide ((e :: es).length + ([] : List Keyword).length + (if ([] : List Keyword).isEmpty then 0 else 1) < 30)) = true := by rfl)
    (hline : (apos.endLine == cpos.line) = true := by rfl) (hs : starEach (e :: es) X.env = (false, eval e X.env) :: starEach es X.env := by rfl) (hplain : (backTo cpos (starEach es X.env)).any (·.1) = false := by rfl) :
    DE X Z W (.Call (.Attribute o name apos) (e :: es) [] cpos) (dBm ty b d da) := by
  refine ⟨fun Γ k k' e e' hk he q => ho.mono _ _ _ _ _ (fun x z => ⟨z.1, ha.mono _ _ _ _ _ (fun xs z => mb _ _ _ _ hk z) he z.2⟩) he q, pe_weak (pe_bm pa slot hty hm ho.run ha.run hbase hfew hline hs hplain) fun σ H Q q => ?_⟩
  obtain ⟨F, Γ, r, q⟩ := q
  refine liftE.bind ho.mono r q fun x v F1 H1 hx e1 r1 ra => ?_
  refine ⟨hT _ _ _ _ _ r1.now ra hx.1, liftA.bind ha.mono r1 (ha.mono Γ _ _ _ _ (fun _ z => z) (fun C fs z => z.later e1) hx.2) fun xs vs F2 H2 hy e2 r2 rb => ?_⟩
  exact ⟨Z.p, F2, x, xs, r2.now, ra.same e2.ff, rb, mb _ _ _ _ (fun z hz w' F' H' e' rz => hz w' F' H' ((e1.trans e2).trans e') rz) hy⟩
theorem ty_lst {K : PySem.W.Frag} : ∀ p F H x v, At p F H → Ra K p F x v → isLst x → tyV K "list" v H := fun p F H x v a ra h => by
  cases x with
  | d y =>
    cases y with
    | list ds =>
      have ra : Dq K F v (.list ds) := ra
      cases ra with
      | lst h1 h2 => exact .inl ⟨rfl, _, a.fh.seq h1⟩
    | _ => exact h.elim
  | _ => exact h.elim
theorem ty_txt {K : PySem.W.Frag} : ∀ p F H x v, At p F H → Ra K p F x v → isTxt x → tyV K "str" v H := fun p F H x v a ra h => by
  cases x with
  | d y =>
    cases y with
    | str z =>
      cases (show Dq K F v (.str z) from ra)
      exact rfl
    | _ => exact h.elim
  | _ => exact h.elim
/-- l.index(x) -/
def idxD (x : PyData) (ds : List PyData) : Option Nat := ds.findIdx? fun y => PyData.eqv y x
def bmIndex : BM := fun x xs k => match x, xs with
  | .d (.list ds), [.d y] => flatD y = true ∧ ds.all flatD = true ∧ match idxD y ds with
    | some j => k (.d (.int (j : Nat)))
    | none => False
  | _, _ => False
theorem mono_index : MonoM bmIndex := fun x xs k k' hk q => by
  unfold bmIndex at q ⊢
  split at q
  · refine ⟨q.1, q.2.1, ?_⟩
    have q3 := q.2.2
    split at q3
    · exact hk _ q3
    · exact q3.elim
  · exact q.elim
theorem dq_at {K : PySem.W.Frag} {F : Hp} {vs : List V} {ds : List PyData} {i : Nat} {d : PyData} (g : DqAll K F vs ds) (h : ds[i]? = some d) : ∃ v, vs[i]? = some v ∧ Dq K F v d := by
  have hl := dq_len g
  have hi := (List.getElem?_eq_some_iff.mp h).1
  have hv : vs[i]? = some (vs[i]'(by omega)) := List.getElem?_eq_getElem (by omega)
  obtain ⟨d', h1, h2⟩ := dq_get g hv
  rw [h] at h1
  cases h1
  exact ⟨_, hv, h2⟩
theorem ma_index : MtR X "list.index" (liftM X.K bmIndex) := by
  intro pins s σ H x xs v us Q I rx rxs h
  obtain ⟨p, F, ax, axs, a, ra, ras, q⟩ := h
  unfold bmIndex at q
  split at q
  · rename_i ds y
    cases ras with
    | cons h1 g =>
      cases g
      have h1 : Dq X.K F _ y := h1
      have ra : Dq X.K F x (.list ds) := ra
      cases ra with
      | lst h2 g2 =>
        obtain ⟨f1, f2, q⟩ := q
        split at q
        · rename_i j hj
          obtain ⟨hjl, e1, e2⟩ := List.findIdx?_eq_some_iff_getElem.mp hj
          have hd : ds[j]? = some ds[j] := List.getElem?_eq_getElem hjl
          obtain ⟨z, hz, rz⟩ := dq_at g2 hd
          have fl : ∀ {d : PyData}, d ∈ ds → flatD d = true := fun {d} hd => List.all_eq_true.mp f2 d hd
          refine mt_index pins s σ H _ _ v us Q I rx rxs ⟨_, _, _, j, z, rfl, rfl, a.fh.seq h2, by rw [flat_dq h1]; exact f1, by rw [flat_all g2]; exact f2, hz, ?_, fun m z' hm hz' => ?_, q _ F H a (Dq.int _)⟩
          · rw [eqv_flat rz h1 (fl (List.mem_of_getElem? hd)) f1]
            exact e1
          · obtain ⟨d', h3, h4⟩ := dq_get g2 hz'
            rw [eqv_flat h4 h1 (fl (List.mem_of_getElem? h3)) f1]
            obtain ⟨h5, h6⟩ := List.getElem?_eq_some_iff.mp h3
            have := e2 m hm
            rw [h6] at this
            simpa using this
        · exact q.elim
  · exact q.elim
end
end Dl

set_option Elab.async false
set_option linter.all false
set_option maxRecDepth 100000
set_option maxHeartbeats 4000000
/-! Constants of the module; a < b < c; try with less told. -/
namespace Dl
open PySem PySem.Spec PyProof.Rows L2 Lw
section
variable {X : Cx} {Z : Zn} {W : WX} {x : Str} {pos : Pos}
theorem de_giC {i : Int} (h : ∃ t, X.mg x = some (.int i t)) (hg : Gl X x := by rfl) (hd : (x == ("__debug__" : Str)) = false := by decide) : DE X Z W (.Name x pos) (dC (.d (.int i))) := de_gi (pe_gi h hg hd)
theorem de_gsC {z : Str} (h : ∃ t, X.mg x = some (.str z t)) (hg : Gl X x := by rfl) (hd : (x == ("__debug__" : Str)) = false := by decide) : DE X Z W (.Name x pos) (dC (.d (.str z))) := de_gs (pe_gs h hg hd)
def dChain (b b' : B2) (da db dc : DTE) : DTE := fun Γ k e => da Γ (fun x => db Γ (fun y => b x y (fun z => match z with
  | .d (.bool true) => dc Γ (fun w => b' y w k) e
  | .d (.bool false) => k (.d (.bool false))
  | _ => False)) e) e
theorem mono_chain {b b' : B2} {da db dc : DTE} (mb : MonoB b) (mb' : MonoB b') (h1 : MonoE da) (h2 : MonoE db) (h3 : MonoE dc) : MonoE (dChain b b' da db dc) := fun Γ k k' e e' hk he q =>
  h1 _ _ _ _ _ (fun x q => h2 _ _ _ _ _ (fun y q => mb _ _ _ _ (fun z q => by
    split at q
    · exact h3 _ _ _ _ _ (fun w q => mb' _ _ _ _ hk q) he q
    · exact hk _ q
    · exact q.elim) q) he q) he q
theorem lift_chain {b b' : B2} {da db dc : DTE} {ea eb ec : Expr} {σ : L2.St} {H : Hp} {Q : VK} (ha : DE X Z W ea da) (hb : DE X Z W eb db) (hc : DE X Z W ec dc) (mb : MonoB b) (mb' : MonoB b') (q : liftE X.K Z W (dChain b b' da db dc) σ H Q) :
    tChain (liftR X.K b) (liftR X.K b') (liftE X.K Z W da) (liftE X.K Z W db) (liftE X.K Z W dc) σ H Q := by
  obtain ⟨F, Γ, r, q⟩ := q
  refine liftE.bind ha.mono r q fun x v F1 H1 hx e1 r1 ra => ?_
  refine liftE.bind hb.mono r1 (hb.mono Γ _ _ _ _ (fun _ z => z) (fun C fs z => z.later e1) hx) fun y w F2 H2 hy e2 r2 rb => ?_
  refine ⟨Z.p, F2, x, y, r2.now, ra.same e2.ff, rb, mb x y _ _ (fun z hz u F3 H3 e3 rz => ?_) hy⟩
  split at hz
  · cases (show Dq X.K F3 u (.bool true) from rz)
    refine ⟨true, rfl, ?_⟩
    refine liftE.bind hc.mono (r2.step e3) (hc.mono Γ _ _ _ _ (fun _ z => z) (fun C fs z => ((z.later e1).later e2).later e3) hz) fun t ut F4 H4 ht e4 r4 rt => ?_
    exact ⟨Z.p, F4, y, t, r4.now, (rb.same e3.ff).same e4.ff, rt, mb' y t _ _ (fun z hz w' F' H' e' rz => hz w' F' H' ((((e1.trans e2).trans e3).trans e4).trans e') rz) ht⟩
  · cases (show Dq X.K F3 u (.bool false) from rz)
    exact ⟨false, rfl, hz _ F3 H3 ((e1.trans e2).trans e3) (Dq.bl false)⟩
  · exact hz.elim
theorem de_chain {op op' : CmpOp} {b b' : B2} {da db dc : DTE} {ea eb ec : Expr} (ho : OpR X (compareOp op) (liftR X.K b)) (mb : MonoB b) (ho' : OpR X (compareOp op') (liftR X.K b')) (mb' : MonoB b') (ha : DE X Z W ea da) (hb : DE X Z W eb db) (hc : DE X Z W ec dc)
    (hm : lastMarks [op, op'] [eb, ec] = false := by with_unfolding_all rfl) : DE X Z W (.Compare ea [op, op'] [eb, ec] pos) (dChain b b' da db dc) :=
  ⟨mono_chain mb mb' ha.mono hb.mono hc.mono, pe_weak (pe_chain ho ho' ha.run hb.run hc.run hm) fun σ H Q q => lift_chain ha hb hc mb mb' q⟩
theorem dt_chain {op op' : CmpOp} {b b' : B2} {da db dc : DTE} {ea eb ec : Expr} (ho : OpR X (compareOp op) (liftR X.K b)) (mb : MonoB b) (ho' : OpR X (compareOp op') (liftR X.K b')) (mb' : MonoB b') (ha : DE X Z W ea da) (hb : DE X Z W eb db) (hc : DE X Z W ec dc)
    (hm : lastMarks [op, op'] [eb, ec] = false := by with_unfolding_all rfl) : DT X Z W (.Compare ea [op, op'] [eb, ec] pos) (dB (dChain b b' da db dc)) :=
  ⟨mono_b (mono_chain mb mb' ha.mono hb.mono hc.mono), pt_weak (pt_chain ho ho' ha.run hb.run hc.run hm) fun σ H Q q => by
    have h := lift_b (de_chain (pos := pos) ho mb ho' mb' ha hb hc hm) q
    exact lift_chain (X := X) ha hb hc mb mb' h⟩
end
section
variable {X : Cx} {Z : Zn} {W : WX} {x n x1 x2 : Str} {c c1 c2 : Value} {i : Nat} {body u1 u2 : List Stmt} {v1 v2 : Stmt} {q1 q2 p1 p2 pos : Pos} {b : DTS} {t t1 t2 : DTX}
theorem ds_try1M {K : PySem.W.Frag} (hK : X.K = K) (hs : X.stack = X.env :: X.outer) (hf : X.env.frame = some X.env.locals) (hN : X.N.Nodup) (hi : X.N[i]? = some n) (hl : X.env.kindOf n = some .local) (hc : Names X x c) (tk : Takes X W)
    (hb : ∀ (W : WX) (pn : List (Addr × Obj)) (xe : Value → Shared → Prop), Takes (X.tr pn xe) W → DSs (X.tr pn xe) Z W body b) (h1 : DX X Z (v1 :: u1) t) :
    DS X Z W (.Try body [.ExceptHandler (some (.Name x q1)) (some n) (v1 :: u1) p1] [] [] pos) (dTry1 K c i b t) := by
  subst hK
  exact ds_try1 hs hf hN hi hl hc tk hb h1 (hb W0 [] X.xe takes0).mono
theorem ds_try2M {K : PySem.W.Frag} (hK : X.K = K) (hs : X.stack = X.env :: X.outer) (hf : X.env.frame = some X.env.locals) (hN : X.N.Nodup) (hi : X.N[i]? = some n) (hl : X.env.kindOf n = some .local) (hc1 : Names X x1 c1) (hc2 : Names X x2 c2)
    (hb : ∀ (W : WX) (pn : List (Addr × Obj)) (xe : Value → Shared → Prop), Takes (X.tr pn xe) W → DSs (X.tr pn xe) Z W body b) (h1 : DX X Z (v1 :: u1) t1) (h2 : DX X Z (v2 :: u2) t2) :
    DS X Z W (.Try body [.ExceptHandler (some (.Name x1 q1)) (some n) (v1 :: u1) p1, .ExceptHandler (some (.Name x2 q2)) (some n) (v2 :: u2) p2] [] [] pos) (dTry2 K c1 c2 i b t1 t2) := by
  subst hK
  exact ds_try2 hs hf hN hi hl hc1 hc2 hb h1 h2 (hb W0 [] X.xe takes0).mono
end
/-- x, y = a, b -/
theorem ds_par {X : Cx} {Z : Zn} {W : WX} {i j : Nat} {x y : Str} {a b : Expr} {d : DTA} {px py pt pos : Pos} {kt k2 : Nat} {pt2 : Pos} (hc : X.calm = true) (hN : X.N.Nodup) (hi : X.N[i]? = some x) (hj : X.N[j]? = some y) (hij : i ≠ j)
    (hx : X.env.scope.names.lookup x = some .local) (hy : X.env.scope.names.lookup y = some .local) (ha : DA X Z W [a, b] d)
    (hw : swappedStores [.Tuple [.Name x px, .Name y py] kt pt] (.Tuple [a, b] k2 pt2) X.env = pure (some [x, y]))
    (hs : swapsWithSole [.Tuple [.Name x px, .Name y py] kt pt] (.Tuple [a, b] k2 pt2) pos.line X.env = pure false := by rfl) :
    DS X Z W (.Assign [.Tuple [.Name x px, .Name y py] kt pt] (.Tuple [a, b] k2 pt2) pos) (sPar i j d) := ds_par_of ha (ps_par hc hN hi hj hij hx hy ha.run hw hs)
/-- the binding of a def with ** -/
theorem bindsS_of {K : PySem.W.Frag} {x qual : Str} {params : Arguments} {body : List Stmt} {scope : Scope} {f : Addr} {fd : FuncData} {p1 pk : Str} {ks : List Str} (F : FunD K x qual params body scope [] [] f fd)
    (h : ∀ (kV doc pm : Value) (an : Option Addr) (cdv ct u : Value) (ws : List Value), ws.length = ks.length → bindArgs (PySem.W.fnOf x qual params body scope .none kV doc pm an cdv ct) ⟨[u], ks.zip ws⟩ =
      ((alloc (PySem.W.dictOf [] 0) : Sem Addr) >>= fun d => forIn (ks.zip ws) PUnit.unit (fun x _ => (nsSet d x.1 x.2 >>= fun _ => pure (ForInStep.yield PUnit.unit))) >>= fun _ => pure [(p1, u), (pk, Value.ref d)])) : BindsS fd p1 pk ks := by
  obtain ⟨oc, od, dV, kV, doc, pm, an, cdv, ct, osl, rfl, lk, hcd, hD, hK⟩ := F.ex
  rcases hD with ⟨_, rfl⟩ | ⟨e, _⟩
  · exact fun u ws hl => h kV doc pm an cdv ct u ws hl
  · exact absurd rfl e
end Dl

set_option Elab.async false
set_option linter.all false
set_option maxRecDepth 100000
set_option maxHeartbeats 4000000
/-! Promises over data; older pieces taken over. -/
namespace Dl
open PySem PySem.Spec PyProof.Rows L2 Lw
/-- one argument, one answer -/
def aOne (ok : PyData → Prop) (g : PyData → PyData) : ASp := fun xs k _ => ∃ d, xs = [.d d] ∧ ok d ∧ k (.d (g d))
theorem sp_one {ok : PyData → Prop} {g : PyData → PyData} : SpOk 1 (aOne ok g) := ⟨fun xs k k' e e' hk _ ⟨d, h1, h2, h3⟩ => ⟨d, h1, h2, hk _ h3⟩, fun xs k e ⟨d, h1, _⟩ => by rw [h1]; rfl⟩
def aDraw : ASp := fun xs k _ => ∃ n : Int, xs = [.pot, .d (.int n)] ∧ 0 < n ∧ n < 1606938044258990275541962092341162602522202993782792835301376 ∧ ∀ r : Int, 0 ≤ r → r < n → k (.d (.int r))
theorem sp_draw' : SpOk 2 aDraw := ⟨fun xs k k' e e' hk _ ⟨n, h1, h2, h3, h4⟩ => ⟨n, h1, h2, h3, fun r a b => hk _ (h4 r a b)⟩, fun xs k e ⟨n, h1, _⟩ => by rw [h1]; rfl⟩
def aMixed : ASp := fun xs k _ => ∃ ds : List PyData, xs = [.pot, .d (.list ds)] ∧ ds.length ≤ 100 ∧ ∀ es : List PyData, es.Perm ds → k (.d (.list es))
theorem sp_mixed' : SpOk 2 aMixed := ⟨fun xs k k' e e' hk _ ⟨n, h1, h2, h3⟩ => ⟨n, h1, h2, fun r a => hk _ (h3 r a)⟩, fun xs k e ⟨n, h1, _⟩ => by rw [h1]; rfl⟩
theorem Ext.ofOff {a : Addr} {F H H' : Hp} (x : At (some a) F H) (o : Off a H H') (p : PotAt H' a) : Ext (some a) F H F H' := by
  obtain ⟨_, pa⟩ := x.pot a rfl
  have key : ∀ b u, b ≠ a → H b = some u → H' b = some u := fun b u n e => o.get e n
  refine ⟨fun _ _ e => e, fun b u e => ?_, fun b u n e => key b u (fun z => n (z ▸ rfl)) e, fun _ _ e => e, fun c e => ?_⟩
  · have n : b ≠ a := fun z => by
      rw [z, pa] at e
      cases e
    exact key b u n (x.fh _ _ e)
  · cases e
    exact ⟨p, pa⟩
theorem perm_dq {K : PySem.W.Frag} {F : Hp} {ys xs : List V} (p : ys.Perm xs) : ∀ {ds : List PyData}, DqAll K F xs ds → ∃ es : List PyData, es.Perm ds ∧ DqAll K F ys es := by
  induction p with
  | nil => exact fun {ds} g => ⟨ds, .refl _, g⟩
  | cons x p ih =>
    intro ds g
    cases g with
    | cons h g =>
      obtain ⟨es, q1, q2⟩ := ih g
      exact ⟨_ :: es, .cons _ q1, .cons h q2⟩
  | swap x y l =>
    intro ds g
    cases g with
    | cons h g =>
      cases g with
      | cons h2 g => exact ⟨_, .swap _ _ _, .cons h2 (.cons h g)⟩
  | trans p q ihp ihq =>
    intro ds g
    obtain ⟨es, q1, q2⟩ := ihq g
    obtain ⟨fs, q3, q4⟩ := ihp q2
    exact ⟨fs, q3.trans q1, q4⟩
section
variable {P : Program} {w : World} {K : PySem.W.Frag} {mg : Str → Option Value} {base : Heap} {k : Nat} {f : Addr} {fd : FuncData} {ps : List Str} {x : Str} {a : ASp} {g : Bool}
theorem oz_of {sp : Sp} (O : Own P w K mg base CX0 k x ps sp f fd) (m : SpOk ps.length a) (h : ∀ vs H Q E, spZ K a vs H Q E → sp vs H Q E) : OZ P w K mg base false k x ps a f fd := ⟨FZ.of0 O.ok m h, O.m, O.kp, O.b⟩
theorem oz_draw {pa pb : Str} (O : Own P w K mg base CX0 k x [pa, pb] sp_draw f fd) : OZ P w K mg base false k x [pa, pb] aDraw f fd := oz_of O sp_draw' fun vs H Q E h => by
  obtain ⟨F, p, xs, at_, ra, n, rfl, h1, h2, h3⟩ := h
  cases ra with
  | cons r1 g1 =>
    cases g1 with
    | cons r2 g2 =>
      cases g2
      obtain ⟨a, rfl, rfl⟩ := r1
      cases (show Dq K F _ (.int n) from r2)
      exact ⟨a, n, rfl, (at_.pot a rfl).1, h1, h2, fun r H' q1 q2 q3 q4 => h3 r q1 q2 _ F H' (Ext.ofOff at_ q4 q3) (Dq.int r)⟩
theorem oz_name {pa : Str} (O : Own P w K mg base CX0 k x [pa] (sp_name K) f fd) : OZ P w K mg base false k x [pa] (aOne Short fun d => .bool (nameD d)) f fd := oz_of O sp_one fun vs H Q E h => by
  obtain ⟨F, p, xs, at_, ra, d, rfl, h1, h2⟩ := h
  cases ra with
  | cons r1 g1 =>
    cases g1
    exact ⟨_, d, rfl, Dq.same at_.fh r1, h1, fun H' s => h2 _ F H' (Ext.of_same at_ s) (Dq.bl _)⟩
theorem oz_int {pa : Str} (O : Own P w K mg base CX0 k x [pa] (sp_int K) f fd) : OZ P w K mg base false k x [pa] (aOne (fun _ => True) fun d => .bool (intD d)) f fd := oz_of O sp_one fun vs H Q E h => by
  obtain ⟨F, p, xs, at_, ra, d, rfl, h1, h2⟩ := h
  cases ra with
  | cons r1 g1 =>
    cases g1
    exact ⟨_, d, rfl, Dq.same at_.fh r1, h2 _ F H at_ (Dq.bl _)⟩
theorem oz_mixed {pa pb : Str} (O : Own P w K mg base CX0 k x [pa, pb] (sp_mixed K) f fd) : OZ P w K mg base false k x [pa, pb] aMixed f fd := oz_of O sp_mixed' fun vs H Q E h => by
  obtain ⟨F, p, xs, at_, ra, ds, rfl, h1, h2⟩ := h
  cases ra with
  | cons r1 g1 =>
    cases g1 with
    | cons r2 g2 =>
      cases g2
      obtain ⟨a, rfl, rfl⟩ := r1
      have r2 : Dq K F _ (.list ds) := r2
      cases r2 with
      | lst q1 q2 =>
        obtain ⟨pa, fa⟩ := at_.pot a rfl
        have sF : Same F (off H a) := fun b o e => by
          have n : b ≠ a := fun z => by
            rw [z, fa] at e
            cases e
          rw [off_ne n]
          exact at_.fh _ _ e
        refine ⟨a, _, _, rfl, pa, at_.fh.seq q1, sF.seq q1, by rw [dq_len q2]; exact h1, fun m ys H' q3 q4 nm hm pm => ?_⟩
        obtain ⟨es, pe, ge⟩ := perm_dq pm q2
        have e1 := Ext.ofOff at_ q4 q3
        have nF : F m = none := by
          cases e : F m with
          | none => rfl
          | some u =>
            rw [at_.fh _ _ e] at nm
            cases nm
        have e2 : Ext (some a) F H (upd F m (.lst ys)) H' := by
          refine ⟨same_upd nF, fun b u e => ?_, e1.keep, fun b hb e => ?_, fun c e => ?_⟩
          · by_cases hb : b = m
            · subst hb
              rw [upd_same] at e
              rw [hm]
              exact e
            · rw [upd_ne hb] at e
              exact e1.fh _ _ e
          · have hb : b ≠ m := fun z => hb (z ▸ nm)
            rw [upd_ne hb]
            exact e
          · cases e
            have na : a ≠ m := fun z => by
              subst z
              exact pot_some pa nm
            rw [upd_ne na]
            exact ⟨q3, fa⟩
        exact h2 es pe _ _ _ e2 (.lst (.inl (.inl upd_same)) (DqAll.same (same_upd nF) ge))
end
end Dl

set_option Elab.async false
set_option linter.all false
/-! The readings, unfolded. -/
namespace Dl
open PySem PySem.Spec PyProof.Rows L2 Lw
theorem frz_nil : frz [] = [] := rfl
theorem frz_cons {s : Sl} {Γ : Gm} : frz (s :: Γ) = s.frz :: frz Γ := rfl
theorem frz_va {x : Av} : Sl.frz (.va x) = .va x := rfl
theorem frz_no : Sl.frz .no = .no := rfl
theorem frz_own {xs : List PyData} : Sl.frz (.ow xs) = .va (.d (.list xs)) := rfl
theorem startG_eq {N : List Str} {xs : List Av} : startG N xs = xs.map Sl.va ++ List.replicate (N.length - xs.length) Sl.no := rfl
theorem line_lit {n : Nat} (h : n ≤ 1000) : (n ≤ sizeLine) = True := eq_true (Nat.le_trans h (by decide))
theorem eqOk_int {i j : Int} : (eqOk (.int i) (.int j)) = true := rfl
theorem eqOk_str {x y : Str} : (eqOk (.str x) (.str y)) = true := rfl
theorem eqv_int {i j : Int} : (PyData.int i).eqv (.int j) = decide (i = j) := rfl
theorem eqv_str {x y : Str} : (PyData.str x).eqv (.str y) = decide (x = y) := by
  show (x == y) = _
  by_cases h : x = y
  · subst h
    simp
  · rw [decide_eq_false h]
    exact beq_eq_false_iff_ne.mpr h
theorem draw_ok {n : Int} {k : Av → Prop} {e : ER} (h0 : 0 < n) (h1 : n < 1606938044258990275541962092341162602522202993782792835301376) (h : ∀ r : Int, 0 ≤ r → r < n → k (.d (.int r))) : aDraw [.pot, .d (.int n)] k e := ⟨n, rfl, h0, h1, h⟩
/-! ## places -/
theorem atI_mem {α : Type} {xs : List α} {i : Int} {z : α} (h : atI xs i = some z) : z ∈ xs := by
  unfold atI at h
  obtain ⟨j, _, h2⟩ := Option.bind_eq_some_iff.mp h
  exact List.mem_of_getElem? h2
theorem atI_pos {α : Type} {xs : List α} {i : Int} (h0 : 0 ≤ i) (h1 : i < xs.length) : atI xs i = xs[i.toNat]? := by
  unfold atI ixN
  rw [if_pos h0, if_pos (by omega)]
  rfl
theorem atI_some {α : Type} {xs : List α} {i : Int} (h0 : 0 ≤ i) (h1 : i < xs.length) : ∃ z, atI xs i = some z := by
  rw [atI_pos h0 h1]
  exact ⟨_, List.getElem?_eq_getElem (by omega)⟩
theorem atI_head {α : Type} {x : α} {xs : List α} : atI (x :: xs) 0 = some x := by
  rw [atI_pos (by decide) (by rw [List.length_cons]; omega)]
  rfl
theorem cpow {i j : Int} (h1 : 0 ≤ j) (h2 : j ≤ 1000000) (h3 : i.natAbs < 2 ^ 64) : CPow i j := ⟨h1, h2, h3⟩
/-! ## loops and comprehensions -/
theorem dforL_inv {g : DTG} {b : DTS} {E : DEnds} {I : List Av → Gm → Prop} (hn : ∀ Γ, I [] Γ → E.nx Γ)
    (hs : ∀ x xs Γ (N : Gm → Prop), I (x :: xs) Γ → (∀ Γ', I xs Γ' → N Γ') → g x Γ (fun Γ' => b { E with nx := N, ct := N, bk := E.nx } Γ')) : ∀ xs Γ, I xs Γ → dforL g b E xs Γ
  | [], Γ, h => hn Γ h
  | x :: xs, Γ, h => hs x xs Γ (fun Γ' => dforL g b E xs Γ') h fun Γ' h' => dforL_inv hn hs xs Γ' h'
theorem dcomp_any {g : DTG} {t : DTT} {d : DTE} {Γ : Gm} {R : Av → PyData → Prop} : ∀ {xs : List Av} {k : List PyData → Prop},
    (∀ x ∈ xs, ∀ (k1 : Av → Prop) (k2 : Prop), (∀ y, R x y → k1 (.d y)) → g x Γ (fun Γ' => t Γ' (fun b => if b = true then d Γ' k1 E0d else k2) E0d)) → (∀ ys, Paired R xs ys → k ys) → dcomp g t d Γ xs k
  | [], k, _, q => q [] .nil
  | x :: xs, k, h, q => h x List.mem_cons_self (fun y => match y with
      | .d z => dcomp g t d Γ xs (fun zs => k (z :: zs))
      | _ => False) (dcomp g t d Γ xs k) fun y hy => dcomp_any (fun z hz => h z (List.mem_cons_of_mem _ hz)) fun ys p => q _ (.cons hy p)
theorem dcomp_map {g : DTG} {t : DTT} {d : DTE} {Γ : Gm} {f : Av → PyData} : ∀ {xs : List Av} {k : List PyData → Prop},
    (∀ x ∈ xs, ∀ (k1 : Av → Prop) (k2 : Prop), k1 (.d (f x)) → g x Γ (fun Γ' => t Γ' (fun b => if b = true then d Γ' k1 E0d else k2) E0d)) → k (xs.map f) → dcomp g t d Γ xs k
  | [], k, _, q => q
  | x :: xs, k, h, q => h x List.mem_cons_self (fun y => match y with
      | .d z => dcomp g t d Γ xs (fun zs => k (z :: zs))
      | _ => False) (dcomp g t d Γ xs k) (dcomp_map (f := f) (fun z hz => h z (List.mem_cons_of_mem _ hz)) q)
theorem dcomp_filter {g : DTG} {t : DTT} {d : DTE} {Γ : Gm} {f : Av → PyData} {p : Av → Bool} : ∀ {xs : List Av} {k : List PyData → Prop},
    (∀ x ∈ xs, ∀ (k1 : Av → Prop) (k2 : Prop), (p x = true → k1 (.d (f x))) → (p x = false → k2) → g x Γ (fun Γ' => t Γ' (fun b => if b = true then d Γ' k1 E0d else k2) E0d)) → k ((xs.filter p).map f) → dcomp g t d Γ xs k
  | [], k, _, q => q
  | x :: xs, k, h, q => h x List.mem_cons_self (fun y => match y with
      | .d z => dcomp g t d Γ xs (fun zs => k (z :: zs))
      | _ => False) (dcomp g t d Γ xs k) (fun e => dcomp_filter (f := f) (p := p) (fun z hz => h z (List.mem_cons_of_mem _ hz)) (by rw [List.filter_cons_of_pos e] at q; exact q))
      (fun e => dcomp_filter (f := f) (p := p) (fun z hz => h z (List.mem_cons_of_mem _ hz)) (by rw [List.filter_cons_of_neg (by rw [e]; decide)] at q; exact q))
/-! ## what is made of data -/
def avD : Av → PyData
  | .d y => y
  | _ => .none
def onD (p : PyData → Bool) : Av → Bool
  | .d y => p y
  | _ => false
def onS (p : Str → Bool) : Av → Bool
  | .d (.str z) => p z
  | _ => false
def mapD (g : PyData → PyData) : Av → PyData
  | .d y => g y
  | _ => .none
def mapS (g : Str → PyData) : Av → PyData
  | .d (.str z) => g z
  | _ => .none
theorem map_avD : ∀ ds : List PyData, (ds.map Av.d).map avD = ds
  | [] => rfl
  | d :: ds => congrArg (d :: ·) (map_avD ds)
theorem map_mapD {g : PyData → PyData} : ∀ ds : List PyData, (ds.map Av.d).map (mapD g) = ds.map g
  | [] => rfl
  | d :: ds => congrArg (g d :: ·) (map_mapD ds)
theorem map_mapS {g : Str → PyData} : ∀ ns : List Str, ((ns.map PyData.str).map Av.d).map (mapS g) = ns.map g
  | [] => rfl
  | d :: ds => congrArg (g d :: ·) (map_mapS ds)
theorem filt_onD {p : PyData → Bool} (ds : List PyData) : ((ds.map Av.d).filter (onD p)).map avD = ds.filter p := by
  rw [List.filter_map, map_avD]
  rfl
theorem filt_onS {p : Str → Bool} (ns : List Str) : (((ns.map PyData.str).map Av.d).filter (onS p)).map avD = (ns.filter p).map PyData.str := by
  rw [List.filter_map, map_avD, List.filter_map]
  rfl
theorem nil_eqv (ds : List PyData) : (PyData.list ds).eqv (.list []) = ds.isEmpty := by
  cases ds <;> rfl
theorem nil_ok (ds : List PyData) : (eqOk (.list ds) (.list []) || nilOk (.list ds) (.list [])) = true := Bool.or_true _
theorem cut_take {ds : List PyData} {n : Nat} (h : n ≤ ds.length) : cutD ds none (some (n : Int)) = ds.take n := by
  unfold cutD
  rw [HT.sIx_none, HT.sIx_nat, Nat.min_eq_left h]
  rfl
theorem cut_drop {ds : List PyData} {n : Nat} (h : n ≤ ds.length) : cutD ds (some (n : Int)) none = ds.drop n := by
  unfold cutD
  rw [HT.sIx_none, HT.sIx_nat, Nat.min_eq_left h, List.take_of_length_le]
  rw [List.length_drop]
  omega
/-! ## kinds -/
theorem isi_str (d : PyData) : isiD d "str" = some (isS d) := kit_str d
theorem isi_tuple (d : PyData) : isiD d "tuple" = some (isT d) := kit_tuple d
theorem isi_list (d : PyData) : isiD d "list" = some (isL d) := kit_list d
theorem isi_dict (d : PyData) : isiD d "dict" = some (isDc d) := kit_dict d
theorem isi_int (d : PyData) : isiD d "int" = some (isI d) := kit_int d
theorem isi_bool (d : PyData) : isiD d "bool" = some (isB d) := kit_bool d
theorem flat_names (ns : List Str) : (ns.map PyData.str).all flatD = true := by
  rw [List.all_map, List.all_eq_true]
  intro z _
  rfl
theorem in_names {z : Str} {ns : List Str} : inD (.str z) (ns.map PyData.str) = decide (z ∈ ns) := by
  unfold inD
  rw [List.any_map]
  by_cases h : z ∈ ns
  · rw [decide_eq_true h, List.any_eq_true]
    exact ⟨z, h, by simp [PyData.eqv]⟩
  · rw [decide_eq_false h, List.any_eq_false]
    intro y hy
    have : y ≠ z := fun q => h (q ▸ hy)
    simp [PyData.eqv, this]
theorem bools_of {α : Type} (g : α → Bool) (xs : List α) : boolsOf (xs.map fun x => PyData.bool (g x)) = some (xs.map g) := by
  have : (xs.map fun x => PyData.bool (g x)) = (xs.map g).map PyData.bool := by rw [List.map_map]; rfl
  rw [this]
  exact bools_map _
/-! ## the older form of a promise that answers True -/
def aRight : ASp := fun xs k _ => xs = [.pot] ∧ k (.d (.bool true))
theorem sp_right' : SpOk 1 aRight := ⟨fun xs k k' e e' hk _ h => ⟨h.1, hk _ h.2⟩, fun xs k e h => by rw [h.1]; rfl⟩
def sp_rightP : Sp := fun vs H Q _ => ∃ a : Addr, vs = [.ref a] ∧ PotAt H a ∧ ∀ H', PotAt H' a → Off a H H' → Q (.bl true) H'
theorem own_right {P : Program} {w : World} {K : PySem.W.Frag} {mg : Str → Option Value} {base : Heap} {k : Nat} {f : Addr} {fd : FuncData} {x pa : Str} {g : Bool} (O : OZ P w K mg base g k x [pa] aRight f fd) : OwnG P w K mg base CX0 k x [pa] sp_rightP f fd := by
  refine ⟨⟨fun vs H Q E h => ?_, fun A outer s H args us vs Q E hg hr e0 hb r h => ?_⟩, O.m, O.kp, O.b⟩
  · obtain ⟨a, rfl, _⟩ := h
    rfl
  · obtain ⟨a, rfl, pa, q⟩ := h
    have at_ : At (some a) (fun _ => none) H := At.mk' (fun _ _ e => nomatch e) fun b e => by
      cases e
      exact ⟨pa, rfl⟩
    refine codeAny_mono (O.ok.run A outer s H args us [.ref a] Q E0 (fun _ => hg) hr e0 hb r ⟨fun _ => none, some a, [.pot], at_, .cons ⟨a, rfl, rfl⟩ .nil, rfl, fun v F' H' e rv => ?_⟩) fun res st hq => ?_
    · cases (show Dq K F' v (.bool true) from rv)
      refine q H' (e.pot a rfl).1 fun b o hb => ?_
      obtain ⟨n, hb⟩ := off_get hb
      rw [off_ne n]
      exact e.keep b o (fun z => n (by cases z; rfl)) hb
    · match res, hq with
      | .error ev, hq =>
        obtain ⟨_, _, _, _, _, _, _, _, _, _, _, _, h⟩ := hq
        exact h.elim
      | .ok (.ret _), hq => exact hq
      | .ok .next, hq => exact hq
      | .ok .brk, hq => exact hq
      | .ok .cont, hq => exact hq
end Dl



set_option Elab.async false
set_option linter.all false
set_option maxRecDepth 100000
set_option maxHeartbeats 4000000
namespace K16
open PySem PySem.Spec PyProof.Rows L2 Lw

def topS (i : Nat) : Stmt := PySem.Challenge.pw_lastheld_k16_equations_by_name.main.body.getD i (.Pass ⟨0, 0, 0, 0⟩)
abbrev s__wall : Stmt := topS 0
abbrev N__wall : List Str := ["k"]
theorem sc__wall : FnScope N__wall ["k"] (defScope s__wall) := ⟨rfl, rfl, rfl, by decide +kernel, rfl, by decide +kernel, by decide +kernel⟩
abbrev s_kept : Stmt := topS 2
abbrev N_kept : List Str := ["value", "key", "item"]
theorem sc_kept : FnScope N_kept ["value"] (defScope s_kept) := ⟨rfl, rfl, rfl, by decide +kernel, rfl, by decide +kernel, by decide +kernel⟩
abbrev s_is_name : Stmt := topS 12
abbrev N_is_name : List Str := ["value", "sign"]
theorem sc_is_name : FnScope N_is_name ["value"] (defScope s_is_name) := ⟨rfl, rfl, rfl, by decide +kernel, rfl, by decide +kernel, by decide +kernel⟩
abbrev s_is_integer : Stmt := topS 13
abbrev N_is_integer : List Str := ["value"]
theorem sc_is_integer : FnScope N_is_integer ["value"] (defScope s_is_integer) := ⟨rfl, rfl, rfl, by decide +kernel, rfl, by decide +kernel, by decide +kernel⟩
abbrev s_first_wrong_name : Stmt := topS 15
abbrev N_first_wrong_name : List Str := ["values", "most", "at", "value"]
theorem sc_first_wrong_name : FnScope N_first_wrong_name ["values", "most"] (defScope s_first_wrong_name) := ⟨rfl, rfl, rfl, by decide +kernel, rfl, by decide +kernel, by decide +kernel⟩
abbrev s_check_field : Stmt := topS 16
abbrev N_check_field : List Str := ["sheet", "value"]
theorem sc_check_field : FnScope N_check_field ["sheet", "value"] (defScope s_check_field) := ⟨rfl, rfl, rfl, by decide +kernel, rfl, by decide +kernel, by decide +kernel⟩
abbrev s_pot : Stmt := topS 20
abbrev N_pot : List Str := ["_law_script", "_law_k", "_law_digits"]
theorem sc_pot : FnScope N_pot ["_law_script", "_law_k"] (defScope s_pot) := ⟨rfl, rfl, rfl, by decide +kernel, rfl, by decide +kernel, by decide +kernel⟩
abbrev s_draw : Stmt := topS 21
abbrev N_draw : List Str := ["_law_pot_here", "_law_many", "_law_digit"]
theorem sc_draw : FnScope N_draw ["_law_pot_here", "_law_many"] (defScope s_draw) := ⟨rfl, rfl, rfl, by decide +kernel, rfl, by decide +kernel, by decide +kernel⟩
abbrev s_mixed : Stmt := topS 22
abbrev N_mixed : List Str := ["_law_pot_here", "_law_given", "_law_left", "_law_k"]
theorem sc_mixed : FnScope N_mixed ["_law_pot_here", "_law_given"] (defScope s_mixed) := ⟨rfl, rfl, rfl, by decide +kernel, rfl, by decide +kernel, by decide +kernel⟩
abbrev s_factor : Stmt := topS 23
abbrev N_factor : List Str := ["_law_pot_here", "_law_way"]
theorem sc_factor : FnScope N_factor ["_law_pot_here"] (defScope s_factor) := ⟨rfl, rfl, rfl, by decide +kernel, rfl, by decide +kernel, by decide +kernel⟩
abbrev s_odd : Stmt := topS 24
abbrev N_odd : List Str := ["_law_pot_here", "_law_some"]
theorem sc_odd : FnScope N_odd ["_law_pot_here"] (defScope s_odd) := ⟨rfl, rfl, rfl, by decide +kernel, rfl, by decide +kernel, by decide +kernel⟩
abbrev s_called : Stmt := topS 25
abbrev N_called : List Str := ["_law_made", "_law_way", "_law_one", "_law_two", "_law_three"]
theorem sc_called : FnScope N_called ["_law_made", "_law_way", "_law_one", "_law_two", "_law_three"] (defScope s_called) := ⟨rfl, rfl, rfl, by decide +kernel, rfl, by decide +kernel, by decide +kernel⟩
abbrev s_told : Stmt := topS 26
abbrev N_told : List Str := ["_law_made", "_law_way", "_law_some", "_law_told_here", "e"]
theorem sc_told : FnScope N_told ["_law_made", "_law_way", "_law_some"] (defScope s_told) := ⟨rfl, rfl, rfl, by decide +kernel, rfl, by decide +kernel, by decide +kernel⟩
abbrev s_due : Stmt := topS 27
abbrev N_due : List Str := ["_law_labels", "_law_way", "_law_some", "_law_given", "_law_unknown", "_law_bad", "_law_label", "_law_one", "_law_name"]
theorem sc_due : FnScope N_due ["_law_labels", "_law_way", "_law_some"] (defScope s_due) := ⟨rfl, rfl, rfl, by decide +kernel, rfl, by decide +kernel, by decide +kernel⟩
abbrev s_is_line : Stmt := topS 28
abbrev N_is_line : List Str := ["_law_thing", "_law_wide", "_law_one"]
theorem sc_is_line : FnScope N_is_line ["_law_thing", "_law_wide"] (defScope s_is_line) := ⟨rfl, rfl, rfl, by decide +kernel, rfl, by decide +kernel, by decide +kernel⟩
abbrev s_factor_or_odd : Stmt := topS 29
abbrev N_factor_or_odd : List Str := ["_law_pot_here", "_law_way"]
theorem sc_factor_or_odd : FnScope N_factor_or_odd ["_law_pot_here"] (defScope s_factor_or_odd) := ⟨rfl, rfl, rfl, by decide +kernel, rfl, by decide +kernel, by decide +kernel⟩
abbrev s_things : Stmt := topS 30
abbrev N_things : List Str := ["_law_pot_here", "_law_wide", "_law_row", "_law_at", "_law_found", "_law_odd_here", "_law_k"]
theorem sc_things : FnScope N_things ["_law_pot_here", "_law_wide"] (defScope s_things) := ⟨rfl, rfl, rfl, by decide +kernel, rfl, by decide +kernel, by decide +kernel⟩
abbrev s_right : Stmt := topS 31
abbrev N_right : List Str := ["_law_pot_here", "_law_labels", "_law_made", "_law_turn", "_law_way", "_law_some", "_law_thing", "_law_shown", "_law_due_here", "_law_told_here", "_law_k"]
theorem sc_right : FnScope N_right ["_law_pot_here"] (defScope s_right) := ⟨rfl, rfl, rfl, by decide +kernel, rfl, by decide +kernel, by decide +kernel⟩
abbrev s_law : Stmt := topS 32
abbrev N_law : List Str := ["_law_script", "_law_k"]
theorem sc_law : FnScope N_law ["_law_script"] (defScope s_law) := ⟨rfl, rfl, rfl, by decide +kernel, rfl, by decide +kernel, by decide +kernel⟩
abbrev s_Sheet_init : Stmt := inClass (topS 18) 1
abbrev N_Sheet_init : List Str := ["self", "fields", "wrong"]
theorem sc_Sheet_init : FnScope N_Sheet_init ["self", "fields"] (defScope s_Sheet_init) := ⟨rfl, rfl, rfl, by decide +kernel, rfl, by decide +kernel, by decide +kernel⟩
abbrev s_Sheet_read : Stmt := inClass (topS 18) 2
abbrev N_Sheet_read : List Str := ["cls", "text", "words"]
theorem sc_Sheet_read : FnScope N_Sheet_read ["cls", "text"] (defScope s_Sheet_read) := ⟨rfl, rfl, rfl, by decide +kernel, rfl, by decide +kernel, by decide +kernel⟩
abbrev s_Sheet_eq : Stmt := inClass (topS 18) 3
abbrev N_Sheet_eq : List Str := ["self", "other"]
theorem sc_Sheet_eq : FnScope N_Sheet_eq ["self", "other"] (defScope s_Sheet_eq) := ⟨rfl, rfl, rfl, by decide +kernel, rfl, by decide +kernel, by decide +kernel⟩
abbrev s_Sheet_len : Stmt := inClass (topS 18) 4
abbrev N_Sheet_len : List Str := ["self"]
theorem sc_Sheet_len : FnScope N_Sheet_len ["self"] (defScope s_Sheet_len) := ⟨rfl, rfl, rfl, by decide +kernel, rfl, by decide +kernel, by decide +kernel⟩
abbrev s_Sheet_str : Stmt := inClass (topS 18) 5
abbrev N_Sheet_str : List Str := ["self"]
theorem sc_Sheet_str : FnScope N_Sheet_str ["self"] (defScope s_Sheet_str) := ⟨rfl, rfl, rfl, by decide +kernel, rfl, by decide +kernel, by decide +kernel⟩
abbrev s_Sheet_repr : Stmt := inClass (topS 18) 6
abbrev N_Sheet_repr : List Str := ["self"]
theorem sc_Sheet_repr : FnScope N_Sheet_repr ["self"] (defScope s_Sheet_repr) := ⟨rfl, rfl, rfl, by decide +kernel, rfl, by decide +kernel, by decide +kernel⟩
abbrev s_Sheet_fields : Stmt := inClass (topS 18) 7
abbrev N_Sheet_fields : List Str := ["self"]
theorem sc_Sheet_fields : FnScope N_Sheet_fields ["self"] (defScope s_Sheet_fields) := ⟨rfl, rfl, rfl, by decide +kernel, rfl, by decide +kernel, by decide +kernel⟩
abbrev s_Sheet_width : Stmt := inClass (topS 18) 8
abbrev N_Sheet_width : List Str := ["self"]
theorem sc_Sheet_width : FnScope N_Sheet_width ["self"] (defScope s_Sheet_width) := ⟨rfl, rfl, rfl, by decide +kernel, rfl, by decide +kernel, by decide +kernel⟩
abbrev s_Sheet_has_field : Stmt := inClass (topS 18) 9
abbrev N_Sheet_has_field : List Str := ["self", "value"]
theorem sc_Sheet_has_field : FnScope N_Sheet_has_field ["self", "value"] (defScope s_Sheet_has_field) := ⟨rfl, rfl, rfl, by decide +kernel, rfl, by decide +kernel, by decide +kernel⟩
abbrev s_Sheet_place : Stmt := inClass (topS 18) 10
abbrev N_Sheet_place : List Str := ["self", "field"]
theorem sc_Sheet_place : FnScope N_Sheet_place ["self", "field"] (defScope s_Sheet_place) := ⟨rfl, rfl, rfl, by decide +kernel, rfl, by decide +kernel, by decide +kernel⟩
abbrev s_Sheet_is_equation : Stmt := inClass (topS 18) 11
abbrev N_Sheet_is_equation : List Str := ["self", "value", "coefficient"]
theorem sc_Sheet_is_equation : FnScope N_Sheet_is_equation ["self", "value"] (defScope s_Sheet_is_equation) := ⟨rfl, rfl, rfl, by decide +kernel, rfl, by decide +kernel, by decide +kernel⟩
abbrev s_Sheet_equation : Stmt := inClass (topS 18) 12
abbrev N_Sheet_equation : List Str := ["self", "coefficients", "name", "field"]
theorem sc_Sheet_equation : FnScope N_Sheet_equation ["self", "coefficients"] (defScope s_Sheet_equation) := ⟨rfl, rfl, rfl, by decide +kernel, rfl, by decide +kernel, by decide +kernel⟩
abbrev s_Sheet_equation_text : Stmt := inClass (topS 18) 13
abbrev N_Sheet_equation_text : List Str := ["self", "equation"]
theorem sc_Sheet_equation_text : FnScope N_Sheet_equation_text ["self", "equation"] (defScope s_Sheet_equation_text) := ⟨rfl, rfl, rfl, by decide +kernel, rfl, by decide +kernel, by decide +kernel⟩
abbrev s_Sheet_parse_equation : Stmt := inClass (topS 18) 14
abbrev N_Sheet_parse_equation : List Str := ["self", "text"]
theorem sc_Sheet_parse_equation : FnScope N_Sheet_parse_equation ["self", "text"] (defScope s_Sheet_parse_equation) := ⟨rfl, rfl, rfl, by decide +kernel, rfl, by decide +kernel, by decide +kernel⟩
abbrev FnP (K : PySem.W.Frag) (x : Str) (st : Stmt) (f : Addr) (fd : FuncData) : Prop := FunD K x x (defArgs st) (defBody st) (defScope st) [] [] f fd
structure Tz (mg : Str → Option Value) : Prop where
  z_isinstance : mg "isinstance" = none
  z_list : mg "list" = none
  z_tuple : mg "tuple" = none
  z_dict : mg "dict" = none
  z_int : mg "int" = none
  z_bool : mg "bool" = none
  z_str : mg "str" = none
  z_len : mg "len" = none
  z_all : mg "all" = none
  z_repr : mg "repr" = none
  z_range : mg "range" = none
  z_enumerate : mg "enumerate" = none
  z_max : mg "max" = none
  z_min : mg "min" = none
  z_abs : mg "abs" = none
  z_divmod : mg "divmod" = none
  z_ValueError : mg "ValueError" = none
  z_LookupError : mg "LookupError" = none
  z_super : mg "super" = none
  c_LETTERS : ∃ t, mg "LETTERS" = some (.str abc t)
  c_LONGEST_NAME : ∃ t, mg "LONGEST_NAME" = some (.int 8 t)
section
variable {P : Program} {w : World} {K : PySem.W.Frag} {mg : Str → Option Value} {base : Heap} {f : Addr} {fd : FuncData}
theorem ok_pot (F : FnP K "_law_pot" s_pot f fd) (T : Tz mg) : FnOk P w K mg base CX0 1 f fd ["_law_script", "_law_k"] (sp_pot K) := by
  refine F.ok sc_pot (fun vs H Q E h => ?_) (fun cdv A outer s H vs Q E hr h => ?_)
  · obtain ⟨a, ns, k, rfl, _⟩ := h
    rfl
  · obtain ⟨a, ns, k, rfl, hS, hk, q⟩ := h
    refine ⟨_, PSs.nox (pss_cons (ps_set (i := 2) sc_pot.nd rfl (Or.inl rfl) (pe_ifExp (pt_cmpR op_lt (pv 1) (pe_callB call_len_seq (by rfl) T.z_len (by decide +kernel) (pa_cons (pv 0) pa_nil)) (nomark _)) (pe_ix ix_list (pv 0) (pv 1) (fun _ _ => rfl)) pe_int))
      (pss_one (ps_ret (pe_lst (pa_cons (pe_callB (call_max2 rfl) (by rfl) T.z_max (by decide +kernel) (pa_cons pe_int (pa_cons (pe_op op_sub (pe_callB call_abs (by rfl) T.z_abs (by decide +kernel) (pa_cons (pv 2) pa_nil)) (pe_op op_pow pe_int pe_int)) pa_nil))) (pa_cons (pe_op op_mod (pe_op op_add (pe_op op_add (pe_op op_mul (pe_op op_mod (pe_callB call_abs (by rfl) T.z_abs (by decide +kernel) (pa_cons (pv 2) pa_nil)) pe_int) pe_int) (pe_op op_mul pe_int (pv 1))) pe_int) pe_int) pa_nil)))))), ?_⟩
    refine ⟨_, rfl, .ref a, rfl, a, _, rfl, .inl hS, _, _, rfl, rfl, _, rfl, ?_⟩
    refine ite2 (fun e => ?_) (fun e => ?_)
    · have e1 : (k : Int) < ((ns.map V.int).length : Nat) := of_decide_eq_true e
      have e2 : k < ns.length := by
        rw [List.length_map] at e1
        omega
      have e3 : (ns.map V.int)[k]? = some (.int ns[k]) := by
        rw [List.getElem?_map, List.getElem?_eq_getElem e2]
        rfl
      refine ⟨.ref a, rfl, .int k, rfl, a, _, _, .int ns[k], rfl, rfl, hS, atI_nat e3, ?_⟩
      refine ⟨.int ns[k], rfl, _, rfl, 10, 18, rfl, rfl, ⟨by decide, by decide, by decide⟩, _, _, rfl, rfl, _, _, rfl, ?_⟩
      refine ⟨.int ns[k], rfl, _, rfl, _, _, rfl, rfl, pos_c (by decide), _, _, rfl, rfl, .inr ⟨by decide, by decide⟩, .int k, rfl, _, _, rfl, rfl, .inl ⟨by decide, by decide⟩, _, _, rfl, rfl, _, _, rfl, rfl, _, _, rfl, rfl, pos_c (by decide), ?_⟩
      exact ⟨by show 2 ≤ sizeLine; decide, fun p np => q p _ _ np (Int.emod_nonneg _ (by decide)) (Int.lt_trans (Int.emod_lt_of_pos _ (by decide)) (by decide))⟩
    · refine ⟨.int 0, rfl, _, rfl, 10, 18, rfl, rfl, ⟨by decide, by decide, by decide⟩, _, _, rfl, rfl, _, _, rfl, ?_⟩
      refine ⟨.int 0, rfl, _, rfl, _, _, rfl, rfl, pos_c (by decide), _, _, rfl, rfl, .inr ⟨by decide, by decide⟩, .int k, rfl, _, _, rfl, rfl, .inl ⟨by decide, by decide⟩, _, _, rfl, rfl, _, _, rfl, rfl, _, _, rfl, rfl, pos_c (by decide), ?_⟩
      exact ⟨by show 2 ≤ sizeLine; decide, fun p np => q p _ _ np (Int.emod_nonneg _ (by decide)) (Int.lt_trans (Int.emod_lt_of_pos _ (by decide)) (by decide))⟩
theorem ok_draw (F : FnP K "_law_draw" s_draw f fd) (T : Tz mg) : FnOk P w K mg base CX0 1 f fd ["_law_pot_here", "_law_many"] sp_draw := by
  refine F.ok sc_draw (fun vs H Q E h => ?_) (fun cdv A outer s H vs Q E hr h => ?_)
  · obtain ⟨a, n, rfl, _⟩ := h
    rfl
  · obtain ⟨a, n, rfl, ⟨x, y, hp, y0, y1⟩, n0, n1, q⟩ := h
    refine ⟨_, PSs.nox (pss_cons (ps_if (pt_cmpR op_gt (pe_ix ix_list (pv 0) pe_int (fun _ _ => rfl)) pe_int (nomark _)) (pss_cons (ps_asg (pe_callB call_divmodW (by rfl) T.z_divmod (by decide +kernel) (pa_cons (pe_ix ix_list (pv 0) pe_int (fun _ _ => rfl)) (pa_cons (pv 1) pa_nil))) (pg_tup rfl (pgs_cons (pg_sub (pv 0) pe_int set_list) (pgs_cons (pg_name (i := 2) sc_draw.nd rfl (Or.inl rfl)) pgs_nil))))
      (pss_one (ps_ret (pv 2)))) pss_nil)
      (pss_cons (ps_asg (pe_op op_mod (pe_op op_add (pe_op op_mul (pe_ix ix_list (pv 0) pe_int (fun _ _ => rfl)) pe_int) pe_int) pe_int) (pg_sub (pv 0) pe_int set_list))
      (pss_one (ps_ret (pe_op op_mod (pe_op op_fdiv (pe_op op_mod (pe_op op_mul (pe_ix ix_list (pv 0) pe_int (fun _ _ => rfl)) (pe_ix ix_list (pv 0) pe_int (fun _ _ => rfl))) pe_int) pe_int) (pv 1)))))), ?_⟩
    refine ⟨.ref a, rfl, a, _, 0, .int x, rfl, rfl, .inl (.inl hp), rfl, _, _, rfl, rfl, _, rfl, ite2 (fun e => ?_) (fun e => ?_)⟩
    · have x0 : 0 < x := of_decide_eq_true e
      refine ⟨.ref a, rfl, a, _, 0, .int x, rfl, rfl, .inl (.inl hp), rfl, .int n, rfl, x, n, rfl, ⟨n0, PyProof.noPylong_of_log2 (Nat.lt_of_lt_of_le (PySem.Flt.log2_lt_of (k := 200) (by decide) (by omega)) (by decide))⟩, fun t nt => ?_⟩
      have ht : (upd H t (.tup [.int (x / n), .int (x % n)])) a = some (.lst [.int x, .int y]) := by
        rw [upd_ne (ne_of_none hp nt)]
        exact hp
      refine ⟨t, _, rfl, .inl (.inl upd_same), rfl, _, _, rfl, .ref a, rfl, a, _, 0, 0, rfl, rfl, ht, rfl, _, _, rfl, rfl, .int (x % n), rfl, ?_⟩
      exact q _ _ (Int.emod_nonneg _ (by omega)) (Int.emod_lt_of_pos _ n0) ⟨x / n, y, upd_same, y0, y1⟩ ((Off.new nt).trans Off.at)
    · refine ⟨.ref a, rfl, a, _, 1, .int y, rfl, rfl, .inl (.inl hp), rfl, _, _, rfl, rfl, .inr ⟨by decide, by decide⟩, _, _, rfl, rfl, _, _, rfl, rfl, pos_c (by decide), ?_⟩
      refine ⟨.ref a, rfl, a, _, 1, 1, rfl, rfl, hp, rfl, ?_⟩
      have z0 : 0 ≤ (y * 39373 + 12227) % 2147483629 := Int.emod_nonneg _ (by decide)
      have z1 : (y * 39373 + 12227) % 2147483629 < 2147483629 := Int.emod_lt_of_pos _ (by decide)
      refine ⟨.ref a, rfl, a, _, 1, _, rfl, rfl, .inl (.inl upd_same), rfl, .ref a, rfl, a, _, 1, _, rfl, rfl, .inl (.inl upd_same), rfl, _, _, rfl, rfl, .inl ⟨?_, ?_⟩, _, _, rfl, rfl, pos_c (by decide), _, _, rfl, rfl, ⟨by decide, by decide⟩, .int n, rfl, _, _, rfl, rfl, n0, ?_⟩
      · exact Int.lt_of_lt_of_le (by decide) z0
      · exact Int.lt_trans z1 (by decide)
      · exact q _ _ (Int.emod_nonneg _ (by omega)) (Int.emod_lt_of_pos _ n0) ⟨x, _, upd_same, z0, Int.lt_trans z1 (by decide)⟩ Off.at
end

section
variable {P : Program} {w : World} {K : PySem.W.Frag} {mg : Str → Option Value} {base : Heap} {f : Addr} {fd : FuncData}
theorem ok_is_name (F : FnP K "is_name" s_is_name f fd) (T : Tz mg) : FnOk P w K mg base CX0 1 f fd ["value"] (sp_name K) := by
  refine F.ok sc_is_name (fun vs H Q E h => ?_) (fun cdv A outer s H vs Q E hr h => ?_)
  · obtain ⟨v, d, rfl, _⟩ := h
    rfl
  · obtain ⟨v, d, rfl, hd, hs, q⟩ := h
    refine ⟨_, PSs.nox (pss_cons (ps_if (pt_not (pt_val (pe_callB call_isi (by rfl) T.z_isinstance (by decide +kernel) (pa_cons (pv 0) (pa_cons (pe_bltn (v := .ty "str") (by rfl) T.z_str (by decide +kernel) rfl) pa_nil))))) (pss_one (ps_ret pe_bl)) pss_nil)
      (pss_one (ps_ret (pe_and (pe_chain op_le op_le pe_int (pe_callB call_len_str (by rfl) T.z_len (by decide +kernel) (pa_cons (pv 0) pa_nil)) (pe_gi T.c_LONGEST_NAME)) (pe_one (pe_callB (cr_all rfl) (by rfl) T.z_all (by decide +kernel) (pa_cons (pe_lc (own := [("sign", 1)]) (g := gName 1) (tt := tYes) rfl sc_is_name.nd (pi_str (pv 0)) (blkOk_by (own := [("sign", 1)]) (N := N_is_name) (sc := defScope s_is_name) (by decide +kernel)) (fun _ _ _ _ _ => pg_name (i := 1) sc_is_name.nd rfl (Or.inl rfl)) (fun _ _ _ _ _ => pts_nil) (fun _ _ _ _ _ => (pe_cmpR op_in_sign (pv 1) (pe_gs T.c_LETTERS) (by with_unfolding_all rfl)))) pa_nil))))))), ?_⟩
    refine ⟨v, rfl, v, .ty "str", _, _, _, rfl, .ty _, hd.ty, kit_ty (kit_str d), _, rfl, ?_⟩
    cases hd with
    | str z =>
      refine iteF ?_
      have lz := hs z rfl
      refine ⟨.str z, rfl, z, rfl, Nat.le_of_lt (small1000 lz), _, _, rfl, rfl, _, rfl, ite2 (fun e1 => ?_) (fun e1 => ?_)⟩
      · refine ⟨_, _, rfl, rfl, _, rfl, ite2 (fun e2 => ?_) (fun e2 => ?_)⟩
        · refine ⟨.str z, rfl, z, rfl, fun D nD => ?_⟩
          refine lc_it walk_str (fun i H2 => Same H H2 ∧ H2 D = some (.lst (((z.cps.toList.take i).map fun c => decide (c ∈ abc.cps.toList)).map V.bl))) ⟨same_upd nD, upd_same⟩ (fun _ _ _ _ => trivial) ?_ ?_
          · rintro i x H2 H3 hi ⟨s2, e3⟩ ⟨rfl, c, hc, rfl⟩
            refine ⟨rfl, _, rfl, c, abc, rfl, rfl, _, e3, ?_, fun b o e => ?_, ?_⟩
            · rw [List.length_map, List.length_map, List.length_take]
              refine small1000 (Nat.le_trans (Nat.min_le_left _ _) ?_)
              have : z.cps.size = z.length := rfl
              omega
            · rw [upd_ne (ne_of_none e nD)]
              exact s2 _ _ e
            · rw [upd_same, map_take hc, List.map_append]
              rfl
          · rintro H2 ⟨s2, e3⟩
            refine ⟨D, _, rfl, .inl (.inl e3), ?_⟩
            rw [all_id]
            have ez : z.cps.toList.take z.cps.size = z.cps.toList := List.take_of_length_le (Nat.le_of_eq (Array.length_toList))
            rw [ez]
            have en : nameD (.str z) = z.cps.toList.all fun c => decide (c ∈ abc.cps.toList) := by
              show nameB z = _
              unfold nameB
              rw [e1, e2]
              rfl
            rw [← en]
            exact q H2 s2
        · have en : nameD (.str z) = false := by
            show nameB z = _
            unfold nameB
            rw [show decide ((z.length : Int) ≤ 8) = false from Bool.eq_false_iff.mpr e2, Bool.and_false, Bool.false_and]
          rw [en] at q
          exact q H (Same.refl H)
      · have en : nameD (.str z) = false := by
          show nameB z = _
          unfold nameB
          rw [show decide ((1 : Int) ≤ (z.length : Int)) = false from Bool.eq_false_iff.mpr e1, Bool.false_and, Bool.false_and]
        rw [en] at q
        exact ⟨_, rfl, q H (Same.refl H)⟩
    | non => exact q H (Same.refl H)
    | bl b => exact q H (Same.refl H)
    | int i => exact q H (Same.refl H)
    | lst h g => exact q H (Same.refl H)
    | tup h g => exact q H (Same.refl H)
    | dic h => exact q H (Same.refl H)
    | dct h ne g => exact q H (Same.refl H)

end

section
variable {P : Program} {w : World} {K : PySem.W.Frag} {mg : Str → Option Value} {base : Heap} {f : Addr} {fd : FuncData} {fN : Addr} {fdN : FuncData}
theorem ok_first_wrong_name (F : FnP K "first_wrong_name" s_first_wrong_name f fd) (T : Tz mg) (O_is_name : Own P w K mg base CX0 1 "is_name" ["value"] (sp_name K) fN fdN) : FnOk P w K mg base CX0 2 f fd ["values","most"] (sp_fwn K) := by
  refine F.ok sc_first_wrong_name (fun vs H Q E h => ?_) (fun cdv A outer s H vs Q E hr h => ?_)
  · obtain ⟨v, d, rfl, _⟩ := h
    rfl
  · obtain ⟨v, d, rfl, hd, hs, q⟩ := h
    refine ⟨_, PSs.nox (pss_cons (ps_if (PW.pt (pw_or (pt_not (pt_val (pe_callB call_isiT (by rfl) T.z_isinstance (by decide +kernel) (pa_cons (pv 0) (pa_cons (pe_tup (pa_cons (pe_bltn (v := .ty "list") (by rfl) T.z_list (by decide +kernel) rfl) (pa_cons (pe_bltn (v := .ty "tuple") (by rfl) T.z_tuple (by decide +kernel) rfl) pa_nil))) pa_nil))))) (pw_or1 (pt_not (pt_chain op_le op_le pe_int (pe_callB call_len_seq (by rfl) T.z_len (by decide +kernel) (pa_cons (pv 0) pa_nil)) (pv 1)))))) (pss_one (ps_ret (pe_un un_neg pe_int))) pss_nil)
      (pss_cons (ps_for PassesOwn.never rfl (pi_enumB (by rfl) T.z_enumerate (pa_cons (pv 0) pa_nil)) (pg_tup rfl (pgs_cons (pg_name (i := 2) sc_first_wrong_name.nd rfl (Or.inl rfl)) (pgs_cons (pg_name (i := 3) sc_first_wrong_name.nd rfl (Or.inl rfl)) pgs_nil))) (pss_one (ps_if (PW.pt (pw_or (pt_not (pt_val (pe_own O_is_name (hr.mono (by first | decide | omega)) (pa_cons (pv 3) pa_nil)))) (pw_or1 (pt_cmpR op_in_seq (pv 3) (pe_slice sl_both (pv 0) po_none (po_some (pv 2))) (by with_unfolding_all rfl))))) (pss_one (ps_ret (pv 2))) pss_nil)))
      (pss_one (ps_ret pe_non)))), ?_⟩
    refine ⟨v, rfl, by show 2 ≤ sizeLine; decide, fun tp ntp => ⟨v, tp, [.ty "list", .ty "tuple"], _, [.type "list", .type "tuple"], isL d || isT d, rfl, upd_same, .cons (.ty _) (.cons (.ty _) .nil), (hd.same (same_upd ntp)).ty, ?_, _, rfl, ?_⟩⟩
    · exact kit_any2 (kit_ty (kit_list d)) (kit_ty (kit_tuple d))
    have s0 : Same H (upd H tp (.tup [.ty "list", .ty "tuple"])) := same_upd ntp
    revert s0
    generalize upd H tp (.tup [.ty "list", .ty "tuple"]) = H0
    intro s0
    by_cases hk : (isL d || isT d) = true
    case neg =>
      rw [Bool.eq_false_iff.mpr hk]
      have e : fwV d = .int (-1) := by
        cases d <;> first | rfl | exact absurd rfl hk
      rw [e] at q
      exact iteT (iteT ⟨1, rfl, q H0 s0⟩)
    rw [hk]
    refine iteF ?_
    have key : ∃ (b : Bool) (a : Addr) (xs : List V) (ds : List PyData), v = .ref a ∧ SqB K b H a xs ∧ DqAll K H xs ds ∧ fwD d = fwL ds ∧ ds.length ≤ 900 ∧ ∀ x ∈ ds, Short x := by
      cases hd with
      | lst h g => exact ⟨false, _, _, _, rfl, h, g, rfl, hs _ (.inl rfl)⟩
      | tup h g => exact ⟨true, _, _, _, rfl, h, g, rfl, hs _ (.inr rfl)⟩
      | _ => cases hk
    obtain ⟨b, a, xs, ds, rfl, hx, g, ef, l9, sh⟩ := key
    have le := dq_len g
    have qn : fwL ds = none → ∀ H', Same H H' → Q .non H' := fun e H' s' => by
      have := q H' s'
      unfold fwV at this
      rw [ef, e] at this
      exact this
    have qs : ∀ i, fwL ds = some i → ∀ H', Same H H' → Q (.int i) H' := fun i e H' s' => by
      have := q H' s'
      unfold fwV at this
      rw [ef, e] at this
      exact this
    refine ⟨.ref a, rfl, a, xs, rfl, (hx.same s0).any, _, _, rfl, rfl, _, rfl, ?_⟩
    by_cases l1 : 1 ≤ ds.length
    case neg =>
      have e1 : decide ((1 : Int) ≤ (xs.length : Nat)) = false := decide_eq_false (by rw [le]; omega)
      rw [e1]
      refine ⟨_, rfl, iteT ⟨1, rfl, qs (-1) ?_ H0 s0⟩⟩
      unfold fwL
      rw [if_neg (by omega)]
    have e1 : decide ((1 : Int) ≤ (xs.length : Nat)) = true := decide_eq_true (by rw [le]; omega)
    rw [e1]
    refine ⟨.int 12, rfl, _, _, rfl, rfl, _, rfl, ?_⟩
    by_cases l2 : ds.length ≤ 12
    case neg =>
      have e2 : decide (((xs.length : Nat) : Int) ≤ 12) = false := decide_eq_false (by rw [le]; omega)
      rw [e2]
      refine iteT ⟨1, rfl, qs (-1) ?_ H0 s0⟩
      unfold fwL
      rw [if_neg (by omega)]
    have e2 : decide (((xs.length : Nat) : Int) ≤ 12) = true := decide_eq_true (by rw [le]; omega)
    rw [e2]
    refine iteF ?_
    have ew : fwL ds = (fwGo [] ds 0).map Int.ofNat := by
      unfold fwL
      rw [if_pos ⟨l1, l2⟩]
    refine ⟨.ref a, rfl, b, a, xs, rfl, hx.same s0, ?_⟩
    refine for_it walk_enumB (fun i σ H1 => Same H H1 ∧ (∃ y z, σ = [some (.ref a),some (.int 12),y,z]) ∧ ∃ seen : List Str, ds.take i = seen.map PyData.str ∧ fwGo [] ds 0 = fwGo seen (ds.drop i) i) ⟨s0, ⟨_, _, rfl⟩, [], rfl, rfl⟩ (fun i σ H1 _ hp => hx.same hp.1) ?_ ?_
    · rintro i x σ H1 H2 hi ⟨s1, ⟨y, z, rfl⟩, seen, t1, w1⟩ ⟨tq, u1, u2, rfl, ntq, rfl, hu1, hu2⟩
      cases hu1
      obtain ⟨dx, hdx, dqx⟩ := dq_get g hu2
      have s2 : Same H (upd H1 tq (.tup [.int (i : Nat), u2])) := s1.trans (same_upd ntq)
      refine ⟨tq, _, rfl, .inl (.inl upd_same), rfl, _, _, rfl, _, _, rfl, rfl, u2, rfl, u2, dx, rfl, dqx.same s2, sh dx (List.mem_of_getElem? hdx), fun H3 s3 => ⟨_, rfl, ?_⟩⟩
      have hlt : i < ds.length := (List.getElem?_eq_some_iff.mp hdx).1
      have dr : ds.drop i = dx :: ds.drop (i + 1) := by
        rw [List.drop_eq_getElem_cons hlt]
        congr 1
        have := (List.getElem?_eq_some_iff.mp hdx).2
        exact this
      rw [dr] at w1
      cases en : nameD dx with
      | false =>
        rw [fwGo_bad en] at w1
        refine iteT ⟨_, rfl, qs (i : Nat) ?_ H3 (s2.trans s3)⟩
        rw [ew, w1]
        rfl
      | true =>
        cases dx with
        | str zz =>
          cases dqx
          have hb := (hx.same (s2.trans s3))
          have xt : xs.take i = seen.map V.str := by
            have g1 := dq_take (n := i) g
            rw [t1] at g1
            exact dq_strs g1
          have slice : ∀ (R : V → Hp → Prop), (∀ p, H3 p = none → ∀ o, (o = HO.lst (seen.map V.str) ∨ o = HO.tup (seen.map V.str)) → R (.ref p) (upd H3 p o)) → rSlB K (.ref a) none (some (i : Nat)) H3 R := by
            intro R hR
            cases b with
            | false =>
              refine .inl ⟨a, xs, rfl, hb, fun p np => ?_⟩
              rw [cut_take, xt]
              exact hR p np _ (.inl rfl)
            | true =>
              refine .inr ⟨a, xs, rfl, hb, cut_part (by omega), fun p np => ?_⟩
              rw [cut_take, xt]
              exact hR p np _ (.inr rfl)
          refine iteF ⟨_, rfl, _, rfl, _, rfl, _, rfl, slice _ fun p np o ho => ?_⟩
          have hq : SqL K (upd H3 p o) p (seen.map V.str) ∨ SqT K (upd H3 p o) p (seen.map V.str) := by
            rcases ho with rfl | rfl
            · exact .inl (.inl (.inl upd_same))
            · exact .inr (.inl (.inl upd_same))
          refine ⟨p, _, rfl, hq, rfl, Lw.flat_strs _, _, rfl, ?_⟩
          rw [in_strs]
          have s4 : Same H (upd H3 p o) := (s2.trans s3).trans (same_upd np)
          by_cases hz : zz ∈ seen
          · rw [fwGo_in hz] at w1
            rw [decide_eq_true hz]
            refine iteT ⟨_, rfl, qs (i : Nat) ?_ _ s4⟩
            rw [ew, w1]
            rfl
          · rw [fwGo_ok en hz] at w1
            rw [decide_eq_false hz]
            refine iteF ⟨s4, ⟨_, _, rfl⟩, seen ++ [zz], ?_, w1⟩
            rw [List.take_add_one, hdx, t1, List.map_append]
            rfl
        | _ => cases en
    · rintro σ H1 ⟨s1, ⟨y, z, rfl⟩, seen, t1, w1⟩
      refine qn ?_ H1 s1
      rw [ew, w1, List.drop_of_length_le (by omega)]
      rfl
end

section
variable {P : Program} {w : World} {K : PySem.W.Frag} {mg : Str → Option Value} {base : Heap} {f : Addr} {fd : FuncData}
theorem ok_kept (F : FnP K "kept" s_kept f fd) (T : Tz mg) (m : mg "kept" = some (.ref f)) : ∀ n, FnOk P w K mg base CX0 (n + 1) f fd ["value"] (sp_kept K n)
  | 0 => ⟨fun _ _ _ _ h => h.elim, fun _ _ _ _ _ _ _ _ _ _ _ _ _ h => h.elim⟩
  | n + 1 => by
    have O_kept : Own P w K mg base CX0 (n + 1) "kept" ["value"] (sp_kept K n) f fd := ⟨ok_kept F T m n, m, F.kp, F.bindsN fun _ _ _ _ _ _ us hl => match us, hl with | [_], _ => rfl⟩
    refine F.ok sc_kept (fun vs H Q E h => ?_) (fun cdv A outer s H vs Q E hr h => ?_)
    · obtain ⟨v, d, rfl, _⟩ := h
      rfl
    · obtain ⟨v, d, rfl, hd, hdp, hsl, q⟩ := h
      refine ⟨_, PSs.nox (pss_cons (ps_if (pt_val (pe_callB call_isi (by rfl) T.z_isinstance (by decide +kernel) (pa_cons (pv 0) (pa_cons (pe_bltn (v := .ty "list") (by rfl) T.z_list (by decide +kernel) rfl) pa_nil)))) (pss_one (ps_ret (pe_lc (own := [("item", 2)]) (g := gName 2) (tt := tYes) rfl sc_kept.nd (pi_list (pv 0)) (blkOk_by (own := [("item", 2)]) (N := N_kept) (sc := defScope s_kept) (by decide +kernel)) (fun _ _ _ _ _ => pg_name (i := 2) sc_kept.nd rfl (Or.inl rfl)) (fun _ _ _ _ _ => pts_nil) (fun _ _ _ _ _ => (pe_own O_kept (hr.mono (by first | decide | omega)) (pa_cons (pv 2) pa_nil)))))) pss_nil)
      (pss_cons (ps_if (pt_val (pe_callB call_isi (by rfl) T.z_isinstance (by decide +kernel) (pa_cons (pv 0) (pa_cons (pe_bltn (v := .ty "tuple") (by rfl) T.z_tuple (by decide +kernel) rfl) pa_nil)))) (pss_one (ps_ret (pe_callTy call_tuple_of (by rfl) T.z_tuple (by decide +kernel) (pa_cons (pe_lc (own := [("item", 2)]) (g := gName 2) (tt := tYes) rfl sc_kept.nd (pi_tup (pv 0)) (blkOk_by (own := [("item", 2)]) (N := N_kept) (sc := defScope s_kept) (by decide +kernel)) (fun _ _ _ _ _ => pg_name (i := 2) sc_kept.nd rfl (Or.inl rfl)) (fun _ _ _ _ _ => pts_nil) (fun _ _ _ _ _ => (pe_own O_kept (hr.mono (by first | decide | omega)) (pa_cons (pv 2) pa_nil)))) pa_nil)))) pss_nil)
      (pss_cons (ps_if (pt_val (pe_callB call_isi (by rfl) T.z_isinstance (by decide +kernel) (pa_cons (pv 0) (pa_cons (pe_bltn (v := .ty "dict") (by rfl) T.z_dict (by decide +kernel) rfl) pa_nil)))) (pss_one (ps_ret (pe_lock (pe_dc (own := [("key", 1)]) (g := gName 1) (tt := tYes) rfl sc_kept.nd (pi_keys (pv 0)) (blkOk_by (own := [("key", 1)]) (N := N_kept) (sc := defScope s_kept) (by decide +kernel)) (fun _ _ _ _ _ => pg_name (i := 1) sc_kept.nd rfl (Or.inl rfl)) (fun _ _ _ _ _ => pts_nil) (fun _ _ _ _ _ => (pv 1)) (fun _ _ _ _ _ => (pe_own O_kept (hr.mono (by first | decide | omega)) (pa_cons (pe_dget (hu_of hr) (pv 0) (pv 1) (fun _ _ => rfl)) pa_nil))))))) pss_nil)
      (pss_one (ps_ret (pv 0)))))), ?_⟩
      refine ⟨v, rfl, v, .ty "list", _, _, _, rfl, .ty _, hd.ty, kit_ty (kit_list d), _, rfl, ?_⟩
      -- what a comprehension over items keeps
      have turn : ∀ {xs : List V} {ds : List PyData} {D : Addr} {i : Nat} {x : V} {H2 : Hp} {R : V → Hp → Prop}, DqAll K H xs ds → PyData.depthAll ds < n → slimAll ds = true → ds.length ≤ 900 → H D = none → xs[i]? = some x →
          (Same H H2 ∧ ∃ ws, H2 D = some (.lst ws) ∧ ws.length = i ∧ DqAll K (nw (upd H D (.lst [])) H2) ws (ds.take i)) →
          (∀ y H4, (∃ acc, H4 D = some (.lst acc) ∧ acc.length < sizeLine ∧ (Same H (upd H4 D (.lst (acc ++ [y]))) ∧ ∃ ws, (upd H4 D (.lst (acc ++ [y]))) D = some (.lst ws) ∧ ws.length = i + 1 ∧ DqAll K (nw (upd H D (.lst [])) (upd H4 D (.lst (acc ++ [y])))) ws (ds.take (i + 1)))) → R y H4) →
          sp_kept K n [x] H2 R E0 := by
        intro xs ds D i x H2 R g hdep hsa hlen nD hx ⟨s2, ws, e2, l2, g2⟩ k
        obtain ⟨dx, hdx, dqx⟩ := dq_get g hx
        have hmem : dx ∈ ds := List.mem_of_getElem? hdx
        have hil : i < ds.length := (List.getElem?_eq_some_iff.mp hdx).1
        cases n with
        | zero => omega
        | succ n' =>
          refine ⟨x, dx, rfl, dqx.same s2, ?_, slim_at hsa hmem, fun v' H4 s4 fr => k v' H4 ⟨ws, s4 _ _ e2, ?_, fun b o e => ?_, ws ++ [v'], upd_same, ?_, ?_⟩⟩
          · have := depth_at hmem
            omega
          · rw [l2]
            exact small1000 (by omega)
          · rw [upd_ne (ne_of_none e nD)]
            exact s4 _ _ (s2 _ _ e)
          · rw [List.length_append, l2]
            rfl
          · have hB : ∀ b, H2 b = none → upd H D (.lst []) b = none := fun b hb => by
              have nb : b ≠ D := fun e => by
                rw [e, e2] at hb
                cases hb
              rw [upd_ne nb]
              exact s2.free hb
            have a1 : Same (nw (upd H D (.lst [])) H2) (nw (upd H D (.lst [])) (upd H4 D (.lst (ws ++ [v'])))) := nw_mono (fun _ e => e) fun b o h1 h2 => by
              have nb : b ≠ D := fun e => by
                rw [e, upd_same] at h1
                cases h1
              rw [upd_ne nb]
              exact s4 _ _ h2
            have a2 : Same (nw H2 H4) (nw (upd H D (.lst [])) (upd H4 D (.lst (ws ++ [v'])))) := nw_mono hB fun b o h1 h2 => by
              have nb : b ≠ D := fun e => by
                rw [e, e2] at h1
                cases h1
              rw [upd_ne nb]
              exact h2
            rw [List.take_add_one, hdx]
            exact dqall_snoc (DqAll.same a1 g2) (Dq.same a2 fr)
      have start : ∀ {ds : List PyData} {D : Addr}, H D = none → (Same H (upd H D (.lst [])) ∧ ∃ ws, (upd H D (.lst [])) D = some (.lst ws) ∧ ws.length = 0 ∧ DqAll K (nw (upd H D (.lst [])) (upd H D (.lst []))) ws (ds.take 0)) :=
        fun nD => ⟨same_upd nD, [], upd_same, rfl, .nil⟩
      have base_ : ∀ {D : Addr} {H2 : Hp}, H D = none → Same (nw (upd H D (.lst [])) H2) (nw H H2) := fun {D H2} nD => nw_mono (fun b e => (same_upd nD).free e) fun _ _ _ e => e
      cases hd with
      | @lst a xs ds h g =>
        refine ⟨.ref a, rfl, a, rfl, ⟨_, h⟩, fun D nD => ?_⟩
        have h1 : slim (.list ds) = (decide (ds.length ≤ 900) && slimAll ds) := by simp only [slim]
        rw [h1, Bool.and_eq_true] at hsl
        have l9 : ds.length ≤ 900 := of_decide_eq_true hsl.1
        have hdep : PyData.depthAll ds < n := by
          simp only [PyData.depth] at hdp
          omega
        have le := dq_len g
        refine lc_list (K := K) (a := a) (xs := xs) (fun i H2 => Same H H2 ∧ ∃ ws, H2 D = some (.lst ws) ∧ ws.length = i ∧ DqAll K (nw (upd H D (.lst [])) H2) ws (ds.take i)) (start nD) (fun i H2 _ hp => hp.1.seq h) ?_ ?_
        · intro i x H2 hx hp
          exact ⟨rfl, x, rfl, turn g hdep hsl.2 l9 nD hx hp fun y H4 z => z⟩
        · rintro H2 ⟨s2, ws, e2, l2, g2⟩
          refine q _ H2 s2 (Dq.lst (.inl (.inl ((nw_at nD).trans e2))) ?_)
          rw [List.take_of_length_le (Nat.le_of_eq le.symm)] at g2
          exact DqAll.same (base_ nD) g2
      | @tup a xs ds h g =>
        refine iteF ?_
        refine ⟨.ref a, rfl, .ref a, .ty "tuple", _, _, _, rfl, .ty _, (Dq.tup h g).ty, kit_ty (kit_tuple (.tuple ds)), _, rfl, ?_⟩
        refine ⟨.ref a, rfl, a, rfl, ⟨_, h⟩, fun D nD => ?_⟩
        have h1 : slim (.tuple ds) = (decide (ds.length ≤ 900) && slimAll ds) := by simp only [slim]
        rw [h1, Bool.and_eq_true] at hsl
        have l9 : ds.length ≤ 900 := of_decide_eq_true hsl.1
        have hdep : PyData.depthAll ds < n := by
          simp only [PyData.depth] at hdp
          omega
        have le := dq_len g
        refine lc_tup (K := K) (a := a) (xs := xs) (fun i H2 => Same H H2 ∧ ∃ ws, H2 D = some (.lst ws) ∧ ws.length = i ∧ DqAll K (nw (upd H D (.lst [])) H2) ws (ds.take i)) (start nD) (fun i H2 _ hp => same_t hp.1 h) ?_ ?_
        · intro i x H2 hx hp
          exact ⟨rfl, x, rfl, turn g hdep hsl.2 l9 nD hx hp fun y H4 z => z⟩
        · rintro H2 ⟨s2, ws, e2, l2, g2⟩
          refine ⟨D, ws, rfl, .inl ⟨.inl (.inl e2), fun t nt => ?_⟩⟩
          have nHt : H t = none := s2.free nt
          refine q _ _ (s2.trans (same_upd nt)) (Dq.tup (.inl (.inl ((nw_at nHt).trans upd_same))) ?_)
          rw [List.take_of_length_le (Nat.le_of_eq le.symm)] at g2
          exact DqAll.same ((base_ nD).trans (nw_mono (fun _ e => e) fun b o _ e => same_upd nt _ _ e)) g2
      | @dct a kvs ds h ne g =>
        have : slim (.dict ds) = false := by
          cases g with
          | nil => exact absurd rfl ne
          | cons _ _ => rfl
        rw [this] at hsl
        cases hsl
      | @dic a h =>
        refine iteF ?_
        refine ⟨.ref a, rfl, .ref a, .ty "tuple", _, _, _, rfl, .ty _, (Dq.dic h).ty, kit_ty (kit_tuple (.dict [])), _, rfl, iteF ?_⟩
        refine ⟨.ref a, rfl, .ref a, .ty "dict", _, _, _, rfl, .ty _, (Dq.dic h).ty, kit_ty (kit_dict (.dict [])), _, rfl, ?_⟩
        refine ⟨a, .dK [], h, trivial, fun od => ?_⟩
        refine ⟨.ref a, rfl, a, od, rfl, .inl ⟨[], upd_same, fun D nD => ?_⟩⟩
        have nDa : D ≠ a := fun e => by
          rw [e, upd_same] at nD
          cases nD
        have nHD : H D = none := by
          rw [upd_ne nDa] at nD
          exact nD
        refine ⟨fun i m H2 => H2 = upd (upd H a (.frz od (.dK []))) D (.dK []), ⟨0, rfl⟩, ?_⟩
        rintro i m H2 rfl
        refine .inl ⟨⟨?_, Nat.zero_le _⟩, ?_, ?_⟩
        · rw [upd_ne nDa.symm, upd_same]
        · rw [upd_ne nDa.symm, upd_same]
        · refine q _ _ (fun b o e => ?_) (Dq.dic ?_)
          · by_cases hb : b = a
            · subst hb
              rw [upd_same]
              rw [h] at e
              exact e
            · rw [upd_ne hb, upd_ne (ne_of_none e nHD), upd_ne hb]
              exact e
          · rw [nw_at nHD, upd_ne nDa, upd_same]
      | non => exact ⟨_, rfl, _, .ty "tuple", _, _, _, rfl, .ty _, Dq.ty .non, kit_ty (kit_tuple .none), _, rfl, _, rfl, _, .ty "dict", _, _, _, rfl, .ty _, Dq.ty .non, kit_ty (kit_dict .none), _, rfl, _, rfl, q _ H (Same.refl H) Dq.non⟩
      | bl b => exact ⟨_, rfl, _, .ty "tuple", _, _, _, rfl, .ty _, Dq.ty (.bl b), kit_ty (kit_tuple (.bool b)), _, rfl, _, rfl, _, .ty "dict", _, _, _, rfl, .ty _, Dq.ty (.bl b), kit_ty (kit_dict (.bool b)), _, rfl, _, rfl, q _ H (Same.refl H) (Dq.bl b)⟩
      | int i => exact ⟨_, rfl, _, .ty "tuple", _, _, _, rfl, .ty _, Dq.ty (.int i), kit_ty (kit_tuple (.int i)), _, rfl, _, rfl, _, .ty "dict", _, _, _, rfl, .ty _, Dq.ty (.int i), kit_ty (kit_dict (.int i)), _, rfl, _, rfl, q _ H (Same.refl H) (Dq.int i)⟩
      | str z => exact ⟨_, rfl, _, .ty "tuple", _, _, _, rfl, .ty _, Dq.ty (.str z), kit_ty (kit_tuple (.str z)), _, rfl, _, rfl, _, .ty "dict", _, _, _, rfl, .ty _, Dq.ty (.str z), kit_ty (kit_dict (.str z)), _, rfl, _, rfl, q _ H (Same.refl H) (Dq.str z)⟩
end

abbrev s_iniInvalidFields : Stmt := inClass (topS 5) 0
abbrev W_iniInvalidFields : IniW := ⟨"__init__", "InvalidFields.__init__", defArgs s_iniInvalidFields, defBody s_iniInvalidFields, defScope s_iniInvalidFields⟩
abbrev N_iniInvalidFields : List Str := ["self", "index", "__class__"]
theorem sc_iniInvalidFields : NdefX.NScope N_iniInvalidFields ["self", "index"] ["__class__"] (defScope s_iniInvalidFields) := NdefX.nscope_by (by decide +kernel)
theorem ok_iniInvalidFields {P : Program} {w : World} {K : PySem.W.Frag} {mg : Str → Option Value} {base : Heap} {f : Addr} {fd : FuncData} {C cc cda : Addr} (T : ExcK K C (tlOf "ValueError") "ValueError.__new__") (S : IniK P K mg W_iniInvalidFields f cc cda C "ValueError" "ValueError.__init__") (hno : PySem.W.findIn K (.ref C) "index" = some none)
    (hfd : ∃ (oc : Value) (od : Option Addr) (osl : Array (Option Value)), K.lookup f = some ⟨oc, od, .func fd, osl⟩) : FnOk P w K mg base CX0 1 f fd ["self", "index"] (sp_iniI "index" C) := by
  refine ini_ok (N := N_iniInvalidFields) exb_V T S rfl sc_iniInvalidFields rfl (fun vs H Q E h => ?_) (fun vs H Q E h => ?_) (fun L => ⟨_, rfl⟩) (fun A outer s H vs Q E hr h => ?_) hfd
  · obtain ⟨a, v, rfl, _⟩ := h
    rfl
  · obtain ⟨a, v, rfl, ha, _⟩ := h
    exact ⟨a, rfl, ha⟩
  · obtain ⟨a, v, rfl, ha, q⟩ := h
    refine ⟨_, pss_one (ps_ostB exb_V (pv 0) (pv 1)), ?_⟩
    exact ⟨v, rfl, .ref a, rfl, a, C, rfl, T, hno, ha, fun dx nd ne => q dx nd ne⟩

abbrev s_iniUnknownField : Stmt := inClass (topS 8) 0
abbrev W_iniUnknownField : IniW := ⟨"__init__", "UnknownField.__init__", defArgs s_iniUnknownField, defBody s_iniUnknownField, defScope s_iniUnknownField⟩
abbrev N_iniUnknownField : List Str := ["self", "value", "__class__"]
theorem sc_iniUnknownField : NdefX.NScope N_iniUnknownField ["self", "value"] ["__class__"] (defScope s_iniUnknownField) := NdefX.nscope_by (by decide +kernel)
theorem ok_iniUnknownField {P : Program} {w : World} {K : PySem.W.Frag} {mg : Str → Option Value} {base : Heap} {f : Addr} {fd : FuncData} {C cc cda : Addr} {n : Nat} {fK : Addr} {fdK : FuncData} (T : ExcK K C (tlOf "LookupError") "LookupError.__new__") (S : IniK P K mg W_iniUnknownField f cc cda C "LookupError" "LookupError.__init__") (hno : PySem.W.findIn K (.ref C) "value" = some none)
    (hfd : ∃ (oc : Value) (od : Option Addr) (osl : Array (Option Value)), K.lookup f = some ⟨oc, od, .func fd, osl⟩) (O_kept : Own P w K mg base CX0 (n + 2) "kept" ["value"] (sp_kept K (n + 1)) fK fdK) : FnOk P w K mg base CX0 (n + 3) f fd ["self", "value"] (sp_iniV K C n) := by
  refine ini_ok (N := N_iniUnknownField) exb_L T S rfl sc_iniUnknownField rfl (fun vs H Q E h => ?_) (fun vs H Q E h => ?_) (fun L => ⟨_, rfl⟩) (fun A outer s H vs Q E hr h => ?_) hfd
  · obtain ⟨a, v, d, rfl, _⟩ := h
    rfl
  · obtain ⟨a, v, d, rfl, ha, _⟩ := h
    exact ⟨a, rfl, ha⟩
  · obtain ⟨a, v, d, rfl, ha, hd, hdp, hsl, q⟩ := h
    refine ⟨_, pss_one (ps_ostB exb_L (pv 0) (pe_own O_kept hr (pa_cons (pv 1) pa_nil))), ?_⟩
    refine ⟨v, rfl, v, d, rfl, hd, hdp, hsl, fun v' H' s' fr => ?_⟩
    exact ⟨.ref a, rfl, a, C, rfl, T, hno, s' _ _ ha, fun dx nd ne => q v' H' dx s' fr nd ne⟩

abbrev s_iniInvalidNumber : Stmt := inClass (topS 4) 0
abbrev W_iniInvalidNumber : IniW := ⟨"__init__", "InvalidNumber.__init__", defArgs s_iniInvalidNumber, defBody s_iniInvalidNumber, defScope s_iniInvalidNumber⟩
abbrev N_iniInvalidNumber : List Str := ["self", "value", "__class__"]
theorem sc_iniInvalidNumber : NdefX.NScope N_iniInvalidNumber ["self", "value"] ["__class__"] (defScope s_iniInvalidNumber) := NdefX.nscope_by (by decide +kernel)
theorem ok_iniInvalidNumber {P : Program} {w : World} {K : PySem.W.Frag} {mg : Str → Option Value} {base : Heap} {f : Addr} {fd : FuncData} {C cc cda : Addr} {n : Nat} {fK : Addr} {fdK : FuncData} (T : ExcK K C (tlOf "ValueError") "ValueError.__new__") (S : IniK P K mg W_iniInvalidNumber f cc cda C "ValueError" "ValueError.__init__") (hno : PySem.W.findIn K (.ref C) "value" = some none)
    (hfd : ∃ (oc : Value) (od : Option Addr) (osl : Array (Option Value)), K.lookup f = some ⟨oc, od, .func fd, osl⟩) (O_kept : Own P w K mg base CX0 (n + 2) "kept" ["value"] (sp_kept K (n + 1)) fK fdK) : FnOk P w K mg base CX0 (n + 3) f fd ["self", "value"] (sp_iniV K C n) := by
  refine ini_ok (N := N_iniInvalidNumber) exb_V T S rfl sc_iniInvalidNumber rfl (fun vs H Q E h => ?_) (fun vs H Q E h => ?_) (fun L => ⟨_, rfl⟩) (fun A outer s H vs Q E hr h => ?_) hfd
  · obtain ⟨a, v, d, rfl, _⟩ := h
    rfl
  · obtain ⟨a, v, d, rfl, ha, _⟩ := h
    exact ⟨a, rfl, ha⟩
  · obtain ⟨a, v, d, rfl, ha, hd, hdp, hsl, q⟩ := h
    refine ⟨_, pss_one (ps_ostB exb_V (pv 0) (pe_own O_kept hr (pa_cons (pv 1) pa_nil))), ?_⟩
    refine ⟨v, rfl, v, d, rfl, hd, hdp, hsl, fun v' H' s' fr => ?_⟩
    exact ⟨.ref a, rfl, a, C, rfl, T, hno, s' _ _ ha, fun dx nd ne => q v' H' dx s' fr nd ne⟩

section
variable {P : Program} {w : World} {K : PySem.W.Frag} {mg : Str → Option Value} {base : Heap} {f : Addr} {fd : FuncData} {fD : Addr} {fdD : FuncData}
theorem ok_mixed (F : FnP K "_law_mixed" s_mixed f fd) (T : Tz mg) (O_draw : Own P w K mg base CX0 1 "_law_draw" ["_law_pot_here", "_law_many"] sp_draw fD fdD) : FnOk P w K mg base CX0 2 f fd ["_law_pot_here", "_law_given"] (sp_mixed K) := by
  refine F.ok sc_mixed (fun vs H Q E h => ?_) (fun cdv A outer s H vs Q E hr h => ?_)
  · obtain ⟨a, l, xs, rfl, _⟩ := h
    rfl
  · obtain ⟨a, l, xs, rfl, hp, hs, hs2, hl, qq⟩ := h
    refine ⟨_, PSs.nox (pss_cons (ps_set (i := 2) sc_mixed.nd rfl (Or.inr rfl) (pe_callTy call_list_of (by rfl) T.z_list (by decide +kernel) (pa_cons (pv 1) pa_nil)))
      (pss_one (ps_ret (pe_lc (own := [("_law_k", 3)]) (g := gName 3) (tt := tYes) (te := tBM K "list" rPopAt (tVar 2) (tCons (tCall sp_draw [] E0 (tCons (tVar 0) (tCons (tCB (rLenQ K) (tCons (tVar 2) tNil)) tNil))) tNil)) rfl sc_mixed.nd (pi_range1 (by rfl) T.z_range (pa_cons (pe_callB call_len_seq (by rfl) T.z_len (by decide +kernel) (pa_cons (pv 1) pa_nil)) pa_nil)) (blkOk_by (own := [("_law_k", 3)]) (N := N_mixed) (sc := defScope s_mixed) (by decide +kernel)) (fun _ _ _ _ _ => pg_name (i := 3) sc_mixed.nd rfl (Or.inl rfl)) (fun _ _ _ _ _ => pts_nil) (fun _ _ _ _ _ => (pe_bm PySem.F.plainAttrs_list PySem.F.slot_list_pop PySem.F.type_list_pop mt_popAt (pv 2) (pa_cons (pe_own O_draw (hr.mono (by first | decide | omega)) (pa_cons (pv 0) (pa_cons (pe_callB (show CallR _ _ (rLenQ K) from call_len_seq) (by rfl) T.z_len (by decide +kernel) (pa_cons (pv 2) pa_nil)) pa_nil))) pa_nil))))))), ?_⟩
    refine ⟨.ref l, rfl, l, xs, rfl, .inl hs, fun lf nf => ?_⟩
    have p1 := hp.new (o := .lst xs) nf
    have nfa : lf ≠ a := hp.ne nf
    refine ⟨.ref l, rfl, l, xs, rfl, .inl ((same_upd nf).seq hs), _, rfl, by omega, by omega, fun D nD => ?_⟩
    have nDa : D ≠ a := p1.ne nD
    have nDf : lf ≠ D := fun z => by
      rw [← z, upd_same] at nD
      cases nD
    have nHD : H D = none := (same_upd nf).free nD
    refine lc_range (lo := 0) (n := _) (fun i H2 => PotAt H2 a ∧ Off a H H2 ∧ ∃ ys zs, H2 D = some (.lst ys) ∧ H2 lf = some (.lst zs) ∧ (ys ++ zs).Perm xs ∧ ys.length = i) ⟨p1.put nDa, (Off.new nf).put nHD, [], xs, upd_same, ?_, List.Perm.refl _, rfl⟩ ?_ ?_
    · rw [upd_ne nDf, upd_same]
    · rintro i H2 hi ⟨p2, o2, ys, zs, e1, e2, pm, hl2⟩
      have hi2 : i < xs.length := by
        have : (xs.length : Int).toNat = xs.length := by omega
        omega
      have hz : ys.length + zs.length = xs.length := by
        rw [← List.length_append]
        exact pm.length_eq
      refine ⟨rfl, .ref lf, rfl, ?_, .ref a, rfl, .ref lf, rfl, lf, zs, rfl, .inl (.inl (.inl e2)), a, zs.length, rfl, p2, by omega, by omega, fun r H3 r0 r1 p3 o3 => ?_⟩
      · exact .inl ⟨rfl, zs, .inl (.inl e2)⟩
      obtain ⟨y, hy, _, ey⟩ := at_in (xs := zs) r0 r1
      obtain ⟨j, hj, hyj, hjl, _⟩ := atI_get ey
      refine ⟨lf, zs, r, j, y, rfl, rfl, o3.get e2 nfa, by omega, by omega, hj, hyj, ys, ?_, small1000 (by omega), ?_⟩
      · rw [upd_ne (Ne.symm nDf)]
        exact o3.get e1 nDa
      · refine ⟨(p3.put nfa).put nDa, ((o2.trans o3).put ?_).put nHD, ys ++ [y], zs.eraseIdx j, upd_same, ?_, ?_, by rw [List.length_append, hl2]; rfl⟩
        · exact nf
        · rw [upd_ne nDf, upd_same]
        · refine List.Perm.trans ?_ pm
          rw [List.append_assoc]
          refine List.Perm.append_left ys ?_
          exact erase_perm hyj
    · rintro H2 ⟨p2, o2, ys, zs, e1, e2, pm, hl2⟩
      refine qq D ys H2 p2 o2 nHD e1 ?_
      have hz : ys.length + zs.length = xs.length := by
        rw [← List.length_append]
        exact pm.length_eq
      have z0 : zs = [] := List.eq_nil_of_length_eq_zero (by omega)
      rw [z0, List.append_nil] at pm
      exact pm
end

abbrev FnM (K : PySem.W.Frag) (q x : Str) (st : Stmt) (f : Addr) (fd : FuncData) : Prop := FunD K x q (defArgs st) (defBody st) (defScope st) [] [] f fd
section
variable {P : Program} {w : World} {K : PySem.W.Frag} {mg : Str → Option Value} {base : Heap} {f : Addr} {fd : FuncData} {C CF CT CU fN fI fC : Addr} {fdN fdI : FuncData}
theorem ok_Sheet_init (F : FnM K "Sheet.__init__" "__init__" s_Sheet_init f fd) (T : Tz mg) (SC : ShC K C) (mC_Sheet : mg "Sheet" = some (.ref C)) (CR : ClX.CRead K C (.type "type")) (CN : ConI K C "MAX_FIELDS" 12)
    (E_InvalidFields : OwnE P w K mg base 1 "InvalidFields" ["self", "index"] (sp_iniI "index" CF) CF fI fdI (tlOf "ValueError") "ValueError.__new__") (O_first_wrong_name : Own P w K mg base CX0 2 "first_wrong_name" ["values", "most"] (sp_fwn K) fN fdN) :
    FnOk P w K mg base (L2.CX P w) 3 f fd ["self", "fields"] (Dl.sp_shInitN K C CF) := by
  refine F.ok sc_Sheet_init (fun vs H Q E h => ?_) (fun cdv A outer s H vs Q E hr h => ?_)
  · obtain ⟨a, dx, v, d, rfl, _⟩ := h
    rfl
  · obtain ⟨a, dx, v, d, rfl, ha, hd, hs, ho, qq, qp⟩ := h
    refine ⟨_, (pss_cons (ps_set (i := 2) sc_Sheet_init.nd rfl (Or.inl rfl) (pe_own O_first_wrong_name (hr.mono (by first | decide | omega)) (pa_cons (pv 1) (pa_cons (ClX.pe_cval (pe_cls mC_Sheet)) pa_nil))))
      (pss_cons (ps_if (pt_cmpR op_notN (pv 2) pe_non (nomark _)) (pss_one (ps_raise rfl (takes_of rfl rfl rfl rfl) (pmk_e exb_V E_InvalidFields (hr.mono (by first | decide | omega)) (pa_cons (pv 2) pa_nil)))) pss_nil)
      (pss_one (ps_fld (pv 0) (pe_callTy call_tupleF (by rfl) T.z_tuple (by decide +kernel) (pa_cons (pv 1) pa_nil)) rfl)))), ?_⟩
    obtain ⟨u, hu⟩ := CN.c
    refine ⟨v, rfl, C, .type "type", .int 12, u, rfl, CR, hu, v, d, rfl, hd.same off_under, hs, fun H1 s1 => ?_⟩
    have ha1 := s1 _ _ ha
    cases e : fwD d with
    | some i =>
      have ev : fwV d = .int i := by unfold fwV; rw [e]
      rw [ev]
      refine ⟨_, rfl, rfl, _, rfl, iteT ⟨_, rfl, raise_I ((ho i e).later s1)⟩⟩
    | none =>
      have ev : fwV d = .non := by unfold fwV; rw [e]
      rw [ev]
      refine ⟨_, rfl, rfl, _, rfl, iteF ⟨v, rfl, ?_⟩⟩
      cases hd with
      | lst h g =>
        obtain ⟨ns, rfl, nm⟩ := fwL_none e
        cases dq_strs g
        refine ⟨_, _, rfl, .inl ⟨(s1.seq (off_under.seq h)), fun t ob nt od => ?_⟩⟩
        have nta : t ≠ a := (ne_of_none ha1 nt).symm
        refine ⟨.ref a, rfl, a, C, dx, [], rfl, by rw [upd_ne nta.symm]; exact ha1, SC.c, SC.no, by show 0 < 1000; decide, ?_⟩
        refine qp ns _ t ob rfl nm ?_ (s1.free nt) upd_same (by rw [upd_ne nta, upd_same]) od
        exact ((Off.same s1).trans (Off.new nt)).trans Off.at
      | @tup t xs ds h g =>
        obtain ⟨ns, rfl, nm⟩ := fwL_none e
        cases dq_strs g
        refine ⟨_, _, rfl, .inr ⟨same_t s1 (same_t off_under h), ?_⟩⟩
        refine ⟨.ref a, rfl, a, C, dx, [], rfl, ha1, SC.c, SC.no, by show 0 < 1000; decide, ?_⟩
        refine qq ns _ t rfl nm ((Off.same s1).trans Off.at) upd_same ?_
        have o : Off a H (upd H1 a (.ins C dx (putF "listed" (.ref t) []))) := (Off.same s1).trans Off.at
        exact same_t off_under (same_t o h)
      | _ => cases e
end

end K16




set_option Elab.async false
set_option linter.all false
set_option maxRecDepth 100000
set_option maxHeartbeats 4000000
namespace K16
open PySem PySem.Spec PyProof.Rows L2 Lw

open Dl
def eqnD (n : Nat) : PyData → Bool
  | .tuple ds => decide (ds.length = n) && ds.all intD
  | _ => false
def aHas (C : Addr) : ASp := fun xs k _ => ∃ ns d, xs = [.sh C ns, .d d] ∧ k (.d (.bool (hasD ns d)))
def aChk (C CU : Addr) : ASp := fun xs k e => ∃ ns d, xs = [.sh C ns, .d d] ∧ (hasD ns d = true → k (.d .none)) ∧ (hasD ns d = false → d.depth ≤ 5 ∧ slim d = true ∧ e CU [("value", d)])
def aIsEq (C : Addr) : ASp := fun xs k _ => ∃ ns d, xs = [.sh C ns, .d d] ∧ (∀ ds, d = .tuple ds → ds.length ≤ 900) ∧ k (.d (.bool (eqnD ns.length d)))
def aFields (C : Addr) : ASp := fun xs k _ => ∃ ns, xs = [.sh C ns] ∧ k (.d (.list (ns.map PyData.str)))
def unk (ns : List Str) (kvs : List (Str × PyData)) : Option Str := (kvs.find? fun q => !decide (q.1 ∈ ns)).map (·.1)
def badN (kvs : List (Str × PyData)) : Option PyData := (kvs.find? fun q => !intD q.2).map (·.2)
def eqnOf (ns : List Str) (kvs : List (Str × PyData)) : PyData := .tuple (ns.map fun n => (kvs.lookup n).getD (.int 0))
def aEqn (C CU CN : Addr) : ASp := fun xs k e => ∃ ns kvs, xs = [.sh C ns, .kd kvs] ∧ ns.length ≤ 12 ∧ (kvs.map (·.1)).Nodup ∧ (∀ q ∈ kvs, q.2.depth ≤ 5 ∧ slim q.2 = true) ∧
  match unk ns kvs with
  | some z => e CU [("value", .str z)]
  | none => match badN kvs with
    | some y => e CN [("value", y)]
    | none => k (.d (eqnOf ns kvs))
theorem lookup_at : ∀ {kvs : List (Str × PyData)} {z : Str} {y : PyData}, (kvs.map (·.1)).Nodup → (z, y) ∈ kvs → kvs.lookup z = some y
  | (x, v) :: r, z, y, nd, h => by
    obtain ⟨h1, h2⟩ := List.nodup_cons.mp (show (x :: r.map (·.1)).Nodup from nd)
    rcases List.mem_cons.mp h with e | e
    · cases e
      simp [List.lookup]
    · have ne : (z == x) = false := by
        simpa using fun q : z = x => h1 (by rw [← q]; exact List.mem_map_of_mem (f := (·.1)) e)
      simp only [List.lookup, ne]
      exact lookup_at h2 e
theorem find_first {α : Type} {p : α → Bool} {a b : List α} {x : α} (h1 : ∀ y ∈ a, p y = false) (h2 : p x = true) : (a ++ x :: b).find? p = some x := by
  induction a with
  | nil => simp [h2]
  | cons y a ih =>
    rw [List.cons_append, List.find?_cons_of_neg (by rw [h1 y List.mem_cons_self]; decide)]
    exact ih fun z hz => h1 z (List.mem_cons_of_mem _ hz)
section
variable {P : Program} {w : World} {K : PySem.W.Frag} {mg : Str → Option Value} {base : Heap} {f : Addr} {fd : FuncData} {C CU CN fI fC : Addr} {fdI fdC fdH : FuncData}
theorem z_has_field (F : FnM K "Sheet.has_field" "has_field" s_Sheet_has_field f fd) (T : Tz mg) (SC : ShC K C) : FZ P w K mg base false 1 f fd ["self", "value"] (aHas C) := by
  refine fz_ok F sc_Sheet_has_field ⟨fun xs k k' e e' hk he ⟨ns, d, h1, h3⟩ => ⟨ns, d, h1, hk _ h3⟩, fun xs k e ⟨ns, d, h1, _⟩ => by rw [h1]; rfl⟩ (fun cdv A outer s H E Z hr => (dss_one (ds_ret (de_and (de_callB ca_isi mono_isi (by rfl) T.z_isinstance (by decide +kernel) (da_cons (de_v (pv 1)) (da_cons (de_raw (pe_bltn (v := .ty "str") (by rfl) T.z_str (by decide +kernel) rfl)) da_nil))) (de_one (de_cmp oa_in mono_in (de_v (pv 1)) (de_listed SC (de_v (pv 0))) (by with_unfolding_all rfl))))))) (fun xs k e h => ?_)
  obtain ⟨ns, d, rfl, q⟩ := h
  simp only [sRet, sRetN, sSeq, sNext, sIf, sDrop, sSet, sSetL, sPar, sOwn, sApp, sAppL, sFor, sAsg, sBreak, sCont, dRaise, dTry1, dTry2, try1E, try2E, xTake, endX, dXf, dC, dV, dBin, dUn, dB, dTru, dNot, dAnd, dOr, dAndV, dOrV, dNotV, dIf, dNil, dCons, datas, dDisp, dBlt, dCall, dCallK, dMeth, dMethK, dMethS, dBm, dChain, dSl, dNo, dPt, dOfF, fDisp, fList, fLc, dGet2, dYes, bAdd, bSub, bFdiv, bMod, bPow, bMul, bLt, bLe, bGt, bGe, bI, bI0, bEq, bNe, bIn, bNotIn, bInG, bIs, bIsNot, bIx, bSl, bNeg, bListed, bGet, baLen, baIsi, baAll, baAny, baAbs, baMax, baMin, baI1, baI2, baList, baTup, baInt, baStr, baRepr, bmIndex, iL, iT, iS, iR1, iE, iK, gN, gT, gNs, isLst, isTxt, InsA, flatA, bodyE, startG, frz_nil, frz_cons, frz_va, frz_no, frz_own, List.map_cons, List.map_nil, List.length_cons, List.length_nil, List.replicate, List.append_nil, List.cons_append, List.nil_append, List.set_cons_zero, List.set_cons_succ, List.set_nil, List.getElem?_cons_zero, List.getElem?_cons_succ, wipeG, Nat.reduceAdd, Nat.reduceSub, Nat.reduceLeDiff, line_lit, eqOk_int, eqOk_str, eqv_int, eqv_str, decide_eq_true_eq, true_and, and_true, Bool.true_or, if_true, reduceIte, Bool.not_true, Bool.not_false, Bool.false_eq_true, if_false, N_Sheet_has_field]
  refine ⟨isS d, isi_str d, ?_⟩
  cases d with
  | str z =>
    refine ⟨⟨rfl, flat_names ns⟩, ?_⟩
    rw [in_names]
    exact q
  | _ => exact q
theorem z_fields (F : FnM K "Sheet.fields" "fields" s_Sheet_fields f fd) (T : Tz mg) (SC : ShC K C) : FZ P w K mg base false 1 f fd ["self"] (aFields C) := by
  refine fz_ok F sc_Sheet_fields ⟨fun xs k k' e e' hk he ⟨ns, h1, h3⟩ => ⟨ns, h1, hk _ h3⟩, fun xs k e ⟨ns, h1, _⟩ => by rw [h1]; rfl⟩ (fun cdv A outer s H E Z hr => (dss_one (ds_ret (de_callTy ca_list mono_list (by rfl) T.z_list (by decide +kernel) (da_cons (de_listed SC (de_v (pv 0))) da_nil))))) (fun xs k e h => ?_)
  obtain ⟨ns, rfl, q⟩ := h
  simp only [sRet, sRetN, sSeq, sNext, sIf, sDrop, sSet, sSetL, sPar, sOwn, sApp, sAppL, sFor, sAsg, sBreak, sCont, dRaise, dTry1, dTry2, try1E, try2E, xTake, endX, dXf, dC, dV, dBin, dUn, dB, dTru, dNot, dAnd, dOr, dAndV, dOrV, dNotV, dIf, dNil, dCons, datas, dDisp, dBlt, dCall, dCallK, dMeth, dMethK, dMethS, dBm, dChain, dSl, dNo, dPt, dOfF, fDisp, fList, fLc, dGet2, dYes, bAdd, bSub, bFdiv, bMod, bPow, bMul, bLt, bLe, bGt, bGe, bI, bI0, bEq, bNe, bIn, bNotIn, bInG, bIs, bIsNot, bIx, bSl, bNeg, bListed, bGet, baLen, baIsi, baAll, baAny, baAbs, baMax, baMin, baI1, baI2, baList, baTup, baInt, baStr, baRepr, bmIndex, iL, iT, iS, iR1, iE, iK, gN, gT, gNs, isLst, isTxt, InsA, flatA, bodyE, startG, frz_nil, frz_cons, frz_va, frz_no, frz_own, List.map_cons, List.map_nil, List.length_cons, List.length_nil, List.replicate, List.append_nil, List.cons_append, List.nil_append, List.set_cons_zero, List.set_cons_succ, List.set_nil, List.getElem?_cons_zero, List.getElem?_cons_succ, wipeG, Nat.reduceAdd, Nat.reduceSub, Nat.reduceLeDiff, line_lit, eqOk_int, eqOk_str, eqv_int, eqv_str, decide_eq_true_eq, true_and, and_true, Bool.true_or, if_true, reduceIte, Bool.not_true, Bool.not_false, Bool.false_eq_true, if_false, N_Sheet_fields]
  exact q
theorem z_is_integer (F : FnP K "is_integer" s_is_integer f fd) (T : Tz mg) : FZ P w K mg base false 1 f fd ["value"] (aOne (fun _ => True) fun d => .bool (intD d)) := by
  refine fz_ok F sc_is_integer sp_one (fun cdv A outer s H E Z hr => (dss_one (ds_ret (de_and (de_callB ca_isi mono_isi (by rfl) T.z_isinstance (by decide +kernel) (da_cons (de_v (pv 0)) (da_cons (de_raw (pe_bltn (v := .ty "int") (by rfl) T.z_int (by decide +kernel) rfl)) da_nil))) (de_one (de_not (de_callB ca_isi mono_isi (by rfl) T.z_isinstance (by decide +kernel) (da_cons (de_v (pv 0)) (da_cons (de_raw (pe_bltn (v := .ty "bool") (by rfl) T.z_bool (by decide +kernel) rfl)) da_nil))))))))) (fun xs k e h => ?_)
  obtain ⟨d, rfl, _, q⟩ := h
  simp only [sRet, sRetN, sSeq, sNext, sIf, sDrop, sSet, sSetL, sPar, sOwn, sApp, sAppL, sFor, sAsg, sBreak, sCont, dRaise, dTry1, dTry2, try1E, try2E, xTake, endX, dXf, dC, dV, dBin, dUn, dB, dTru, dNot, dAnd, dOr, dAndV, dOrV, dNotV, dIf, dNil, dCons, datas, dDisp, dBlt, dCall, dCallK, dMeth, dMethK, dMethS, dBm, dChain, dSl, dNo, dPt, dOfF, fDisp, fList, fLc, dGet2, dYes, bAdd, bSub, bFdiv, bMod, bPow, bMul, bLt, bLe, bGt, bGe, bI, bI0, bEq, bNe, bIn, bNotIn, bInG, bIs, bIsNot, bIx, bSl, bNeg, bListed, bGet, baLen, baIsi, baAll, baAny, baAbs, baMax, baMin, baI1, baI2, baList, baTup, baInt, baStr, baRepr, bmIndex, iL, iT, iS, iR1, iE, iK, gN, gT, gNs, isLst, isTxt, InsA, flatA, bodyE, startG, frz_nil, frz_cons, frz_va, frz_no, frz_own, List.map_cons, List.map_nil, List.length_cons, List.length_nil, List.replicate, List.append_nil, List.cons_append, List.nil_append, List.set_cons_zero, List.set_cons_succ, List.set_nil, List.getElem?_cons_zero, List.getElem?_cons_succ, wipeG, Nat.reduceAdd, Nat.reduceSub, Nat.reduceLeDiff, line_lit, eqOk_int, eqOk_str, eqv_int, eqv_str, decide_eq_true_eq, true_and, and_true, Bool.true_or, if_true, reduceIte, Bool.not_true, Bool.not_false, Bool.false_eq_true, if_false, N_is_integer]
  refine ⟨isI d, isi_int d, ?_⟩
  have q : k (Av.d (.bool (isI d && !isB d))) := q
  cases e1 : isI d with
  | false =>
    rw [e1] at q
    exact q
  | true =>
    rw [e1] at q
    exact ⟨isB d, isi_bool d, q⟩
theorem z_is_equation (F : FnM K "Sheet.is_equation" "is_equation" s_Sheet_is_equation f fd) (T : Tz mg) (SC : ShC K C) (O_is_integer : OZ P w K mg base false 1 "is_integer" ["value"] (aOne (fun _ => True) fun d => .bool (intD d)) fI fdI) :
    FZ P w K mg base false 2 f fd ["self", "value"] (aIsEq C) := by
  refine fz_ok F sc_Sheet_is_equation ⟨fun xs k k' e e' hk he ⟨ns, d, h1, h2, h3⟩ => ⟨ns, d, h1, h2, hk _ h3⟩, fun xs k e ⟨ns, d, h1, _⟩ => by rw [h1]; rfl⟩ (fun cdv A outer s H E Z hr => (dss_cons (ds_if (dt_w (dw_or (dt_not (dt_b (de_callB ca_isi mono_isi (by rfl) T.z_isinstance (by decide +kernel) (da_cons (de_v (pv 1)) (da_cons (de_raw (pe_bltn (v := .ty "tuple") (by rfl) T.z_tuple (by decide +kernel) rfl)) da_nil))))) (dw_or1 (dt_cmp (oa_ne hr.units) mono_ne (de_callB ca_len mono_len (by rfl) T.z_len (by decide +kernel) (da_cons (de_v (pv 1)) da_nil)) (de_callB ca_len mono_len (by rfl) T.z_len (by decide +kernel) (da_cons (de_listed SC (de_v (pv 0))) da_nil)) (nomark _))))) (dss_one (ds_ret de_bl)) dss_nil)
      (dss_one (ds_ret (de_callB (ca_all rfl) mono_all (by rfl) T.z_all (by decide +kernel) (da_cons (de_f (df_lc (own := [("coefficient", 2)]) rfl sc_Sheet_is_equation.nd (di_tup (de_v (pv 1))) (blkOk_by (own := [("coefficient", 2)]) (N := N_Sheet_is_equation) (sc := defScope s_Sheet_is_equation) (by decide +kernel)) (fun _ _ _ _ _ _ => (dg_name (i := 2) sc_Sheet_is_equation.nd rfl (Or.inl rfl))) (fun _ _ _ _ _ _ => dts_nil) (fun _ _ _ _ _ _ => (de_call O_is_integer (fun z => nomatch z) takes0 (hr.mono (by first | decide | omega)) (da_cons (de_v (pv 2)) da_nil))))) da_nil)))))) (fun xs k e h => ?_)
  obtain ⟨ns, d, rfl, hl, q⟩ := h
  cases d with
  | tuple ds =>
    simp only [sRet, sRetN, sSeq, sNext, sIf, sDrop, sSet, sSetL, sPar, sOwn, sApp, sAppL, sFor, sAsg, sBreak, sCont, dRaise, dTry1, dTry2, try1E, try2E, xTake, endX, dXf, dC, dV, dBin, dUn, dB, dTru, dNot, dAnd, dOr, dAndV, dOrV, dNotV, dIf, dNil, dCons, datas, dDisp, dBlt, dCall, dCallK, dMeth, dMethK, dMethS, dBm, dChain, dSl, dNo, dPt, dOfF, fDisp, fList, fLc, dGet2, dYes, bAdd, bSub, bFdiv, bMod, bPow, bMul, bLt, bLe, bGt, bGe, bI, bI0, bEq, bNe, bIn, bNotIn, bInG, bIs, bIsNot, bIx, bSl, bNeg, bListed, bGet, baLen, baIsi, baAll, baAny, baAbs, baMax, baMin, baI1, baI2, baList, baTup, baInt, baStr, baRepr, bmIndex, iL, iT, iS, iR1, iE, iK, gN, gT, gNs, isLst, isTxt, InsA, flatA, bodyE, startG, frz_nil, frz_cons, frz_va, frz_no, frz_own, List.map_cons, List.map_nil, List.length_cons, List.length_nil, List.replicate, List.append_nil, List.cons_append, List.nil_append, List.set_cons_zero, List.set_cons_succ, List.set_nil, List.getElem?_cons_zero, List.getElem?_cons_succ, wipeG, Nat.reduceAdd, Nat.reduceSub, Nat.reduceLeDiff, line_lit, eqOk_int, eqOk_str, eqv_int, eqv_str, decide_eq_true_eq, true_and, and_true, Bool.true_or, if_true, reduceIte, Bool.not_true, Bool.not_false, Bool.false_eq_true, if_false, N_Sheet_is_equation]
    refine ⟨true, isi_tuple _, ?_⟩
    rw [if_neg (by decide)]
    have q : k (Av.d (.bool (decide (ds.length = ns.length) && ds.all Lw.intD))) := q
    have e1 : decide ((ds.length : Int) = ((ns.map PyData.str).length : Nat)) = decide (ds.length = ns.length) := by
      rw [List.length_map]
      by_cases h : ds.length = ns.length
      · rw [decide_eq_true h, decide_eq_true (by rw [h])]
      · rw [decide_eq_false h, decide_eq_false (by omega)]
    rw [e1]
    by_cases h : ds.length = ns.length
    · rw [decide_eq_true h] at q ⊢
      rw [if_neg (by decide)]
      refine ⟨by rw [List.length_map]; exact small1000 (by have := hl ds rfl; omega), dcomp_map (f := fun x => match x with
        | .d d => .bool (Lw.intD d)
        | _ => .none) (fun x hx k1 k2 q1 => ?_) ?_⟩
      · obtain ⟨d, _, rfl⟩ := List.mem_map.mp hx
        exact ⟨d, rfl, trivial, q1⟩
      · rw [List.map_map]
        refine ⟨ds.map Lw.intD, bools_of _ _, ?_⟩
        rw [List.all_map]
        exact q
    · rw [decide_eq_false h] at q ⊢
      exact q
  | _ =>
    simp only [sRet, sRetN, sSeq, sNext, sIf, sDrop, sSet, sSetL, sPar, sOwn, sApp, sAppL, sFor, sAsg, sBreak, sCont, dRaise, dTry1, dTry2, try1E, try2E, xTake, endX, dXf, dC, dV, dBin, dUn, dB, dTru, dNot, dAnd, dOr, dAndV, dOrV, dNotV, dIf, dNil, dCons, datas, dDisp, dBlt, dCall, dCallK, dMeth, dMethK, dMethS, dBm, dChain, dSl, dNo, dPt, dOfF, fDisp, fList, fLc, dGet2, dYes, bAdd, bSub, bFdiv, bMod, bPow, bMul, bLt, bLe, bGt, bGe, bI, bI0, bEq, bNe, bIn, bNotIn, bInG, bIs, bIsNot, bIx, bSl, bNeg, bListed, bGet, baLen, baIsi, baAll, baAny, baAbs, baMax, baMin, baI1, baI2, baList, baTup, baInt, baStr, baRepr, bmIndex, iL, iT, iS, iR1, iE, iK, gN, gT, gNs, isLst, isTxt, InsA, flatA, bodyE, startG, frz_nil, frz_cons, frz_va, frz_no, frz_own, List.map_cons, List.map_nil, List.length_cons, List.length_nil, List.replicate, List.append_nil, List.cons_append, List.nil_append, List.set_cons_zero, List.set_cons_succ, List.set_nil, List.getElem?_cons_zero, List.getElem?_cons_succ, wipeG, Nat.reduceAdd, Nat.reduceSub, Nat.reduceLeDiff, line_lit, eqOk_int, eqOk_str, eqv_int, eqv_str, decide_eq_true_eq, true_and, and_true, Bool.true_or, if_true, reduceIte, Bool.not_true, Bool.not_false, Bool.false_eq_true, if_false, N_Sheet_is_equation]
    exact ⟨false, isi_tuple _, q⟩
theorem z_check_field (F : FnP K "check_field" s_check_field f fd) (T : Tz mg) (M_Sheet_has_field : MZ P w K mg base false 1 C "has_field" ["self", "value"] (aHas C) fdH) (X_UnknownField : XZ P w K mg base 8 "UnknownField" CU (xV 5)) :
    FZ P w K mg base false 10 f fd ["sheet", "value"] (aChk C CU) := by
  refine fz_ok F sc_check_field ⟨fun xs k k' e e' hk he ⟨ns, d, h1, h2, h3⟩ => ⟨ns, d, h1, fun z => hk _ (h2 z), fun z => ⟨(h3 z).1, (h3 z).2.1, he _ _ (h3 z).2.2⟩⟩, fun xs k e ⟨ns, d, h1, _⟩ => by rw [h1]; rfl⟩ (fun cdv A outer s H E Z hr => (dss_one (ds_if (dt_not (dt_b (de_meth M_Sheet_has_field (fun z => nomatch z) (takes_of rfl rfl rfl rfl) (hr.mono (by first | decide | omega)) (de_v (pv 0)) (da_cons (de_v (pv 1)) da_nil)))) (dss_one (ds_raise X_UnknownField rfl (takes_of rfl rfl rfl rfl) (hr.mono (by first | decide | omega)) (da_cons (de_v (pv 1)) da_nil))) dss_nil))) (fun xs k e h => ?_)
  obtain ⟨ns, d, rfl, h1, h2⟩ := h
  simp only [sRet, sRetN, sSeq, sNext, sIf, sDrop, sSet, sSetL, sPar, sOwn, sApp, sAppL, sFor, sAsg, sBreak, sCont, dRaise, dTry1, dTry2, try1E, try2E, xTake, endX, dXf, dC, dV, dBin, dUn, dB, dTru, dNot, dAnd, dOr, dAndV, dOrV, dNotV, dIf, dNil, dCons, datas, dDisp, dBlt, dCall, dCallK, dMeth, dMethK, dMethS, dBm, dChain, dSl, dNo, dPt, dOfF, fDisp, fList, fLc, dGet2, dYes, bAdd, bSub, bFdiv, bMod, bPow, bMul, bLt, bLe, bGt, bGe, bI, bI0, bEq, bNe, bIn, bNotIn, bInG, bIs, bIsNot, bIx, bSl, bNeg, bListed, bGet, baLen, baIsi, baAll, baAny, baAbs, baMax, baMin, baI1, baI2, baList, baTup, baInt, baStr, baRepr, bmIndex, iL, iT, iS, iR1, iE, iK, gN, gT, gNs, isLst, isTxt, InsA, flatA, bodyE, startG, frz_nil, frz_cons, frz_va, frz_no, frz_own, List.map_cons, List.map_nil, List.length_cons, List.length_nil, List.replicate, List.append_nil, List.cons_append, List.nil_append, List.set_cons_zero, List.set_cons_succ, List.set_nil, List.getElem?_cons_zero, List.getElem?_cons_succ, wipeG, Nat.reduceAdd, Nat.reduceSub, Nat.reduceLeDiff, line_lit, eqOk_int, eqOk_str, eqv_int, eqv_str, decide_eq_true_eq, true_and, and_true, Bool.true_or, if_true, reduceIte, Bool.not_true, Bool.not_false, Bool.false_eq_true, if_false, N_check_field]
  refine ⟨by decide +kernel, ns, d, rfl, ?_⟩
  cases hh : hasD ns d with
  | true => exact h1 hh
  | false =>
    obtain ⟨g1, g2, g3⟩ := h2 hh
    exact ⟨d, rfl, g1, g2, g3⟩
theorem z_equation (F : FnM K "Sheet.equation" "equation" s_Sheet_equation f fd) (T : Tz mg) (SC : ShC K C) (O_check_field : OZ P w K mg base false 10 "check_field" ["sheet", "value"] (aChk C CU) fC fdC)
    (O_is_integer : OZ P w K mg base false 1 "is_integer" ["value"] (aOne (fun _ => True) fun d => .bool (Lw.intD d)) fI fdI) (X_InvalidNumber : XZ P w K mg base 8 "InvalidNumber" CN (xV 5)) :
    FS P w K mg base 11 f fd "self" "coefficients" (aEqn C CU CN) := by
  refine fs_ok F sc_Sheet_equation (fun xs k k' e e' hk he ⟨ns, kvs, h1, h2, h3, h4, h5⟩ => ⟨ns, kvs, h1, h2, h3, h4, ?_⟩) (fun cdv A outer s H E Z hr => (dss_cons (ds_for (passes_of rfl) rfl (di_keys (de_v (pv 1))) (fun _ => (dg_name (i := 2) sc_Sheet_equation.nd rfl (Or.inl rfl))) (fun _ => (dss_one (ds_expr (de_call O_check_field (fun z => nomatch z) (takes_of rfl rfl rfl rfl) (hr.mono (by first | decide | omega)) (da_cons (de_v (pv 0)) (da_cons (de_v (pv 2)) da_nil)))))))
      (dss_cons (ds_for (passes_of rfl) rfl (di_keys (de_v (pv 1))) (fun _ => (dg_name (i := 2) sc_Sheet_equation.nd rfl (Or.inl rfl))) (fun _ => (dss_one (ds_if (dt_not (dt_b (de_call O_is_integer (fun z => nomatch z) (takes_of rfl rfl rfl rfl) (hr.mono (by first | decide | omega)) (da_cons (de_dget (hu_of hr) (de_v (pv 1)) (de_v (pv 2)) (fun _ _ => rfl)) da_nil)))) (dss_one (ds_raise X_InvalidNumber rfl (takes_of rfl rfl rfl rfl) (hr.mono (by first | decide | omega)) (da_cons (de_dget (hu_of hr) (de_v (pv 1)) (de_v (pv 2)) (fun _ _ => rfl)) da_nil))) dss_nil))))
      (dss_one (ds_ret (de_callTy ca_tup mono_tup (by rfl) T.z_tuple (by decide +kernel) (da_cons (de_f (df_lc (own := [("field", 3)]) rfl sc_Sheet_equation.nd (di_tup (de_listed SC (de_v (pv 0)))) (blkOk_by (own := [("field", 3)]) (N := N_Sheet_equation) (sc := defScope s_Sheet_equation) (by decide +kernel)) (fun _ _ _ _ _ _ => (dg_name (i := 3) sc_Sheet_equation.nd rfl (Or.inl rfl))) (fun _ _ _ _ _ _ => dts_nil) (fun _ _ _ _ _ _ => (de_dget2 (hu_of hr) (de_v (pv 1)) (de_v (pv 3)) de_int ⟨rfl, rfl, rfl, rfl⟩)))) da_nil))))))) (fun xs k e h => ?_)
  · split at h5
    · exact he _ _ h5
    · split at h5
      · exact he _ _ h5
      · exact hk _ h5
  · obtain ⟨ns, kvs, rfl, hl, nd, sm, q⟩ := h
    simp only [sRet, sRetN, sSeq, sNext, sIf, sDrop, sSet, sSetL, sPar, sOwn, sApp, sAppL, sFor, sAsg, sBreak, sCont, dRaise, dTry1, dTry2, try1E, try2E, xTake, endX, dXf, dC, dV, dBin, dUn, dB, dTru, dNot, dAnd, dOr, dAndV, dOrV, dNotV, dIf, dNil, dCons, datas, dDisp, dBlt, dCall, dCallK, dMeth, dMethK, dMethS, dBm, dChain, dSl, dNo, dPt, dOfF, fDisp, fList, fLc, dGet2, dYes, bAdd, bSub, bFdiv, bMod, bPow, bMul, bLt, bLe, bGt, bGe, bI, bI0, bEq, bNe, bIn, bNotIn, bInG, bIs, bIsNot, bIx, bSl, bNeg, bListed, bGet, baLen, baIsi, baAll, baAny, baAbs, baMax, baMin, baI1, baI2, baList, baTup, baInt, baStr, baRepr, bmIndex, iL, iT, iS, iR1, iE, iK, gN, gT, gNs, isLst, isTxt, InsA, flatA, bodyE, startG, frz_nil, frz_cons, frz_va, frz_no, frz_own, List.map_cons, List.map_nil, List.length_cons, List.length_nil, List.replicate, List.append_nil, List.cons_append, List.nil_append, List.set_cons_zero, List.set_cons_succ, List.set_nil, List.getElem?_cons_zero, List.getElem?_cons_succ, wipeG, Nat.reduceAdd, Nat.reduceSub, Nat.reduceLeDiff, line_lit, eqOk_int, eqOk_str, eqv_int, eqv_str, decide_eq_true_eq, true_and, and_true, Bool.true_or, if_true, reduceIte, Bool.not_true, Bool.not_false, Bool.false_eq_true, if_false, N_Sheet_equation]
    refine dforL_inv (I := fun l Γ => ∃ done rest s2, kvs = done ++ rest ∧ l = rest.map (fun q => Av.d (PyData.str q.1)) ∧ (∀ q ∈ done, q.1 ∈ ns) ∧ Γ = [.va (.sh C ns), .va (.kd kvs), s2, .no]) (fun Γ h => ?_) (fun x xs Γ N h hN => ?_) _ _ ⟨[], kvs, .no, rfl, rfl, (fun q h => nomatch h), rfl⟩
    · obtain ⟨done, rest, s2, e1, e2, all, rfl⟩ := h
      have e3 : rest = [] := by
        cases rest with
        | nil => rfl
        | cons _ _ => cases e2
      subst e3
      rw [List.append_nil] at e1
      have un : unk ns kvs = none := by
        unfold unk
        rw [List.find?_eq_none.mpr fun q hq => by simp [all q (e1 ▸ hq)]]
        rfl
      rw [un] at q
      clear e1 e2 all done
      simp only [sRet, sRetN, sSeq, sNext, sIf, sDrop, sSet, sSetL, sPar, sOwn, sApp, sAppL, sFor, sAsg, sBreak, sCont, dRaise, dTry1, dTry2, try1E, try2E, xTake, endX, dXf, dC, dV, dBin, dUn, dB, dTru, dNot, dAnd, dOr, dAndV, dOrV, dNotV, dIf, dNil, dCons, datas, dDisp, dBlt, dCall, dCallK, dMeth, dMethK, dMethS, dBm, dChain, dSl, dNo, dPt, dOfF, fDisp, fList, fLc, dGet2, dYes, bAdd, bSub, bFdiv, bMod, bPow, bMul, bLt, bLe, bGt, bGe, bI, bI0, bEq, bNe, bIn, bNotIn, bInG, bIs, bIsNot, bIx, bSl, bNeg, bListed, bGet, baLen, baIsi, baAll, baAny, baAbs, baMax, baMin, baI1, baI2, baList, baTup, baInt, baStr, baRepr, bmIndex, iL, iT, iS, iR1, iE, iK, gN, gT, gNs, isLst, isTxt, InsA, flatA, bodyE, startG, frz_nil, frz_cons, frz_va, frz_no, frz_own, List.map_cons, List.map_nil, List.length_cons, List.length_nil, List.replicate, List.append_nil, List.cons_append, List.nil_append, List.set_cons_zero, List.set_cons_succ, List.set_nil, List.getElem?_cons_zero, List.getElem?_cons_succ, wipeG, Nat.reduceAdd, Nat.reduceSub, Nat.reduceLeDiff, line_lit, eqOk_int, eqOk_str, eqv_int, eqv_str, decide_eq_true_eq, true_and, and_true, Bool.true_or, if_true, reduceIte, Bool.not_true, Bool.not_false, Bool.false_eq_true, if_false]
      refine dforL_inv (I := fun l Γ => ∃ done rest s2, kvs = done ++ rest ∧ l = rest.map (fun q => Av.d (PyData.str q.1)) ∧ (∀ q ∈ done, Lw.intD q.2 = true) ∧ Γ = [.va (.sh C ns), .va (.kd kvs), s2, .no]) (fun Γ h => ?_) (fun x xs Γ N h hN => ?_) _ _ ⟨[], kvs, s2, rfl, rfl, (fun q h => nomatch h), rfl⟩
      · obtain ⟨done, rest, s2, e1, e2, all, rfl⟩ := h
        have e3 : rest = [] := by
          cases rest with
          | nil => rfl
          | cons _ _ => cases e2
        subst e3
        rw [List.append_nil] at e1
        have un : badN kvs = none := by
          unfold badN
          rw [List.find?_eq_none.mpr fun q hq => by simp [all q (e1 ▸ hq)]]
          rfl
        rw [un] at q
        simp only [sRet, sRetN, sSeq, sNext, sIf, sDrop, sSet, sSetL, sPar, sOwn, sApp, sAppL, sFor, sAsg, sBreak, sCont, dRaise, dTry1, dTry2, try1E, try2E, xTake, endX, dXf, dC, dV, dBin, dUn, dB, dTru, dNot, dAnd, dOr, dAndV, dOrV, dNotV, dIf, dNil, dCons, datas, dDisp, dBlt, dCall, dCallK, dMeth, dMethK, dMethS, dBm, dChain, dSl, dNo, dPt, dOfF, fDisp, fList, fLc, dGet2, dYes, bAdd, bSub, bFdiv, bMod, bPow, bMul, bLt, bLe, bGt, bGe, bI, bI0, bEq, bNe, bIn, bNotIn, bInG, bIs, bIsNot, bIx, bSl, bNeg, bListed, bGet, baLen, baIsi, baAll, baAny, baAbs, baMax, baMin, baI1, baI2, baList, baTup, baInt, baStr, baRepr, bmIndex, iL, iT, iS, iR1, iE, iK, gN, gT, gNs, isLst, isTxt, InsA, flatA, bodyE, startG, frz_nil, frz_cons, frz_va, frz_no, frz_own, List.map_cons, List.map_nil, List.length_cons, List.length_nil, List.replicate, List.append_nil, List.cons_append, List.nil_append, List.set_cons_zero, List.set_cons_succ, List.set_nil, List.getElem?_cons_zero, List.getElem?_cons_succ, wipeG, Nat.reduceAdd, Nat.reduceSub, Nat.reduceLeDiff, line_lit, eqOk_int, eqOk_str, eqv_int, eqv_str, decide_eq_true_eq, true_and, and_true, Bool.true_or, if_true, reduceIte, Bool.not_true, Bool.not_false, Bool.false_eq_true, if_false]
        refine ⟨by rw [List.length_map, List.length_map]; exact small1000 (by omega), dcomp_map (f := fun x => match x with
          | .d (.str z) => (kvs.lookup z).getD (.int 0)
          | _ => .none) (fun x hx k1 k2 q1 => ?_) ?_⟩
        · obtain ⟨d, hd, rfl⟩ := List.mem_map.mp hx
          obtain ⟨z, _, rfl⟩ := List.mem_map.mp hd
          simp only [sRet, sRetN, sSeq, sNext, sIf, sDrop, sSet, sSetL, sPar, sOwn, sApp, sAppL, sFor, sAsg, sBreak, sCont, dRaise, dTry1, dTry2, try1E, try2E, xTake, endX, dXf, dC, dV, dBin, dUn, dB, dTru, dNot, dAnd, dOr, dAndV, dOrV, dNotV, dIf, dNil, dCons, datas, dDisp, dBlt, dCall, dCallK, dMeth, dMethK, dMethS, dBm, dChain, dSl, dNo, dPt, dOfF, fDisp, fList, fLc, dGet2, dYes, bAdd, bSub, bFdiv, bMod, bPow, bMul, bLt, bLe, bGt, bGe, bI, bI0, bEq, bNe, bIn, bNotIn, bInG, bIs, bIsNot, bIx, bSl, bNeg, bListed, bGet, baLen, baIsi, baAll, baAny, baAbs, baMax, baMin, baI1, baI2, baList, baTup, baInt, baStr, baRepr, bmIndex, iL, iT, iS, iR1, iE, iK, gN, gT, gNs, isLst, isTxt, InsA, flatA, bodyE, startG, frz_nil, frz_cons, frz_va, frz_no, frz_own, List.map_cons, List.map_nil, List.length_cons, List.length_nil, List.replicate, List.append_nil, List.cons_append, List.nil_append, List.set_cons_zero, List.set_cons_succ, List.set_nil, List.getElem?_cons_zero, List.getElem?_cons_succ, wipeG, Nat.reduceAdd, Nat.reduceSub, Nat.reduceLeDiff, line_lit, eqOk_int, eqOk_str, eqv_int, eqv_str, decide_eq_true_eq, true_and, and_true, Bool.true_or, if_true, reduceIte, Bool.not_true, Bool.not_false, Bool.false_eq_true, if_false]
          have q1 : k1 (.d ((kvs.lookup z).getD (.int 0))) := q1
          cases lk : kvs.lookup z with
          | none =>
            rw [lk] at q1
            exact q1
          | some v =>
            rw [lk] at q1
            exact q1
        · rw [List.map_map, List.map_map]
          exact q
      · obtain ⟨done, rest, s2, e1, e2, all, rfl⟩ := h
        cases rest with
        | nil => cases e2
        | cons q0 rest =>
          obtain ⟨z, y⟩ := q0
          cases e2
          have hm : (z, y) ∈ kvs := by rw [e1]; simp
          have lk := lookup_at nd hm
          simp only [sRet, sRetN, sSeq, sNext, sIf, sDrop, sSet, sSetL, sPar, sOwn, sApp, sAppL, sFor, sAsg, sBreak, sCont, dRaise, dTry1, dTry2, try1E, try2E, xTake, endX, dXf, dC, dV, dBin, dUn, dB, dTru, dNot, dAnd, dOr, dAndV, dOrV, dNotV, dIf, dNil, dCons, datas, dDisp, dBlt, dCall, dCallK, dMeth, dMethK, dMethS, dBm, dChain, dSl, dNo, dPt, dOfF, fDisp, fList, fLc, dGet2, dYes, bAdd, bSub, bFdiv, bMod, bPow, bMul, bLt, bLe, bGt, bGe, bI, bI0, bEq, bNe, bIn, bNotIn, bInG, bIs, bIsNot, bIx, bSl, bNeg, bListed, bGet, baLen, baIsi, baAll, baAny, baAbs, baMax, baMin, baI1, baI2, baList, baTup, baInt, baStr, baRepr, bmIndex, iL, iT, iS, iR1, iE, iK, gN, gT, gNs, isLst, isTxt, InsA, flatA, bodyE, startG, frz_nil, frz_cons, frz_va, frz_no, frz_own, List.map_cons, List.map_nil, List.length_cons, List.length_nil, List.replicate, List.append_nil, List.cons_append, List.nil_append, List.set_cons_zero, List.set_cons_succ, List.set_nil, List.getElem?_cons_zero, List.getElem?_cons_succ, wipeG, Nat.reduceAdd, Nat.reduceSub, Nat.reduceLeDiff, line_lit, eqOk_int, eqOk_str, eqv_int, eqv_str, decide_eq_true_eq, true_and, and_true, Bool.true_or, if_true, reduceIte, Bool.not_true, Bool.not_false, Bool.false_eq_true, if_false, lk]
          refine ⟨y, rfl, trivial, ?_⟩
          dsimp only
          cases hi : Lw.intD y with
          | true =>
            refine hN _ ⟨done ++ [(z, y)], rest, _, by rw [e1, List.append_assoc]; rfl, rfl, fun q hq => ?_, rfl⟩
            rcases List.mem_append.mp hq with hq | hq
            · exact all q hq
            · cases List.mem_singleton.mp hq
              exact hi
          | false =>
            refine ⟨y, rfl, (sm _ hm).1, (sm _ hm).2, ?_⟩
            have un : badN kvs = some y := by
              unfold badN
              rw [e1, find_first (fun y hy => by simp [all y hy]) (by simp [hi])]
              rfl
            rw [un] at q
            exact q
    · obtain ⟨done, rest, s2, e1, e2, all, rfl⟩ := h
      cases rest with
      | nil => cases e2
      | cons q0 rest =>
        obtain ⟨z, y⟩ := q0
        cases e2
        simp only [sRet, sRetN, sSeq, sNext, sIf, sDrop, sSet, sSetL, sPar, sOwn, sApp, sAppL, sFor, sAsg, sBreak, sCont, dRaise, dTry1, dTry2, try1E, try2E, xTake, endX, dXf, dC, dV, dBin, dUn, dB, dTru, dNot, dAnd, dOr, dAndV, dOrV, dNotV, dIf, dNil, dCons, datas, dDisp, dBlt, dCall, dCallK, dMeth, dMethK, dMethS, dBm, dChain, dSl, dNo, dPt, dOfF, fDisp, fList, fLc, dGet2, dYes, bAdd, bSub, bFdiv, bMod, bPow, bMul, bLt, bLe, bGt, bGe, bI, bI0, bEq, bNe, bIn, bNotIn, bInG, bIs, bIsNot, bIx, bSl, bNeg, bListed, bGet, baLen, baIsi, baAll, baAny, baAbs, baMax, baMin, baI1, baI2, baList, baTup, baInt, baStr, baRepr, bmIndex, iL, iT, iS, iR1, iE, iK, gN, gT, gNs, isLst, isTxt, InsA, flatA, bodyE, startG, frz_nil, frz_cons, frz_va, frz_no, frz_own, List.map_cons, List.map_nil, List.length_cons, List.length_nil, List.replicate, List.append_nil, List.cons_append, List.nil_append, List.set_cons_zero, List.set_cons_succ, List.set_nil, List.getElem?_cons_zero, List.getElem?_cons_succ, wipeG, Nat.reduceAdd, Nat.reduceSub, Nat.reduceLeDiff, line_lit, eqOk_int, eqOk_str, eqv_int, eqv_str, decide_eq_true_eq, true_and, and_true, Bool.true_or, if_true, reduceIte, Bool.not_true, Bool.not_false, Bool.false_eq_true, if_false]
        refine ⟨ns, .str z, rfl, fun h => hN _ ⟨done ++ [(z, y)], rest, _, by rw [e1, List.append_assoc]; rfl, rfl, fun q hq => ?_, rfl⟩, fun h => ⟨Nat.zero_le _, rfl, ?_⟩⟩
        · rcases List.mem_append.mp hq with hq | hq
          · exact all q hq
          · cases List.mem_singleton.mp hq
            exact of_decide_eq_true h
        · have un : unk ns kvs = some z := by
            unfold unk
            rw [e1, find_first (fun y hy => by simp [all y hy]) (by simpa using of_decide_eq_false h)]
            rfl
          rw [un] at q
          exact q
end
end K16




set_option Elab.async false
set_option linter.all false
set_option maxRecDepth 100000
set_option maxHeartbeats 4000000
namespace K16
open PySem PySem.Spec PyProof.Rows L2 Lw

open Dl
structure Thg (d : PyData) : Prop where
  sm : Small 2000 d
  dp : d.depth ≤ 5
  sl : slim d = true
theorem thg_int {i : Int} (h : i.natAbs < 2 ^ 1000) : Thg (.int i) := ⟨small_int h, Nat.zero_le _, rfl⟩
theorem thg_odd : ∀ d ∈ odds, Thg d := fun d hd => by
  obtain ⟨h1, h2, h3, _⟩ := odds_small d hd
  exact ⟨h1.mono (by decide), h2, h3⟩
def aPot (R : PyData → Prop) : ASp := fun xs k _ => xs = [.pot] ∧ ∀ d, R d → k (.d d)
theorem sp_pot' {R : PyData → Prop} : SpOk 1 (aPot R) := ⟨fun xs k k' e e' hk _ h => ⟨h.1, fun d hd => hk _ (h.2 d hd)⟩, fun xs k e h => by rw [h.1]; rfl⟩
def isFac (d : PyData) : Prop := ∃ i : Int, d = .int i ∧ -1000000 ≤ i ∧ i < 1000000
section
variable {P : Program} {w : World} {K : PySem.W.Frag} {mg : Str → Option Value} {base : Heap} {f : Addr} {fd : FuncData} {fD fF fO : Addr} {fdD fdF fdO : FuncData}
theorem z_factor (F : FnP K "_law_factor" s_factor f fd) (T : Tz mg) (O_draw : OZ P w K mg base false 1 "_law_draw" ["_law_pot_here", "_law_many"] aDraw fD fdD) : FZ P w K mg base false 2 f fd ["_law_pot_here"] (aPot isFac) := by
  refine fz_ok F sc_factor sp_pot' (fun cdv A outer s H E Z hr => (dss_cons (ds_set (i := 1) sc_factor.nd rfl (Or.inl rfl) (de_call O_draw (fun z => nomatch z) (takes_of rfl rfl rfl rfl) (hr.mono (by first | decide | omega)) (da_cons (de_v (pv 0)) (da_cons de_int da_nil))))
      (dss_cons (ds_if (dt_cmp oa_lt mono_I0 (de_v (pv 1)) de_int (nomark _)) (dss_one (ds_ret (de_ix oa_ix mono_ix (de_lst (da_cons de_int (da_cons de_int (da_cons de_int (da_cons de_int (da_cons (de_un ua_neg mono_neg de_int) (da_cons de_int (da_cons (de_un ua_neg mono_neg de_int) da_nil)))))))) (de_v (pv 1)) (fun _ _ => rfl)))) dss_nil)
      (dss_one (ds_ret (de_ix oa_ix mono_ix (de_lst (da_cons (de_bin oa_sub mono_I0 (de_call O_draw (fun z => nomatch z) (takes_of rfl rfl rfl rfl) (hr.mono (by first | decide | omega)) (da_cons (de_v (pv 0)) (da_cons de_int da_nil))) de_int) (da_cons (de_bin oa_sub mono_I0 (de_call O_draw (fun z => nomatch z) (takes_of rfl rfl rfl rfl) (hr.mono (by first | decide | omega)) (da_cons (de_v (pv 0)) (da_cons (de_bin oa_mul mono_mul de_int (de_bin oa_pow mono_I de_int de_int)) da_nil))) (de_bin oa_pow mono_I de_int de_int)) da_nil))) (de_bin oa_sub mono_I0 (de_v (pv 1)) de_int) (fun _ _ => rfl))))))) (fun xs k e h => ?_)
  obtain ⟨rfl, q⟩ := h
  simp only [sRet, sRetN, sSeq, sNext, sIf, sDrop, sSet, sSetL, sPar, sOwn, sApp, sAppL, sFor, sAsg, sBreak, sCont, dRaise, dTry1, dTry2, try1E, try2E, xTake, endX, dXf, dC, dV, dBin, dUn, dB, dTru, dNot, dAnd, dOr, dAndV, dOrV, dNotV, dIf, dNil, dCons, datas, dDisp, dBlt, dCall, dCallK, dMeth, dMethK, dMethS, dBm, dChain, dSl, dNo, dPt, dOfF, fDisp, fList, fLc, dGet2, dYes, bAdd, bSub, bFdiv, bMod, bPow, bMul, bLt, bLe, bGt, bGe, bI, bI0, bEq, bNe, bIn, bNotIn, bInG, bIs, bIsNot, bIx, bSl, bNeg, bListed, bGet, baLen, baIsi, baAll, baAny, baAbs, baMax, baMin, baI1, baI2, baList, baTup, baInt, baStr, baRepr, bmIndex, iL, iT, iS, iR1, iE, iK, gN, gT, gNs, isLst, isTxt, InsA, flatA, bodyE, startG, frz_nil, frz_cons, frz_va, frz_no, frz_own, List.map_cons, List.map_nil, List.length_cons, List.length_nil, List.replicate, List.append_nil, List.cons_append, List.nil_append, List.set_cons_zero, List.set_cons_succ, List.set_nil, List.getElem?_cons_zero, List.getElem?_cons_succ, wipeG, Nat.reduceAdd, Nat.reduceSub, Nat.reduceLeDiff, line_lit, eqOk_int, eqOk_str, eqv_int, eqv_str, decide_eq_true_eq, true_and, and_true, Bool.true_or, if_true, reduceIte, Bool.not_true, Bool.not_false, Bool.false_eq_true, if_false, N_factor]
  refine draw_ok (by decide) (by decide) fun r h0 h1 => ?_
  dsimp only
  by_cases c : r < 7
  · rw [if_pos c]
    have : r = 0 ∨ r = 1 ∨ r = 2 ∨ r = 3 ∨ r = 4 ∨ r = 5 ∨ r = 6 := by omega
    rcases this with rfl | rfl | rfl | rfl | rfl | rfl | rfl
    all_goals exact ⟨_, rfl, q _ ⟨_, rfl, by decide, by decide⟩⟩
  · rw [if_neg c]
    refine draw_ok (by decide) (by decide) fun a a0 a1 => ?_
    dsimp only
    refine ⟨cpow (by decide) (by decide) (by decide), by decide +kernel, draw_ok (by decide) (by decide) fun b b0 b1 => ⟨cpow (by decide) (by decide) (by decide), ?_⟩⟩
    dsimp only
    have : r = 7 ∨ r = 8 := by omega
    rcases this with rfl | rfl
    · exact ⟨_, rfl, q _ ⟨_, rfl, by omega, by omega⟩⟩
    · have e : (2 * 10 ^ Int.toNat 6 : Int) = 2000000 := by decide
      have e2 : (10 ^ Int.toNat 6 : Int) = 1000000 := by decide
      exact ⟨_, rfl, q _ ⟨_, rfl, by omega, by omega⟩⟩
theorem z_odd (F : FnP K "_law_odd" s_odd f fd) (T : Tz mg) (O_draw : OZ P w K mg base false 1 "_law_draw" ["_law_pot_here", "_law_many"] aDraw fD fdD) : FZ P w K mg base false 2 f fd ["_law_pot_here"] (aPot (· ∈ odds)) := by
  refine fz_ok F sc_odd sp_pot' (fun cdv A outer s H E Z hr => (dss_cons (ds_set (i := 1) sc_odd.nd rfl (Or.inl rfl) (de_lst (da_cons de_non (da_cons de_int (da_cons de_int (da_cons de_bl (da_cons de_bl (da_cons de_str (da_cons de_str (da_cons de_str (da_cons (de_tup da_nil) (da_cons (de_lst da_nil) (da_cons de_dict0 (da_cons (de_tup (da_cons de_int (da_cons de_int da_nil))) (da_cons (de_tup (da_cons de_int (da_cons de_int da_nil))) (da_cons (de_tup (da_cons de_int (da_cons de_int da_nil))) (da_cons (de_tup (da_cons de_int (da_cons de_int da_nil))) (da_cons (de_tup (da_cons de_int (da_cons (de_un ua_neg mono_neg de_int) da_nil))) da_nil))))))))))))))))))
      (dss_cons (ds_set (i := 1) sc_odd.nd rfl (Or.inl rfl) (de_bin oa_add mono_add (de_v (pv 1)) (de_lst (da_cons (de_tup (da_cons de_bl (da_cons de_int da_nil))) (da_cons (de_lst (da_cons de_int (da_cons de_int da_nil))) (da_cons (de_tup (da_cons de_int (da_cons de_int (da_cons de_int da_nil)))) (da_cons (de_tup (da_cons de_str (da_cons de_int da_nil))) (da_cons (de_tup (da_cons de_int (da_cons de_int da_nil))) (da_cons (de_tup (da_cons (de_un ua_neg mono_neg de_int) (da_cons de_int da_nil))) (da_cons (de_un ua_neg mono_neg de_int) (da_cons de_str (da_cons de_str (da_cons de_str (da_cons de_str (da_cons (de_tup (da_cons de_str da_nil)) da_nil)))))))))))))))
      (dss_one (ds_ret (de_ix oa_ix mono_ix (de_bin oa_add mono_add (de_v (pv 1)) (de_lst (da_cons (de_tup (da_cons de_int (da_cons de_bl da_nil))) da_nil))) (de_call O_draw (fun z => nomatch z) (takes_of rfl rfl rfl rfl) (hr.mono (by first | decide | omega)) (da_cons (de_v (pv 0)) (da_cons de_int da_nil))) (fun _ _ => rfl))))))) (fun xs k e h => ?_)
  obtain ⟨rfl, q⟩ := h
  simp only [sRet, sRetN, sSeq, sNext, sIf, sDrop, sSet, sSetL, sPar, sOwn, sApp, sAppL, sFor, sAsg, sBreak, sCont, dRaise, dTry1, dTry2, try1E, try2E, xTake, endX, dXf, dC, dV, dBin, dUn, dB, dTru, dNot, dAnd, dOr, dAndV, dOrV, dNotV, dIf, dNil, dCons, datas, dDisp, dBlt, dCall, dCallK, dMeth, dMethK, dMethS, dBm, dChain, dSl, dNo, dPt, dOfF, fDisp, fList, fLc, dGet2, dYes, bAdd, bSub, bFdiv, bMod, bPow, bMul, bLt, bLe, bGt, bGe, bI, bI0, bEq, bNe, bIn, bNotIn, bInG, bIs, bIsNot, bIx, bSl, bNeg, bListed, bGet, baLen, baIsi, baAll, baAny, baAbs, baMax, baMin, baI1, baI2, baList, baTup, baInt, baStr, baRepr, bmIndex, iL, iT, iS, iR1, iE, iK, gN, gT, gNs, isLst, isTxt, InsA, flatA, bodyE, startG, frz_nil, frz_cons, frz_va, frz_no, frz_own, List.map_cons, List.map_nil, List.length_cons, List.length_nil, List.replicate, List.append_nil, List.cons_append, List.nil_append, List.set_cons_zero, List.set_cons_succ, List.set_nil, List.getElem?_cons_zero, List.getElem?_cons_succ, wipeG, Nat.reduceAdd, Nat.reduceSub, Nat.reduceLeDiff, line_lit, eqOk_int, eqOk_str, eqv_int, eqv_str, decide_eq_true_eq, true_and, and_true, Bool.true_or, if_true, reduceIte, Bool.not_true, Bool.not_false, Bool.false_eq_true, if_false, N_odd]
  refine draw_ok (by decide) (by decide) fun r h0 h1 => ?_
  dsimp only
  have key : ∀ z, atI odds r = some z → k (.d z) := fun z hz => q z (atI_mem hz)
  obtain ⟨z, hz⟩ := atI_some (xs := odds) h0 (by rw [show odds.length = 29 from rfl]; exact h1)
  exact ⟨z, hz, key z hz⟩
end
end K16




set_option Elab.async false
set_option linter.all false
set_option maxRecDepth 100000
set_option maxHeartbeats 4000000
namespace K16
open PySem PySem.Spec PyProof.Rows L2 Lw

open Dl
def isFoo (d : PyData) : Prop := d ∈ odds ∨ ∃ i : Int, d = .int i ∧ i.natAbs < 2 ^ 1000
theorem thg_foo {d : PyData} (h : isFoo d) : Thg d := by
  rcases h with h | ⟨i, rfl, h⟩
  · exact thg_odd d h
  · exact thg_int h
def given : Nat → List Str
  | 0 => []
  | 1 => ["s"]
  | 2 => ["b", "a"]
  | 3 => ["s", "a", "b"]
  | 4 => ["a", "nofield", "b"]
  | _ => ["other", "s", "nofield"]
def resD (ns : List Str) (kvs : List (Str × PyData)) : PyData := match unk ns kvs with
  | some z => .list [.str "unknown", .str z]
  | none => match badN kvs with
    | some y => .list [.str "refused", y]
    | none => eqnOf ns kvs
def resE (CU CN : Addr) (ns : List Str) (kvs : List (Str × PyData)) (k : Av → Prop) (e : ER) : Prop := match unk ns kvs with
  | some z => e CU [("value", .str z)]
  | none => match badN kvs with
    | some y => e CN [("value", y)]
    | none => k (.d (eqnOf ns kvs))
theorem unk_zip {ns : List Str} : ∀ {ks : List Str} {ds : List PyData}, ks.length ≤ ds.length → unk ns (ks.zip ds) = (ks.filter fun z => !decide (z ∈ ns)).head?
  | [], _, _ => rfl
  | k :: ks, [], h => by simp at h
  | k :: ks, d :: ds, h => by
    have ih := unk_zip (ns := ns) (ks := ks) (ds := ds) (by simpa using h)
    unfold unk at ih ⊢
    by_cases c : k ∈ ns
    · rw [List.zip_cons_cons, List.find?_cons_of_neg (by simp [c]), List.filter_cons_of_neg (by simp [c])]
      exact ih
    · rw [List.zip_cons_cons, List.find?_cons_of_pos (by simp [c]), List.filter_cons_of_pos (by simp [c])]
      rfl
theorem bad_zip : ∀ {ks : List Str} {ds : List PyData}, ks.length ≤ ds.length → badN (ks.zip ds) = ((ds.take ks.length).filter fun y => !Lw.intD y).head?
  | [], _, _ => rfl
  | k :: ks, [], h => by simp at h
  | k :: ks, d :: ds, h => by
    have ih := bad_zip (ks := ks) (ds := ds) (by simpa using h)
    unfold badN at ih ⊢
    rw [List.length_cons, List.take_succ_cons]
    cases c : Lw.intD d with
    | true =>
      rw [List.zip_cons_cons, List.find?_cons_of_neg (by simp [c]), List.filter_cons_of_neg (by simp [c])]
      exact ih
    | false =>
      rw [List.zip_cons_cons, List.find?_cons_of_pos (by simp [c]), List.filter_cons_of_pos (by simp [c])]
      rfl
theorem lk_zip {n : Str} : ∀ {ks : List Str} {ds : List PyData}, ks.length ≤ ds.length → n ∈ ks → ∃ j y, idxD (.str n) (ks.map PyData.str) = some j ∧ ds[j]? = some y ∧ (ks.zip ds).lookup n = some y
  | [], _, _, h => nomatch h
  | k :: ks, [], h, _ => by simp at h
  | k :: ks, d :: ds, h, hn => by
    by_cases c : n = k
    · subst c
      refine ⟨0, d, ?_, rfl, by simp [List.lookup]⟩
      unfold idxD
      rw [List.map_cons, List.findIdx?_cons]
      simp [PyData.eqv]
    · obtain ⟨j, y, h1, h2, h3⟩ := lk_zip (n := n) (ks := ks) (ds := ds) (by simpa using h) ((List.mem_cons.mp hn).resolve_left c)
      have ne : (n == k) = false := by simpa using c
      have ne2 : (k == n) = false := by simpa using fun q : k = n => c q.symm
      refine ⟨j + 1, y, ?_, by simpa using h2, by simp [List.lookup, ne, h3]⟩
      unfold idxD at h1 ⊢
      rw [List.map_cons, List.findIdx?_cons, h1]
      have : (PyData.str k).eqv (PyData.str n) = false := ne2
      rw [this]
      rfl
theorem lk_none {n : Str} : ∀ {ks : List Str} {ds : List PyData}, n ∉ ks → (ks.zip ds).lookup n = none
  | [], _, _ => rfl
  | k :: ks, [], _ => rfl
  | k :: ks, d :: ds, h => by
    have h1 : n ≠ k := fun q => h (q ▸ List.mem_cons_self)
    have ne : (n == k) = false := by simpa using h1
    rw [List.zip_cons_cons]
    simp only [List.lookup, ne]
    exact lk_none fun q => h (List.mem_cons_of_mem _ q)
def aCalled (C CU CN : Addr) : ASp := fun xs k e => ∃ (ns : List Str) (way : Nat) (a b c : PyData), xs = [.sh C ns, .d (.int way), .d a, .d b, .d c] ∧ ns.length ≤ 12 ∧ way < 6 ∧ Thg a ∧ Thg b ∧ Thg c ∧ resE CU CN ns ((given way).zip [a, b, c]) k e
def aTold (C : Addr) : ASp := fun xs k e => ∃ (ns : List Str) (way : Nat) (a b c : PyData), xs = [.sh C ns, .d (.int way), .d (.list [a, b, c])] ∧ ns.length ≤ 12 ∧ way < 6 ∧ Thg a ∧ Thg b ∧ Thg c ∧ k (.d (resD ns ((given way).zip [a, b, c])))
def aDue : ASp := fun xs k e => ∃ (ns : List Str) (way : Nat) (a b c : PyData), xs = [.d (.list (ns.map PyData.str)), .d (.int way), .d (.list [a, b, c])] ∧ ns.length ≤ 12 ∧ way < 6 ∧ k (.d (resD ns ((given way).zip [a, b, c])))
def aLine : ASp := fun xs k e => ∃ (d : PyData) (n : Nat), xs = [.d d, .d (.int n)] ∧ (∀ ds, d = .tuple ds → ds.length ≤ 900) ∧ k (.d (.bool (eqnD n d)))
section
variable {P : Program} {w : World} {K : PySem.W.Frag} {mg : Str → Option Value} {base : Heap} {f : Addr} {fd : FuncData} {fD fF fO fC fE C CU CN : Addr} {fdD fdF fdO fdC fdE fE' : FuncData}
theorem z_factor_or_odd (F : FnP K "_law_factor_or_odd" s_factor_or_odd f fd) (T : Tz mg) (O_draw : OZ P w K mg base false 1 "_law_draw" ["_law_pot_here", "_law_many"] aDraw fD fdD)
    (O_factor : OZ P w K mg base false 2 "_law_factor" ["_law_pot_here"] (aPot isFac) fF fdF) (O_odd : OZ P w K mg base false 2 "_law_odd" ["_law_pot_here"] (aPot (· ∈ odds)) fO fdO) : FZ P w K mg base false 3 f fd ["_law_pot_here"] (aPot isFoo) := by
  refine fz_ok F sc_factor_or_odd sp_pot' (fun cdv A outer s H E Z hr => (dss_cons (ds_set (i := 1) sc_factor_or_odd.nd rfl (Or.inl rfl) (de_call O_draw (fun z => nomatch z) (takes_of rfl rfl rfl rfl) (hr.mono (by first | decide | omega)) (da_cons (de_v (pv 0)) (da_cons de_int da_nil))))
      (dss_one (ds_ret (de_if (dt_cmp (oa_eq hr.units) mono_eq (de_v (pv 1)) de_int (nomark _)) (de_call O_odd (fun z => nomatch z) (takes_of rfl rfl rfl rfl) (hr.mono (by first | decide | omega)) (da_cons (de_v (pv 0)) da_nil)) (de_ix oa_ix mono_ix (de_lst (da_cons (de_call O_factor (fun z => nomatch z) (takes_of rfl rfl rfl rfl) (hr.mono (by first | decide | omega)) (da_cons (de_v (pv 0)) da_nil)) (da_cons (de_call O_draw (fun z => nomatch z) (takes_of rfl rfl rfl rfl) (hr.mono (by first | decide | omega)) (da_cons (de_v (pv 0)) (da_cons (de_bin oa_pow mono_I de_int de_int) da_nil))) da_nil))) (de_callTy ca_int mono_int (by rfl) T.z_int (by decide +kernel) (da_cons (de_cmp (oa_eq hr.units) mono_eq (de_v (pv 1)) de_int (nomark _)) da_nil)) (fun _ _ => rfl))))))) (fun xs k e h => ?_)
  obtain ⟨rfl, q⟩ := h
  simp only [sRet, sRetN, sSeq, sNext, sIf, sDrop, sSet, sSetL, sPar, sOwn, sApp, sAppL, sFor, sAsg, sBreak, sCont, dRaise, dTry1, dTry2, try1E, try2E, xTake, endX, dXf, dC, dV, dBin, dUn, dB, dTru, dNot, dAnd, dOr, dAndV, dOrV, dNotV, dIf, dNil, dCons, datas, dDisp, dBlt, dCall, dCallK, dMeth, dMethK, dMethS, dBm, dChain, dSl, dNo, dPt, dOfF, fDisp, fList, fLc, dGet2, dYes, bAdd, bSub, bFdiv, bMod, bPow, bMul, bLt, bLe, bGt, bGe, bI, bI0, bEq, bNe, bIn, bNotIn, bInG, bIs, bIsNot, bIx, bSl, bNeg, bListed, bGet, baLen, baIsi, baAll, baAny, baAbs, baMax, baMin, baI1, baI2, baList, baTup, baInt, baStr, baRepr, bmIndex, iL, iT, iS, iR1, iE, iK, gN, gT, gNs, isLst, isTxt, InsA, flatA, bodyE, startG, frz_nil, frz_cons, frz_va, frz_no, frz_own, List.map_cons, List.map_nil, List.length_cons, List.length_nil, List.replicate, List.append_nil, List.cons_append, List.nil_append, List.set_cons_zero, List.set_cons_succ, List.set_nil, List.getElem?_cons_zero, List.getElem?_cons_succ, wipeG, Nat.reduceAdd, Nat.reduceSub, Nat.reduceLeDiff, line_lit, eqOk_int, eqOk_str, eqv_int, eqv_str, decide_eq_true_eq, true_and, and_true, Bool.true_or, if_true, reduceIte, Bool.not_true, Bool.not_false, Bool.false_eq_true, if_false, N_factor_or_odd]
  refine draw_ok (by decide) (by decide) fun r h0 h1 => ?_
  simp only [sRet, sRetN, sSeq, sNext, sIf, sDrop, sSet, sSetL, sPar, sOwn, sApp, sAppL, sFor, sAsg, sBreak, sCont, dRaise, dTry1, dTry2, try1E, try2E, xTake, endX, dXf, dC, dV, dBin, dUn, dB, dTru, dNot, dAnd, dOr, dAndV, dOrV, dNotV, dIf, dNil, dCons, datas, dDisp, dBlt, dCall, dCallK, dMeth, dMethK, dMethS, dBm, dChain, dSl, dNo, dPt, dOfF, fDisp, fList, fLc, dGet2, dYes, bAdd, bSub, bFdiv, bMod, bPow, bMul, bLt, bLe, bGt, bGe, bI, bI0, bEq, bNe, bIn, bNotIn, bInG, bIs, bIsNot, bIx, bSl, bNeg, bListed, bGet, baLen, baIsi, baAll, baAny, baAbs, baMax, baMin, baI1, baI2, baList, baTup, baInt, baStr, baRepr, bmIndex, iL, iT, iS, iR1, iE, iK, gN, gT, gNs, isLst, isTxt, InsA, flatA, bodyE, startG, frz_nil, frz_cons, frz_va, frz_no, frz_own, List.map_cons, List.map_nil, List.length_cons, List.length_nil, List.replicate, List.append_nil, List.cons_append, List.nil_append, List.set_cons_zero, List.set_cons_succ, List.set_nil, List.getElem?_cons_zero, List.getElem?_cons_succ, wipeG, Nat.reduceAdd, Nat.reduceSub, Nat.reduceLeDiff, line_lit, eqOk_int, eqOk_str, eqv_int, eqv_str, decide_eq_true_eq, true_and, and_true, Bool.true_or, if_true, reduceIte, Bool.not_true, Bool.not_false, Bool.false_eq_true, if_false]
  by_cases c : r = 0
  · rw [if_pos c]
    exact ⟨rfl, fun d hd => q d (.inl hd)⟩
  · rw [if_neg c]
    refine ⟨rfl, fun d hd => ⟨cpow (by decide) (by decide) (by decide), draw_ok (by decide +kernel) (by decide +kernel) fun b b0 b1 => ?_⟩⟩
    simp only [sRet, sRetN, sSeq, sNext, sIf, sDrop, sSet, sSetL, sPar, sOwn, sApp, sAppL, sFor, sAsg, sBreak, sCont, dRaise, dTry1, dTry2, try1E, try2E, xTake, endX, dXf, dC, dV, dBin, dUn, dB, dTru, dNot, dAnd, dOr, dAndV, dOrV, dNotV, dIf, dNil, dCons, datas, dDisp, dBlt, dCall, dCallK, dMeth, dMethK, dMethS, dBm, dChain, dSl, dNo, dPt, dOfF, fDisp, fList, fLc, dGet2, dYes, bAdd, bSub, bFdiv, bMod, bPow, bMul, bLt, bLe, bGt, bGe, bI, bI0, bEq, bNe, bIn, bNotIn, bInG, bIs, bIsNot, bIx, bSl, bNeg, bListed, bGet, baLen, baIsi, baAll, baAny, baAbs, baMax, baMin, baI1, baI2, baList, baTup, baInt, baStr, baRepr, bmIndex, iL, iT, iS, iR1, iE, iK, gN, gT, gNs, isLst, isTxt, InsA, flatA, bodyE, startG, frz_nil, frz_cons, frz_va, frz_no, frz_own, List.map_cons, List.map_nil, List.length_cons, List.length_nil, List.replicate, List.append_nil, List.cons_append, List.nil_append, List.set_cons_zero, List.set_cons_succ, List.set_nil, List.getElem?_cons_zero, List.getElem?_cons_succ, wipeG, Nat.reduceAdd, Nat.reduceSub, Nat.reduceLeDiff, line_lit, eqOk_int, eqOk_str, eqv_int, eqv_str, decide_eq_true_eq, true_and, and_true, Bool.true_or, if_true, reduceIte, Bool.not_true, Bool.not_false, Bool.false_eq_true, if_false]
    by_cases c1 : r = 1
    · rw [if_pos c1]
      exact ⟨_, rfl, q _ (.inr ⟨_, rfl, by
        have : (10 ^ Int.toNat 40 : Int) < 2 ^ 1000 := by decide +kernel
        omega⟩)⟩
    · rw [if_neg c1]
      obtain ⟨i, rfl, i0, i1⟩ := hd
      exact ⟨_, rfl, q _ (.inr ⟨_, rfl, by
        have : (1000000 : Nat) < 2 ^ 1000 := by decide +kernel
        omega⟩)⟩
theorem BS_Sheet_equation (F : FnM K "Sheet.equation" "equation" s_Sheet_equation fE fdE) : BindsS fdE "self" "coefficients" [] := bindsS_of F fun kV doc pm an cdv ct u ws hl => match ws, hl with | [], _ => rfl
theorem BS_Sheet_equation_s (F : FnM K "Sheet.equation" "equation" s_Sheet_equation fE fdE) : BindsS fdE "self" "coefficients" ["s"] := bindsS_of F fun kV doc pm an cdv ct u ws hl => match ws, hl with | [_], _ => rfl
theorem BS_Sheet_equation_b_a (F : FnM K "Sheet.equation" "equation" s_Sheet_equation fE fdE) : BindsS fdE "self" "coefficients" ["b", "a"] := bindsS_of F fun kV doc pm an cdv ct u ws hl => match ws, hl with | [_, _], _ => rfl
theorem BS_Sheet_equation_s_a_b (F : FnM K "Sheet.equation" "equation" s_Sheet_equation fE fdE) : BindsS fdE "self" "coefficients" ["s", "a", "b"] := bindsS_of F fun kV doc pm an cdv ct u ws hl => match ws, hl with | [_, _, _], _ => rfl
theorem BS_Sheet_equation_a_nofield_b (F : FnM K "Sheet.equation" "equation" s_Sheet_equation fE fdE) : BindsS fdE "self" "coefficients" ["a", "nofield", "b"] := bindsS_of F fun kV doc pm an cdv ct u ws hl => match ws, hl with | [_, _, _], _ => rfl
theorem BS_Sheet_equation_other_s_nofield (F : FnM K "Sheet.equation" "equation" s_Sheet_equation fE fdE) : BindsS fdE "self" "coefficients" ["other", "s", "nofield"] := bindsS_of F fun kV doc pm an cdv ct u ws hl => match ws, hl with | [_, _, _], _ => rfl
theorem z_called (F : FnP K "_law_called" s_called f fd) (T : Tz mg) (F_Sheet_equation : FnM K "Sheet.equation" "equation" s_Sheet_equation (He.ma K C "equation") fdE) (M_Sheet_equation : MS P w K mg base 11 C "equation" "self" "coefficients" (aEqn C CU CN) fdE) :
    FZ P w K mg base false 12 f fd ["_law_made", "_law_way", "_law_one", "_law_two", "_law_three"] (aCalled C CU CN) := by
  refine fz_ok F sc_called ⟨fun xs k k' e e' hk he ⟨ns, way, a, b, c, h1, h2, h3, h4, h5, h6, h7⟩ => ⟨ns, way, a, b, c, h1, h2, h3, h4, h5, h6, ?_⟩, fun xs k e ⟨ns, way, a, b, c, h1, _⟩ => by rw [h1]; rfl⟩ (fun cdv A outer s H E Z hr => (dss_cons (ds_if (dt_cmp (oa_eq hr.units) mono_eq (de_v (pv 1)) de_int (nomark _)) (dss_one (ds_ret (de_methS0 M_Sheet_equation (BS_Sheet_equation F_Sheet_equation) (takes_of rfl rfl rfl rfl) (hr.mono (by first | decide | omega)) (de_v (pv 0))))) dss_nil)
      (dss_cons (ds_if (dt_cmp (oa_eq hr.units) mono_eq (de_v (pv 1)) de_int (nomark _)) (dss_one (ds_ret (de_methS M_Sheet_equation (BS_Sheet_equation_s F_Sheet_equation) (by decide +kernel) (by decide +kernel) (takes_of rfl rfl rfl rfl) (hr.mono (by first | decide | omega)) (de_v (pv 0)) (dk_cons (de_v (pv 2)) dk_nil)))) dss_nil)
      (dss_cons (ds_if (dt_cmp (oa_eq hr.units) mono_eq (de_v (pv 1)) de_int (nomark _)) (dss_one (ds_ret (de_methS M_Sheet_equation (BS_Sheet_equation_b_a F_Sheet_equation) (by decide +kernel) (by decide +kernel) (takes_of rfl rfl rfl rfl) (hr.mono (by first | decide | omega)) (de_v (pv 0)) (dk_cons (de_v (pv 2)) (dk_cons (de_v (pv 3)) dk_nil))))) dss_nil)
      (dss_cons (ds_if (dt_cmp (oa_eq hr.units) mono_eq (de_v (pv 1)) de_int (nomark _)) (dss_one (ds_ret (de_methS M_Sheet_equation (BS_Sheet_equation_s_a_b F_Sheet_equation) (by decide +kernel) (by decide +kernel) (takes_of rfl rfl rfl rfl) (hr.mono (by first | decide | omega)) (de_v (pv 0)) (dk_cons (de_v (pv 2)) (dk_cons (de_v (pv 3)) (dk_cons (de_v (pv 4)) dk_nil)))))) dss_nil)
      (dss_cons (ds_if (dt_cmp (oa_eq hr.units) mono_eq (de_v (pv 1)) de_int (nomark _)) (dss_one (ds_ret (de_methS M_Sheet_equation (BS_Sheet_equation_a_nofield_b F_Sheet_equation) (by decide +kernel) (by decide +kernel) (takes_of rfl rfl rfl rfl) (hr.mono (by first | decide | omega)) (de_v (pv 0)) (dk_cons (de_v (pv 2)) (dk_cons (de_v (pv 3)) (dk_cons (de_v (pv 4)) dk_nil)))))) dss_nil)
      (dss_one (ds_ret (de_methS M_Sheet_equation (BS_Sheet_equation_other_s_nofield F_Sheet_equation) (by decide +kernel) (by decide +kernel) (takes_of rfl rfl rfl rfl) (hr.mono (by first | decide | omega)) (de_v (pv 0)) (dk_cons (de_v (pv 2)) (dk_cons (de_v (pv 3)) (dk_cons (de_v (pv 4)) dk_nil)))))))))))) (fun xs k e h => ?_)
  · unfold resE at h7 ⊢
    split at h7
    · exact he _ _ h7
    · split at h7
      · exact he _ _ h7
      · exact hk _ h7
  · obtain ⟨ns, way, a, b, c, rfl, hl, hw, ta, tb, tc, q⟩ := h
    simp only [sRet, sRetN, sSeq, sNext, sIf, sDrop, sSet, sSetL, sPar, sOwn, sApp, sAppL, sFor, sAsg, sBreak, sCont, dRaise, dTry1, dTry2, try1E, try2E, xTake, endX, dXf, dC, dV, dBin, dUn, dB, dTru, dNot, dAnd, dOr, dAndV, dOrV, dNotV, dIf, dNil, dCons, datas, dDisp, dBlt, dCall, dCallK, dMeth, dMethK, dMethS, dBm, dChain, dSl, dNo, dPt, dOfF, fDisp, fList, fLc, dGet2, dYes, bAdd, bSub, bFdiv, bMod, bPow, bMul, bLt, bLe, bGt, bGe, bI, bI0, bEq, bNe, bIn, bNotIn, bInG, bIs, bIsNot, bIx, bSl, bNeg, bListed, bGet, baLen, baIsi, baAll, baAny, baAbs, baMax, baMin, baI1, baI2, baList, baTup, baInt, baStr, baRepr, bmIndex, iL, iT, iS, iR1, iE, iK, gN, gT, gNs, isLst, isTxt, InsA, flatA, bodyE, startG, frz_nil, frz_cons, frz_va, frz_no, frz_own, List.map_cons, List.map_nil, List.length_cons, List.length_nil, List.replicate, List.append_nil, List.cons_append, List.nil_append, List.set_cons_zero, List.set_cons_succ, List.set_nil, List.getElem?_cons_zero, List.getElem?_cons_succ, wipeG, Nat.reduceAdd, Nat.reduceSub, Nat.reduceLeDiff, line_lit, eqOk_int, eqOk_str, eqv_int, eqv_str, decide_eq_true_eq, true_and, and_true, Bool.true_or, if_true, reduceIte, Bool.not_true, Bool.not_false, Bool.false_eq_true, if_false, N_called]
    have ne : ("equation" : Str) ≠ "listed" := by decide +kernel
    have go : ∀ {ks : List Str} {ds : List PyData}, ks.Nodup → (∀ d ∈ ds, Thg d) → ks.length = ds.length → resE CU CN ns (ks.zip ds) k e → aEqn C CU CN [.sh C ns, .kd (ks.zip ds)] k e := fun {ks ds} nd all hd q => by
      refine ⟨ns, _, rfl, hl, ?_, fun z hz => ?_, q⟩
      · rw [List.map_fst_zip (by omega)]
        exact nd
      · have := all z.2 (List.of_mem_zip hz).2
        exact ⟨this.dp, this.sl⟩
    have n3 : ∀ d ∈ [a, b, c], Thg d := by
      intro d hd
      simp only [List.mem_cons, List.not_mem_nil, or_false] at hd
      rcases hd with rfl | rfl | rfl <;> assumption
    have : way = 0 ∨ way = 1 ∨ way = 2 ∨ way = 3 ∨ way = 4 ∨ way = 5 := by omega
    rcases this with rfl | rfl | rfl | rfl | rfl | rfl
    · exact ⟨ne, [], rfl, rfl, go (ks := []) List.nodup_nil (fun d h => nomatch h) rfl q⟩
    · exact ⟨ne, [a], rfl, rfl, go (ks := ["s"]) (by decide +kernel) (fun d h => by cases List.mem_singleton.mp h; exact ta) rfl q⟩
    · exact ⟨ne, [a, b], rfl, rfl, go (ks := ["b", "a"]) (by decide +kernel) (fun d h => n3 d (by simp only [List.mem_cons, List.not_mem_nil, or_false] at h ⊢; rcases h with h | h <;> simp [h])) rfl q⟩
    · exact ⟨ne, [a, b, c], rfl, rfl, go (ks := ["s", "a", "b"]) (by decide +kernel) n3 rfl q⟩
    · exact ⟨ne, [a, b, c], rfl, rfl, go (ks := ["a", "nofield", "b"]) (by decide +kernel) n3 rfl q⟩
    · exact ⟨ne, [a, b, c], rfl, rfl, go (ks := ["other", "s", "nofield"]) (by decide +kernel) n3 rfl q⟩
/-- what a law must know of the classes -/
structure Tc (K : PySem.W.Frag) (mg : Str → Option Value) : Prop where
  m_UnknownField : mg "UnknownField" = some (.ref (He.ga K "UnknownField"))
  m_InvalidNumber : mg "InvalidNumber" = some (.ref (He.ga K "InvalidNumber"))
  x_UU : PySem.W.exmOne K (.ref (He.ga K "UnknownField")) (.ref (He.ga K "UnknownField")) = some true
  x_NU : PySem.W.exmOne K (.ref (He.ga K "InvalidNumber")) (.ref (He.ga K "UnknownField")) = some false
  x_NN : PySem.W.exmOne K (.ref (He.ga K "InvalidNumber")) (.ref (He.ga K "InvalidNumber")) = some true
  xf_UnknownField : XfC K (He.ga K "UnknownField")
  xf_InvalidNumber : XfC K (He.ga K "InvalidNumber")
  no_InvalidFields_index : PySem.W.findIn K (.ref (He.ga K "InvalidFields")) "index" = some none
  no_UnknownField_value : PySem.W.findIn K (.ref (He.ga K "UnknownField")) "value" = some none
  no_InvalidNumber_value : PySem.W.findIn K (.ref (He.ga K "InvalidNumber")) "value" = some none
theorem z_told (F : FnP K "_law_told" s_told f fd) (T : Tz mg) (TC : Tc K mg) (O_called : OZ P w K mg base false 12 "_law_called" ["_law_made", "_law_way", "_law_one", "_law_two", "_law_three"] (aCalled C (He.ga K "UnknownField") (He.ga K "InvalidNumber")) fC fdC) :
    FZ P w K mg base false 13 f fd ["_law_made", "_law_way", "_law_some"] (aTold C) := by
  refine fz_ok F sc_told ⟨fun xs k k' e e' hk he ⟨ns, way, a, b, c, h1, h2, h3, h4, h5, h6, h7⟩ => ⟨ns, way, a, b, c, h1, h2, h3, h4, h5, h6, hk _ h7⟩, fun xs k e ⟨ns, way, a, b, c, h1, _⟩ => by rw [h1]; rfl⟩ (fun cdv A outer s H E Z hr => (dss_cons (ds_set (i := 3) sc_told.nd rfl (Or.inl rfl) de_non)
      (dss_cons (ds_try2M (K := K) (i := 4) rfl rfl rfl sc_told.nd rfl rfl ⟨rfl, by decide, .inl TC.m_UnknownField⟩ ⟨rfl, by decide, .inl TC.m_InvalidNumber⟩ 
        (fun W pn xe tk => (dss_one (ds_set (i := 3) sc_told.nd rfl (Or.inl rfl) (de_call O_called (fun z => nomatch z) tk (hr.mono (by first | decide | omega)) (da_cons (de_v (pv 0)) (da_cons (de_v (pv 1)) (da_cons (de_ix oa_ix mono_ix (de_v (pv 2)) de_int (fun _ _ => rfl)) (da_cons (de_ix oa_ix mono_ix (de_v (pv 2)) de_int (fun _ _ => rfl)) (da_cons (de_ix oa_ix mono_ix (de_v (pv 2)) de_int (fun _ _ => rfl)) da_nil)))))))))
        (fun a oe cls dd pn hz hf => (dss_one (ds_set (i := 3) sc_told.nd rfl (Or.inl rfl) (de_lst (da_cons de_str (da_cons (de_xf TC.xf_UnknownField TC.no_UnknownField_value hz hf (de_v (pv 4))) da_nil))))))
        (fun a oe cls dd pn hz hf => (dss_one (ds_set (i := 3) sc_told.nd rfl (Or.inl rfl) (de_lst (da_cons de_str (da_cons (de_xf TC.xf_InvalidNumber TC.no_InvalidNumber_value hz hf (de_v (pv 4))) da_nil)))))))
      (dss_one (ds_ret (de_v (pv 3))))))) (fun xs k e h => ?_)
  obtain ⟨ns, way, a, b, c, rfl, hl, hw, ta, tb, tc, q⟩ := h
  simp only [sRet, sRetN, sSeq, sNext, sIf, sDrop, sSet, sSetL, sPar, sOwn, sApp, sAppL, sFor, sAsg, sBreak, sCont, dRaise, dTry1, dTry2, try1E, try2E, xTake, endX, dXf, dC, dV, dBin, dUn, dB, dTru, dNot, dAnd, dOr, dAndV, dOrV, dNotV, dIf, dNil, dCons, datas, dDisp, dBlt, dCall, dCallK, dMeth, dMethK, dMethS, dBm, dChain, dSl, dNo, dPt, dOfF, fDisp, fList, fLc, dGet2, dYes, bAdd, bSub, bFdiv, bMod, bPow, bMul, bLt, bLe, bGt, bGe, bI, bI0, bEq, bNe, bIn, bNotIn, bInG, bIs, bIsNot, bIx, bSl, bNeg, bListed, bGet, baLen, baIsi, baAll, baAny, baAbs, baMax, baMin, baI1, baI2, baList, baTup, baInt, baStr, baRepr, bmIndex, iL, iT, iS, iR1, iE, iK, gN, gT, gNs, isLst, isTxt, InsA, flatA, bodyE, startG, frz_nil, frz_cons, frz_va, frz_no, frz_own, List.map_cons, List.map_nil, List.length_cons, List.length_nil, List.replicate, List.append_nil, List.cons_append, List.nil_append, List.set_cons_zero, List.set_cons_succ, List.set_nil, List.getElem?_cons_zero, List.getElem?_cons_succ, wipeG, Nat.reduceAdd, Nat.reduceSub, Nat.reduceLeDiff, line_lit, eqOk_int, eqOk_str, eqv_int, eqv_str, decide_eq_true_eq, true_and, and_true, Bool.true_or, if_true, reduceIte, Bool.not_true, Bool.not_false, Bool.false_eq_true, if_false, N_told]
  refine ⟨a, rfl, b, rfl, c, rfl, ns, way, a, b, c, rfl, hl, hw, ta, tb, tc, ?_⟩
  unfold resD at q
  unfold resE
  cases hu : unk ns ((given way).zip [a, b, c]) with
  | some z =>
    rw [hu] at q
    refine .inl ⟨TC.x_UU, fun x dx => ?_⟩
    simp only [sRet, sRetN, sSeq, sNext, sIf, sDrop, sSet, sSetL, sPar, sOwn, sApp, sAppL, sFor, sAsg, sBreak, sCont, dRaise, dTry1, dTry2, try1E, try2E, xTake, endX, dXf, dC, dV, dBin, dUn, dB, dTru, dNot, dAnd, dOr, dAndV, dOrV, dNotV, dIf, dNil, dCons, datas, dDisp, dBlt, dCall, dCallK, dMeth, dMethK, dMethS, dBm, dChain, dSl, dNo, dPt, dOfF, fDisp, fList, fLc, dGet2, dYes, bAdd, bSub, bFdiv, bMod, bPow, bMul, bLt, bLe, bGt, bGe, bI, bI0, bEq, bNe, bIn, bNotIn, bInG, bIs, bIsNot, bIx, bSl, bNeg, bListed, bGet, baLen, baIsi, baAll, baAny, baAbs, baMax, baMin, baI1, baI2, baList, baTup, baInt, baStr, baRepr, bmIndex, iL, iT, iS, iR1, iE, iK, gN, gT, gNs, isLst, isTxt, InsA, flatA, bodyE, startG, frz_nil, frz_cons, frz_va, frz_no, frz_own, List.map_cons, List.map_nil, List.length_cons, List.length_nil, List.replicate, List.append_nil, List.cons_append, List.nil_append, List.set_cons_zero, List.set_cons_succ, List.set_nil, List.getElem?_cons_zero, List.getElem?_cons_succ, wipeG, Nat.reduceAdd, Nat.reduceSub, Nat.reduceLeDiff, line_lit, eqOk_int, eqOk_str, eqv_int, eqv_str, decide_eq_true_eq, true_and, and_true, Bool.true_or, if_true, reduceIte, Bool.not_true, Bool.not_false, Bool.false_eq_true, if_false]
    exact ⟨dx, _, _, rfl, rfl, rfl, q⟩
  | none =>
    rw [hu] at q
    cases hb : badN ((given way).zip [a, b, c]) with
    | some y =>
      rw [hb] at q
      refine .inr ⟨TC.x_NU, TC.x_NN, fun x dx => ?_⟩
      simp only [sRet, sRetN, sSeq, sNext, sIf, sDrop, sSet, sSetL, sPar, sOwn, sApp, sAppL, sFor, sAsg, sBreak, sCont, dRaise, dTry1, dTry2, try1E, try2E, xTake, endX, dXf, dC, dV, dBin, dUn, dB, dTru, dNot, dAnd, dOr, dAndV, dOrV, dNotV, dIf, dNil, dCons, datas, dDisp, dBlt, dCall, dCallK, dMeth, dMethK, dMethS, dBm, dChain, dSl, dNo, dPt, dOfF, fDisp, fList, fLc, dGet2, dYes, bAdd, bSub, bFdiv, bMod, bPow, bMul, bLt, bLe, bGt, bGe, bI, bI0, bEq, bNe, bIn, bNotIn, bInG, bIs, bIsNot, bIx, bSl, bNeg, bListed, bGet, baLen, baIsi, baAll, baAny, baAbs, baMax, baMin, baI1, baI2, baList, baTup, baInt, baStr, baRepr, bmIndex, iL, iT, iS, iR1, iE, iK, gN, gT, gNs, isLst, isTxt, InsA, flatA, bodyE, startG, frz_nil, frz_cons, frz_va, frz_no, frz_own, List.map_cons, List.map_nil, List.length_cons, List.length_nil, List.replicate, List.append_nil, List.cons_append, List.nil_append, List.set_cons_zero, List.set_cons_succ, List.set_nil, List.getElem?_cons_zero, List.getElem?_cons_succ, wipeG, Nat.reduceAdd, Nat.reduceSub, Nat.reduceLeDiff, line_lit, eqOk_int, eqOk_str, eqv_int, eqv_str, decide_eq_true_eq, true_and, and_true, Bool.true_or, if_true, reduceIte, Bool.not_true, Bool.not_false, Bool.false_eq_true, if_false]
      exact ⟨dx, _, _, rfl, rfl, rfl, q⟩
    | none =>
      rw [hb] at q
      exact q
theorem z_is_line (F : FnP K "_law_is_line" s_is_line f fd) (T : Tz mg) : FZ P w K mg base false 1 f fd ["_law_thing", "_law_wide"] aLine := by
  refine fz_ok F sc_is_line ⟨fun xs k k' e e' hk he ⟨d, n, h1, h2, h3⟩ => ⟨d, n, h1, h2, hk _ h3⟩, fun xs k e ⟨d, n, h1, _⟩ => by rw [h1]; rfl⟩ (fun cdv A outer s H E Z hr => (dss_cons (ds_if (dt_w (dw_or (dt_not (dt_b (de_callB ca_isi mono_isi (by rfl) T.z_isinstance (by decide +kernel) (da_cons (de_v (pv 0)) (da_cons (de_raw (pe_bltn (v := .ty "tuple") (by rfl) T.z_tuple (by decide +kernel) rfl)) da_nil))))) (dw_or1 (dt_cmp (oa_ne hr.units) mono_ne (de_callB ca_len mono_len (by rfl) T.z_len (by decide +kernel) (da_cons (de_v (pv 0)) da_nil)) (de_v (pv 1)) (nomark _))))) (dss_one (ds_ret de_bl)) dss_nil)
      (dss_one (ds_ret (de_callB (ca_all rfl) mono_all (by rfl) T.z_all (by decide +kernel) (da_cons (de_f (df_lc (own := [("_law_one", 2)]) rfl sc_is_line.nd (di_tup (de_v (pv 0))) (blkOk_by (own := [("_law_one", 2)]) (N := N_is_line) (sc := defScope s_is_line) (by decide +kernel)) (fun _ _ _ _ _ _ => (dg_name (i := 2) sc_is_line.nd rfl (Or.inl rfl))) (fun _ _ _ _ _ _ => dts_nil) (fun _ _ _ _ _ _ => (de_and (de_callB ca_isi mono_isi (by rfl) T.z_isinstance (by decide +kernel) (da_cons (de_v (pv 2)) (da_cons (de_raw (pe_bltn (v := .ty "int") (by rfl) T.z_int (by decide +kernel) rfl)) da_nil))) (de_one (de_not (de_callB ca_isi mono_isi (by rfl) T.z_isinstance (by decide +kernel) (da_cons (de_v (pv 2)) (da_cons (de_raw (pe_bltn (v := .ty "bool") (by rfl) T.z_bool (by decide +kernel) rfl)) da_nil))))))))) da_nil)))))) (fun xs k e h => ?_)
  obtain ⟨d, n, rfl, hl, q⟩ := h
  cases d with
  | tuple ds =>
    simp only [sRet, sRetN, sSeq, sNext, sIf, sDrop, sSet, sSetL, sPar, sOwn, sApp, sAppL, sFor, sAsg, sBreak, sCont, dRaise, dTry1, dTry2, try1E, try2E, xTake, endX, dXf, dC, dV, dBin, dUn, dB, dTru, dNot, dAnd, dOr, dAndV, dOrV, dNotV, dIf, dNil, dCons, datas, dDisp, dBlt, dCall, dCallK, dMeth, dMethK, dMethS, dBm, dChain, dSl, dNo, dPt, dOfF, fDisp, fList, fLc, dGet2, dYes, bAdd, bSub, bFdiv, bMod, bPow, bMul, bLt, bLe, bGt, bGe, bI, bI0, bEq, bNe, bIn, bNotIn, bInG, bIs, bIsNot, bIx, bSl, bNeg, bListed, bGet, baLen, baIsi, baAll, baAny, baAbs, baMax, baMin, baI1, baI2, baList, baTup, baInt, baStr, baRepr, bmIndex, iL, iT, iS, iR1, iE, iK, gN, gT, gNs, isLst, isTxt, InsA, flatA, bodyE, startG, frz_nil, frz_cons, frz_va, frz_no, frz_own, List.map_cons, List.map_nil, List.length_cons, List.length_nil, List.replicate, List.append_nil, List.cons_append, List.nil_append, List.set_cons_zero, List.set_cons_succ, List.set_nil, List.getElem?_cons_zero, List.getElem?_cons_succ, wipeG, Nat.reduceAdd, Nat.reduceSub, Nat.reduceLeDiff, line_lit, eqOk_int, eqOk_str, eqv_int, eqv_str, decide_eq_true_eq, true_and, and_true, Bool.true_or, if_true, reduceIte, Bool.not_true, Bool.not_false, Bool.false_eq_true, if_false, N_is_line]
    refine ⟨true, isi_tuple _, ?_⟩
    rw [if_neg (by decide)]
    have q : k (Av.d (.bool (decide (ds.length = n) && ds.all Lw.intD))) := q
    by_cases h : ds.length = n
    · rw [decide_eq_true h] at q
      rw [if_neg (by simp [h])]
      refine ⟨by rw [List.length_map]; exact small1000 (by have := hl ds rfl; omega), dcomp_map (f := fun x => match x with
        | .d d => .bool (Lw.intD d)
        | _ => .none) (fun x hx k1 k2 q1 => ?_) ?_⟩
      · obtain ⟨d, _, rfl⟩ := List.mem_map.mp hx
        have q1 : k1 (.d (.bool (isI d && !isB d))) := q1
        simp only [sRet, sRetN, sSeq, sNext, sIf, sDrop, sSet, sSetL, sPar, sOwn, sApp, sAppL, sFor, sAsg, sBreak, sCont, dRaise, dTry1, dTry2, try1E, try2E, xTake, endX, dXf, dC, dV, dBin, dUn, dB, dTru, dNot, dAnd, dOr, dAndV, dOrV, dNotV, dIf, dNil, dCons, datas, dDisp, dBlt, dCall, dCallK, dMeth, dMethK, dMethS, dBm, dChain, dSl, dNo, dPt, dOfF, fDisp, fList, fLc, dGet2, dYes, bAdd, bSub, bFdiv, bMod, bPow, bMul, bLt, bLe, bGt, bGe, bI, bI0, bEq, bNe, bIn, bNotIn, bInG, bIs, bIsNot, bIx, bSl, bNeg, bListed, bGet, baLen, baIsi, baAll, baAny, baAbs, baMax, baMin, baI1, baI2, baList, baTup, baInt, baStr, baRepr, bmIndex, iL, iT, iS, iR1, iE, iK, gN, gT, gNs, isLst, isTxt, InsA, flatA, bodyE, startG, frz_nil, frz_cons, frz_va, frz_no, frz_own, List.map_cons, List.map_nil, List.length_cons, List.length_nil, List.replicate, List.append_nil, List.cons_append, List.nil_append, List.set_cons_zero, List.set_cons_succ, List.set_nil, List.getElem?_cons_zero, List.getElem?_cons_succ, wipeG, Nat.reduceAdd, Nat.reduceSub, Nat.reduceLeDiff, line_lit, eqOk_int, eqOk_str, eqv_int, eqv_str, decide_eq_true_eq, true_and, and_true, Bool.true_or, if_true, reduceIte, Bool.not_true, Bool.not_false, Bool.false_eq_true, if_false]
        refine ⟨isI d, isi_int d, ?_⟩
        cases e1 : isI d with
        | false =>
          rw [e1] at q1
          exact q1
        | true =>
          rw [e1] at q1
          exact ⟨isB d, isi_bool d, q1⟩
      · rw [List.map_map]
        refine ⟨ds.map Lw.intD, bools_of _ _, ?_⟩
        rw [List.all_map]
        exact q
    · rw [decide_eq_false h] at q
      rw [if_pos (by simp; omega)]
      exact q
  | _ =>
    simp only [sRet, sRetN, sSeq, sNext, sIf, sDrop, sSet, sSetL, sPar, sOwn, sApp, sAppL, sFor, sAsg, sBreak, sCont, dRaise, dTry1, dTry2, try1E, try2E, xTake, endX, dXf, dC, dV, dBin, dUn, dB, dTru, dNot, dAnd, dOr, dAndV, dOrV, dNotV, dIf, dNil, dCons, datas, dDisp, dBlt, dCall, dCallK, dMeth, dMethK, dMethS, dBm, dChain, dSl, dNo, dPt, dOfF, fDisp, fList, fLc, dGet2, dYes, bAdd, bSub, bFdiv, bMod, bPow, bMul, bLt, bLe, bGt, bGe, bI, bI0, bEq, bNe, bIn, bNotIn, bInG, bIs, bIsNot, bIx, bSl, bNeg, bListed, bGet, baLen, baIsi, baAll, baAny, baAbs, baMax, baMin, baI1, baI2, baList, baTup, baInt, baStr, baRepr, bmIndex, iL, iT, iS, iR1, iE, iK, gN, gT, gNs, isLst, isTxt, InsA, flatA, bodyE, startG, frz_nil, frz_cons, frz_va, frz_no, frz_own, List.map_cons, List.map_nil, List.length_cons, List.length_nil, List.replicate, List.append_nil, List.cons_append, List.nil_append, List.set_cons_zero, List.set_cons_succ, List.set_nil, List.getElem?_cons_zero, List.getElem?_cons_succ, wipeG, Nat.reduceAdd, Nat.reduceSub, Nat.reduceLeDiff, line_lit, eqOk_int, eqOk_str, eqv_int, eqv_str, decide_eq_true_eq, true_and, and_true, Bool.true_or, if_true, reduceIte, Bool.not_true, Bool.not_false, Bool.false_eq_true, if_false, N_is_line]
    exact ⟨false, isi_tuple _, q⟩
theorem z_due (F : FnP K "_law_due" s_due f fd) (T : Tz mg) : FZ P w K mg base false 1 f fd ["_law_labels", "_law_way", "_law_some"] aDue := by
  refine fz_ok F sc_due ⟨fun xs k k' e e' hk he ⟨ns, way, a, b, c, h1, h2, h3, h7⟩ => ⟨ns, way, a, b, c, h1, h2, h3, hk _ h7⟩, fun xs k e ⟨ns, way, a, b, c, h1, _⟩ => by rw [h1]; rfl⟩ (fun cdv A outer s H E Z hr => (dss_cons (ds_set (i := 3) sc_due.nd rfl (Or.inr rfl) (de_ix oa_ix mono_ix (de_lst (da_cons (de_lst da_nil) (da_cons (de_lst (da_cons de_str da_nil)) (da_cons (de_lst (da_cons de_str (da_cons de_str da_nil))) (da_cons (de_lst (da_cons de_str (da_cons de_str (da_cons de_str da_nil)))) (da_cons (de_lst (da_cons de_str (da_cons de_str (da_cons de_str da_nil)))) (da_cons (de_lst (da_cons de_str (da_cons de_str (da_cons de_str da_nil)))) da_nil))))))) (de_v (pv 1)) (fun _ _ => rfl)))
      (dss_cons (ds_setLc (i := 4) (own := [("_law_name", 8)]) rfl sc_due.nd rfl rfl (sw_true rfl rfl rfl (by decide +kernel)) (di_list (de_v (pv 3))) (blkOk_by (own := [("_law_name", 8)]) (N := N_due) (sc := defScope s_due) (by decide +kernel)) (fun _ _ _ _ _ _ => (dg_name (i := 8) sc_due.nd rfl (Or.inl rfl))) (fun _ _ _ _ _ _ => dts_one (dt_cmp oa_notIn mono_in (de_v (pv 8)) (de_v (pv 0)) (by with_unfolding_all rfl))) (fun _ _ _ _ _ _ => (de_v (pv 8))))
      (dss_cons (ds_if (dt_cmp (oa_ne hr.units) mono_ne (de_v (pv 4)) (de_lst da_nil) (nomark _)) (dss_one (ds_ret (de_lst (da_cons de_str (da_cons (de_ix oa_ix mono_ix (de_v (pv 4)) de_int (fun _ _ => rfl)) da_nil))))) dss_nil)
      (dss_cons (ds_setLc (i := 5) (own := [("_law_one", 7)]) rfl sc_due.nd rfl rfl (sw_true rfl rfl rfl (by decide +kernel)) (di_list (de_slice (de_v (pv 2)) do_no (do_pt (de_callB ca_len mono_len (by rfl) T.z_len (by decide +kernel) (da_cons (de_v (pv 3)) da_nil))))) (blkOk_by (own := [("_law_one", 7)]) (N := N_due) (sc := defScope s_due) (by decide +kernel)) (fun _ _ _ _ _ _ => (dg_name (i := 7) sc_due.nd rfl (Or.inl rfl))) (fun _ _ _ _ _ _ => dts_one (dt_w (dw_or (dt_not (dt_b (de_callB ca_isi mono_isi (by rfl) T.z_isinstance (by decide +kernel) (da_cons (de_v (pv 7)) (da_cons (de_raw (pe_bltn (v := .ty "int") (by rfl) T.z_int (by decide +kernel) rfl)) da_nil))))) (dw_or1 (dt_b (de_callB ca_isi mono_isi (by rfl) T.z_isinstance (by decide +kernel) (da_cons (de_v (pv 7)) (da_cons (de_raw (pe_bltn (v := .ty "bool") (by rfl) T.z_bool (by decide +kernel) rfl)) da_nil)))))))) (fun _ _ _ _ _ _ => (de_v (pv 7))))
      (dss_cons (ds_if (dt_cmp (oa_ne hr.units) mono_ne (de_v (pv 5)) (de_lst da_nil) (nomark _)) (dss_one (ds_ret (de_lst (da_cons de_str (da_cons (de_ix oa_ix mono_ix (de_v (pv 5)) de_int (fun _ _ => rfl)) da_nil))))) dss_nil)
      (dss_one (ds_ret (de_callTy ca_tup mono_tup (by rfl) T.z_tuple (by decide +kernel) (da_cons (de_f (df_lc (own := [("_law_label", 6)]) rfl sc_due.nd (di_list (de_v (pv 0))) (blkOk_by (own := [("_law_label", 6)]) (N := N_due) (sc := defScope s_due) (by decide +kernel)) (fun _ _ _ _ _ _ => (dg_name (i := 6) sc_due.nd rfl (Or.inl rfl))) (fun _ _ _ _ _ _ => dts_nil) (fun _ _ _ _ _ _ => (de_if (dt_cmp oa_in mono_in (de_v (pv 6)) (de_v (pv 3)) (by with_unfolding_all rfl)) (de_ix oa_ix mono_ix (de_v (pv 2)) (de_bm PySem.F.plainAttrs_list PySem.F.slot_list_index PySem.F.type_list_index ma_index mono_index ty_lst (de_v (pv 3)) (da_cons (de_v (pv 6)) da_nil)) (fun _ _ => rfl)) de_int)))) da_nil)))))))))) (fun xs k e h => ?_)
  obtain ⟨ns, way, a, b, c, rfl, hl, hw, q⟩ := h
  simp only [sRet, sRetN, sSeq, sNext, sIf, sDrop, sSet, sSetL, sPar, sOwn, sApp, sAppL, sFor, sAsg, sBreak, sCont, dRaise, dTry1, dTry2, try1E, try2E, xTake, endX, dXf, dC, dV, dBin, dUn, dB, dTru, dNot, dAnd, dOr, dAndV, dOrV, dNotV, dIf, dNil, dCons, datas, dDisp, dBlt, dCall, dCallK, dMeth, dMethK, dMethS, dBm, dChain, dSl, dNo, dPt, dOfF, fDisp, fList, fLc, dGet2, dYes, bAdd, bSub, bFdiv, bMod, bPow, bMul, bLt, bLe, bGt, bGe, bI, bI0, bEq, bNe, bIn, bNotIn, bInG, bIs, bIsNot, bIx, bSl, bNeg, bListed, bGet, baLen, baIsi, baAll, baAny, baAbs, baMax, baMin, baI1, baI2, baList, baTup, baInt, baStr, baRepr, bmIndex, iL, iT, iS, iR1, iE, iK, gN, gT, gNs, isLst, isTxt, InsA, flatA, bodyE, startG, frz_nil, frz_cons, frz_va, frz_no, frz_own, List.map_cons, List.map_nil, List.length_cons, List.length_nil, List.replicate, List.append_nil, List.cons_append, List.nil_append, List.set_cons_zero, List.set_cons_succ, List.set_nil, List.getElem?_cons_zero, List.getElem?_cons_succ, wipeG, Nat.reduceAdd, Nat.reduceSub, Nat.reduceLeDiff, line_lit, eqOk_int, eqOk_str, eqv_int, eqv_str, decide_eq_true_eq, true_and, and_true, Bool.true_or, if_true, reduceIte, Bool.not_true, Bool.not_false, Bool.false_eq_true, if_false, N_due]
  obtain ⟨gs, hgs, gl, at_⟩ : ∃ gs, given way = gs ∧ gs.length ≤ 3 ∧ atI [PyData.list [], .list [.str "s"], .list [.str "b", .str "a"], .list [.str "s", .str "a", .str "b"], .list [.str "a", .str "nofield", .str "b"], .list [.str "other", .str "s", .str "nofield"]] (way : Int) = some (.list (gs.map PyData.str)) := by
    have : way = 0 ∨ way = 1 ∨ way = 2 ∨ way = 3 ∨ way = 4 ∨ way = 5 := by omega
    rcases this with rfl | rfl | rfl | rfl | rfl | rfl
    all_goals exact ⟨_, rfl, by decide +kernel, rfl⟩
  rw [hgs] at q
  refine ⟨_, at_, ?_⟩
  have gl3 : gs.length ≤ [a, b, c].length := gl
  dsimp only
  refine ⟨by rw [List.length_map, List.length_map]; exact small1000 (by omega), dcomp_filter (p := onS fun z => !decide (z ∈ ns)) (f := avD) (fun x hx k1 k2 q1 q2 => ?_) ?_⟩
  · obtain ⟨d, hd, rfl⟩ := List.mem_map.mp hx
    obtain ⟨z, _, rfl⟩ := List.mem_map.mp hd
    simp only [sRet, sRetN, sSeq, sNext, sIf, sDrop, sSet, sSetL, sPar, sOwn, sApp, sAppL, sFor, sAsg, sBreak, sCont, dRaise, dTry1, dTry2, try1E, try2E, xTake, endX, dXf, dC, dV, dBin, dUn, dB, dTru, dNot, dAnd, dOr, dAndV, dOrV, dNotV, dIf, dNil, dCons, datas, dDisp, dBlt, dCall, dCallK, dMeth, dMethK, dMethS, dBm, dChain, dSl, dNo, dPt, dOfF, fDisp, fList, fLc, dGet2, dYes, bAdd, bSub, bFdiv, bMod, bPow, bMul, bLt, bLe, bGt, bGe, bI, bI0, bEq, bNe, bIn, bNotIn, bInG, bIs, bIsNot, bIx, bSl, bNeg, bListed, bGet, baLen, baIsi, baAll, baAny, baAbs, baMax, baMin, baI1, baI2, baList, baTup, baInt, baStr, baRepr, bmIndex, iL, iT, iS, iR1, iE, iK, gN, gT, gNs, isLst, isTxt, InsA, flatA, bodyE, startG, frz_nil, frz_cons, frz_va, frz_no, frz_own, List.map_cons, List.map_nil, List.length_cons, List.length_nil, List.replicate, List.append_nil, List.cons_append, List.nil_append, List.set_cons_zero, List.set_cons_succ, List.set_nil, List.getElem?_cons_zero, List.getElem?_cons_succ, wipeG, Nat.reduceAdd, Nat.reduceSub, Nat.reduceLeDiff, line_lit, eqOk_int, eqOk_str, eqv_int, eqv_str, decide_eq_true_eq, true_and, and_true, Bool.true_or, if_true, reduceIte, Bool.not_true, Bool.not_false, Bool.false_eq_true, if_false]
    refine ⟨⟨rfl, flat_names ns⟩, ?_⟩
    rw [in_names]
    have q1 : (!decide (z ∈ ns)) = true → k1 (.d (.str z)) := q1
    have q2 : (!decide (z ∈ ns)) = false → k2 := q2
    cases hz : !decide (z ∈ ns) with
    | true =>
      rw [if_pos rfl]
      exact q1 hz
    | false =>
      rw [if_neg (by decide)]
      exact q2 hz
  · rw [filt_onS]
    refine ⟨nil_ok _, ?_⟩
    rw [nil_eqv]
    have hu := unk_zip (ns := ns) gl3
    unfold resD at q
    rw [hu] at q
    cases hf : gs.filter fun z => !decide (z ∈ ns) with
    | cons z r =>
      rw [hf] at q
      exact ⟨.str z, atI_head, q⟩
    | nil =>
      rw [hf] at q
      have q : k (.d (match badN (gs.zip [a, b, c]) with
        | some y => .list [.str "refused", y]
        | none => eqnOf ns (gs.zip [a, b, c]))) := q
      rw [bad_zip gl3] at q
      have lg : (gs.map PyData.str).length = gs.length := List.length_map _
      rw [if_neg (by decide), lg, cut_take gl3]
      refine ⟨by rw [List.length_map, List.length_take]; exact small1000 (by omega), dcomp_filter (p := onD fun y => !Lw.intD y) (f := avD) (fun x hx k1 k2 q1 q2 => ?_) ?_⟩
      · obtain ⟨d, _, rfl⟩ := List.mem_map.mp hx
        simp only [sRet, sRetN, sSeq, sNext, sIf, sDrop, sSet, sSetL, sPar, sOwn, sApp, sAppL, sFor, sAsg, sBreak, sCont, dRaise, dTry1, dTry2, try1E, try2E, xTake, endX, dXf, dC, dV, dBin, dUn, dB, dTru, dNot, dAnd, dOr, dAndV, dOrV, dNotV, dIf, dNil, dCons, datas, dDisp, dBlt, dCall, dCallK, dMeth, dMethK, dMethS, dBm, dChain, dSl, dNo, dPt, dOfF, fDisp, fList, fLc, dGet2, dYes, bAdd, bSub, bFdiv, bMod, bPow, bMul, bLt, bLe, bGt, bGe, bI, bI0, bEq, bNe, bIn, bNotIn, bInG, bIs, bIsNot, bIx, bSl, bNeg, bListed, bGet, baLen, baIsi, baAll, baAny, baAbs, baMax, baMin, baI1, baI2, baList, baTup, baInt, baStr, baRepr, bmIndex, iL, iT, iS, iR1, iE, iK, gN, gT, gNs, isLst, isTxt, InsA, flatA, bodyE, startG, frz_nil, frz_cons, frz_va, frz_no, frz_own, List.map_cons, List.map_nil, List.length_cons, List.length_nil, List.replicate, List.append_nil, List.cons_append, List.nil_append, List.set_cons_zero, List.set_cons_succ, List.set_nil, List.getElem?_cons_zero, List.getElem?_cons_succ, wipeG, Nat.reduceAdd, Nat.reduceSub, Nat.reduceLeDiff, line_lit, eqOk_int, eqOk_str, eqv_int, eqv_str, decide_eq_true_eq, true_and, and_true, Bool.true_or, if_true, reduceIte, Bool.not_true, Bool.not_false, Bool.false_eq_true, if_false]
        refine ⟨isI d, isi_int d, ?_⟩
        have q1 : (!(isI d && !isB d)) = true → k1 (.d d) := q1
        have q2 : (!(isI d && !isB d)) = false → k2 := q2
        cases e1 : isI d with
        | false =>
          rw [e1] at q1
          exact q1 rfl
        | true =>
          rw [e1] at q1 q2
          refine ⟨isB d, isi_bool d, ?_⟩
          cases e2 : isB d with
          | true =>
            rw [e2] at q1
            exact q1 rfl
          | false =>
            rw [e2] at q2
            exact q2 rfl
      · rw [filt_onD]
        refine ⟨nil_ok _, ?_⟩
        rw [nil_eqv]
        cases hb : ([a, b, c].take gs.length).filter fun y => !Lw.intD y with
        | cons y r =>
          rw [hb] at q
          exact ⟨y, atI_head, q⟩
        | nil =>
          rw [hb] at q
          rw [if_neg (by decide)]
          refine ⟨by rw [List.length_map, List.length_map]; exact small1000 (by omega), dcomp_map (f := mapS fun n => ((gs.zip [a, b, c]).lookup n).getD (.int 0)) (fun x hx k1 k2 q1 => ?_) ?_⟩
          · obtain ⟨d, hd, rfl⟩ := List.mem_map.mp hx
            obtain ⟨z, _, rfl⟩ := List.mem_map.mp hd
            have q1 : k1 (.d (((gs.zip [a, b, c]).lookup z).getD (.int 0))) := q1
            simp only [sRet, sRetN, sSeq, sNext, sIf, sDrop, sSet, sSetL, sPar, sOwn, sApp, sAppL, sFor, sAsg, sBreak, sCont, dRaise, dTry1, dTry2, try1E, try2E, xTake, endX, dXf, dC, dV, dBin, dUn, dB, dTru, dNot, dAnd, dOr, dAndV, dOrV, dNotV, dIf, dNil, dCons, datas, dDisp, dBlt, dCall, dCallK, dMeth, dMethK, dMethS, dBm, dChain, dSl, dNo, dPt, dOfF, fDisp, fList, fLc, dGet2, dYes, bAdd, bSub, bFdiv, bMod, bPow, bMul, bLt, bLe, bGt, bGe, bI, bI0, bEq, bNe, bIn, bNotIn, bInG, bIs, bIsNot, bIx, bSl, bNeg, bListed, bGet, baLen, baIsi, baAll, baAny, baAbs, baMax, baMin, baI1, baI2, baList, baTup, baInt, baStr, baRepr, bmIndex, iL, iT, iS, iR1, iE, iK, gN, gT, gNs, isLst, isTxt, InsA, flatA, bodyE, startG, frz_nil, frz_cons, frz_va, frz_no, frz_own, List.map_cons, List.map_nil, List.length_cons, List.length_nil, List.replicate, List.append_nil, List.cons_append, List.nil_append, List.set_cons_zero, List.set_cons_succ, List.set_nil, List.getElem?_cons_zero, List.getElem?_cons_succ, wipeG, Nat.reduceAdd, Nat.reduceSub, Nat.reduceLeDiff, line_lit, eqOk_int, eqOk_str, eqv_int, eqv_str, decide_eq_true_eq, true_and, and_true, Bool.true_or, if_true, reduceIte, Bool.not_true, Bool.not_false, Bool.false_eq_true, if_false]
            refine ⟨⟨rfl, flat_names gs⟩, ?_⟩
            rw [in_names]
            by_cases hz : z ∈ gs
            · rw [if_pos (decide_eq_true hz)]
              obtain ⟨j, y, h1, h2, h3⟩ := lk_zip gl3 hz
              rw [h3] at q1
              refine ⟨rfl, flat_names gs, ?_⟩
              rw [h1]
              refine ⟨y, ?_, q1⟩
              have hj := (List.getElem?_eq_some_iff.mp h2).1
              rw [atI_pos (by omega) (by omega)]
              exact h2
            · rw [if_neg (by simpa using hz)]
              rw [lk_none hz] at q1
              exact q1
          · rw [map_mapS]
            exact q
end
end K16




set_option Elab.async false
set_option linter.all false
set_option maxRecDepth 100000
set_option maxHeartbeats 4000000
namespace K16
open PySem PySem.Spec PyProof.Rows L2 Lw

open Dl
structure Thi (d : PyData) : Prop where
  sm : Small 60000 d
  ln : ∀ es, d = .tuple es → es.length ≤ 900
theorem thi_tuple {ds : List PyData} (h : ∀ d ∈ ds, Thg d) (hl : ds.length ≤ 20) : Thi (.tuple ds) := ⟨(small_tupN (n := 2000) fun d hd => ⟨(h d hd).sm, Nat.le_trans (h d hd).dp (by decide)⟩).mono (by omega), fun es e => by cases e; omega⟩
theorem thi_list {ds : List PyData} (h : ∀ d ∈ ds, Thg d) (hl : ds.length ≤ 20) : Thi (.list ds) := ⟨(small_list (n := 2000) fun d hd => ⟨(h d hd).sm, Nat.le_trans (h d hd).dp (by decide)⟩).mono (by omega), fun es e => nomatch e⟩
theorem thi_thg {d : PyData} (h : Thg d) (hl : ∀ es, d = .tuple es → es.length ≤ 900) : Thi d := ⟨h.sm.mono (by decide), hl⟩
theorem slim_len {es : List PyData} (h : slim (.tuple es) = true) : es.length ≤ 900 := by
  unfold slim at h
  rw [Bool.and_eq_true] at h
  exact of_decide_eq_true h.1
def aThings : ASp := fun xs k _ => ∃ n : Nat, xs = [.pot, .d (.int n)] ∧ 1 ≤ n ∧ n ≤ 12 ∧ ∀ ds, ds.length ≤ 20 → (∀ d ∈ ds, Thi d) → k (.d (.list ds))
theorem paired_all {R : Av → PyData → Prop} {Q : PyData → Prop} (h : ∀ x y, R x y → Q y) : ∀ {xs : List Av} {ys : List PyData}, Paired R xs ys → ∀ y ∈ ys, Q y
  | _, _, .nil, y, hy => nomatch hy
  | _, _, .cons a r, y, hy => by
    rcases List.mem_cons.mp hy with e | e
    · subst e
      exact h _ _ a
    · exact paired_all h r y e
theorem ints_len (lo : Int) (n : Nat) : (intsA lo n).length = n := by simp [intsA]
theorem names_perm {ns : List Str} {es : List PyData} (nm : Nms ns) (h : es.Perm (ns.map PyData.str)) : ∃ ms : List Str, es = ms.map PyData.str ∧ Nms ms ∧ ms.length = ns.length := by
  have h1 : ∀ d ∈ es, ∃ z, z ∈ ns ∧ d = PyData.str z := fun d hd => by
    obtain ⟨z, hz, e⟩ := List.mem_map.mp (h.mem_iff.mp hd)
    exact ⟨z, hz, e.symm⟩
  have h2 : ∀ {l : List PyData}, (∀ d ∈ l, ∃ z, z ∈ ns ∧ d = PyData.str z) → ∃ ms : List Str, l = ms.map PyData.str ∧ ∀ z ∈ ms, z ∈ ns := by
    intro l
    induction l with
    | nil => exact fun _ => ⟨[], rfl, fun z hz => nomatch hz⟩
    | cons d l ih =>
      intro hh
      obtain ⟨z, hz, rfl⟩ := hh d List.mem_cons_self
      obtain ⟨ms, e, hm⟩ := ih fun x hx => hh x (List.mem_cons_of_mem _ hx)
      refine ⟨z :: ms, by rw [e]; rfl, fun y hy => ?_⟩
      rcases List.mem_cons.mp hy with q | q
      · rw [q]
        exact hz
      · exact hm y q
  obtain ⟨ms, rfl, hm⟩ := h2 h1
  have hl : ms.length = ns.length := by
    have := h.length_eq
    simpa using this
  refine ⟨ms, rfl, ⟨by rw [hl]; exact nm.lo, by rw [hl]; exact nm.hi, ?_, fun z hz => nm.nm z (hm z hz)⟩, hl⟩
  have nd : (ns.map PyData.str).Nodup := by
    have : ∀ {l : List Str}, l.Nodup → (l.map PyData.str).Nodup := by
      intro l
      induction l with
      | nil => exact fun _ => List.nodup_nil
      | cons z l ih =>
        intro hn
        obtain ⟨a, b⟩ := List.nodup_cons.mp hn
        refine List.nodup_cons.mpr ⟨fun q => ?_, ih b⟩
        obtain ⟨y, hy, e⟩ := List.mem_map.mp q
        cases e
        exact a hy
    exact this nm.nd
  have nd2 := h.nodup_iff.mpr nd
  have back : ∀ {l : List Str}, (l.map PyData.str).Nodup → l.Nodup := by
    intro l
    induction l with
    | nil => exact fun _ => List.nodup_nil
    | cons z l ih =>
      intro hn
      obtain ⟨a, b⟩ := List.nodup_cons.mp hn
      exact List.nodup_cons.mpr ⟨fun q => a (List.mem_map_of_mem q), ih b⟩
  exact back nd2
section
variable {P : Program} {w : World} {K : PySem.W.Frag} {mg : Str → Option Value} {base : Heap} {f : Addr} {fd : FuncData} {fD fF fO fC fE fM fT fU fL fN C CU CN CF : Addr} {fdD fdF fdO fdC fdE fdM fdT fdU fdL fdN fdI fdG : FuncData}
theorem z_things (F : FnP K "_law_things" s_things f fd) (T : Tz mg) (O_draw : OZ P w K mg base false 1 "_law_draw" ["_law_pot_here", "_law_many"] aDraw fD fdD)
    (O_factor : OZ P w K mg base false 2 "_law_factor" ["_law_pot_here"] (aPot isFac) fF fdF) (O_odd : OZ P w K mg base false 2 "_law_odd" ["_law_pot_here"] (aPot (· ∈ odds)) fO fdO) : FZ P w K mg base false 3 f fd ["_law_pot_here", "_law_wide"] aThings := by
  refine fz_ok F sc_things ⟨fun xs k k' e e' hk he ⟨n, h1, h2, h3, h4⟩ => ⟨n, h1, h2, h3, fun ds a b => hk _ (h4 ds a b)⟩, fun xs k e ⟨n, h1, _⟩ => by rw [h1]; rfl⟩ (fun cdv A outer s H E Z hr => (dss_cons (ds_set (i := 2) sc_things.nd rfl (Or.inr rfl) (de_callTy ca_tup mono_tup (by rfl) T.z_tuple (by decide +kernel) (da_cons (de_f (df_lc (own := [("_law_k", 6)]) rfl sc_things.nd (di_range1 (by rfl) T.z_range (da_cons (de_v (pv 1)) da_nil)) (blkOk_by (own := [("_law_k", 6)]) (N := N_things) (sc := defScope s_things) (by decide +kernel)) (fun _ _ _ _ _ _ => (dg_name (i := 6) sc_things.nd rfl (Or.inl rfl))) (fun _ _ _ _ _ _ => dts_nil) (fun _ _ _ _ _ _ => (de_call O_factor (fun z => nomatch z) takes0 (hr.mono (by first | decide | omega)) (da_cons (de_v (pv 0)) da_nil))))) da_nil)))
      (dss_cons (ds_set (i := 3) sc_things.nd rfl (Or.inr rfl) (de_call O_draw (fun z => nomatch z) (takes_of rfl rfl rfl rfl) (hr.mono (by first | decide | omega)) (da_cons (de_v (pv 0)) (da_cons (de_v (pv 1)) da_nil))))
      (dss_cons (ds_set (i := 4) sc_things.nd rfl (Or.inl rfl) (de_lst (da_cons (de_v (pv 2)) (da_cons (de_callTy ca_list mono_list (by rfl) T.z_list (by decide +kernel) (da_cons (de_v (pv 2)) da_nil)) (da_cons (de_slice (de_v (pv 2)) (do_pt de_int) do_no) (da_cons (de_bin oa_add mono_add (de_v (pv 2)) (de_tup (da_cons de_int da_nil))) (da_cons (de_call O_odd (fun z => nomatch z) (takes_of rfl rfl rfl rfl) (hr.mono (by first | decide | omega)) (da_cons (de_v (pv 0)) da_nil)) (da_cons (de_tup da_nil) da_nil))))))))
      (dss_one (ds_ret (de_bin oa_add mono_add (de_v (pv 4)) (de_f (df_lc (own := [("_law_odd_here", 5)]) rfl sc_things.nd (di_tup (de_tup (da_cons de_bl (da_cons de_str (da_cons (de_tup (da_cons de_int (da_cons de_int da_nil))) (da_cons de_non da_nil)))))) (blkOk_by (own := [("_law_odd_here", 5)]) (N := N_things) (sc := defScope s_things) (by decide +kernel)) (fun _ _ _ _ _ _ => (dg_name (i := 5) sc_things.nd rfl (Or.inl rfl))) (fun _ _ _ _ _ _ => dts_nil) (fun _ _ _ _ _ _ => (de_bin oa_add mono_add (de_bin oa_add mono_add (de_slice (de_v (pv 2)) do_no (do_pt (de_v (pv 3)))) (de_tup (da_cons (de_v (pv 5)) da_nil))) (de_slice (de_v (pv 2)) (do_pt (de_bin oa_add mono_add (de_v (pv 3)) de_int)) do_no)))))))))))) (fun xs k e h => ?_)
  obtain ⟨n, rfl, n1, n2, q⟩ := h
  simp only [sRet, sRetN, sSeq, sNext, sIf, sDrop, sSet, sSetL, sPar, sOwn, sApp, sAppL, sFor, sAsg, sBreak, sCont, dRaise, dTry1, dTry2, try1E, try2E, xTake, endX, dXf, dC, dV, dBin, dUn, dB, dTru, dNot, dAnd, dOr, dAndV, dOrV, dNotV, dIf, dNil, dCons, datas, dDisp, dBlt, dCall, dCallK, dMeth, dMethK, dMethS, dBm, dChain, dSl, dNo, dPt, dOfF, fDisp, fList, fLc, dGet2, dYes, bAdd, bSub, bFdiv, bMod, bPow, bMul, bLt, bLe, bGt, bGe, bI, bI0, bEq, bNe, bIn, bNotIn, bInG, bIs, bIsNot, bIx, bSl, bNeg, bListed, bGet, baLen, baIsi, baAll, baAny, baAbs, baMax, baMin, baI1, baI2, baList, baTup, baInt, baStr, baRepr, bmIndex, iL, iT, iS, iR1, iE, iK, gN, gT, gNs, isLst, isTxt, InsA, flatA, bodyE, startG, frz_nil, frz_cons, frz_va, frz_no, frz_own, List.map_cons, List.map_nil, List.length_cons, List.length_nil, List.replicate, List.append_nil, List.cons_append, List.nil_append, List.set_cons_zero, List.set_cons_succ, List.set_nil, List.getElem?_cons_zero, List.getElem?_cons_succ, wipeG, Nat.reduceAdd, Nat.reduceSub, Nat.reduceLeDiff, line_lit, eqOk_int, eqOk_str, eqv_int, eqv_str, decide_eq_true_eq, true_and, and_true, Bool.true_or, if_true, reduceIte, Bool.not_true, Bool.not_false, Bool.false_eq_true, if_false, N_things]
  refine ⟨⟨by omega, by omega⟩, by rw [ints_len]; exact small1000 (by omega), dcomp_any (R := fun _ y => isFac y) (fun x hx k1 k2 q1 => ⟨rfl, q1⟩) (fun row pr => ?_)⟩
  have rl : row.length = n := by
    have := Paired.length pr
    rw [ints_len] at this
    omega
  have rt : ∀ y ∈ row, Thg y := paired_all (fun _ y h => by
    obtain ⟨i, rfl, h1, h2⟩ := h
    exact thg_int (by
      have : (1000000 : Nat) < 2 ^ 1000 := by decide +kernel
      omega)) pr
  refine draw_ok (by omega) (by omega) fun at' a0 a1 => ⟨Nat.le_of_lt (small1000 (by omega)), rfl, fun o ho => ?_⟩
  obtain ⟨p, rfl⟩ : ∃ p : Nat, at' = p := ⟨at'.toNat, by omega⟩
  simp only [sRet, sRetN, sSeq, sNext, sIf, sDrop, sSet, sSetL, sPar, sOwn, sApp, sAppL, sFor, sAsg, sBreak, sCont, dRaise, dTry1, dTry2, try1E, try2E, xTake, endX, dXf, dC, dV, dBin, dUn, dB, dTru, dNot, dAnd, dOr, dAndV, dOrV, dNotV, dIf, dNil, dCons, datas, dDisp, dBlt, dCall, dCallK, dMeth, dMethK, dMethS, dBm, dChain, dSl, dNo, dPt, dOfF, fDisp, fList, fLc, dGet2, dYes, bAdd, bSub, bFdiv, bMod, bPow, bMul, bLt, bLe, bGt, bGe, bI, bI0, bEq, bNe, bIn, bNotIn, bInG, bIs, bIsNot, bIx, bSl, bNeg, bListed, bGet, baLen, baIsi, baAll, baAny, baAbs, baMax, baMin, baI1, baI2, baList, baTup, baInt, baStr, baRepr, bmIndex, iL, iT, iS, iR1, iE, iK, gN, gT, gNs, isLst, isTxt, InsA, flatA, bodyE, startG, frz_nil, frz_cons, frz_va, frz_no, frz_own, List.map_cons, List.map_nil, List.length_cons, List.length_nil, List.replicate, List.append_nil, List.cons_append, List.nil_append, List.set_cons_zero, List.set_cons_succ, List.set_nil, List.getElem?_cons_zero, List.getElem?_cons_succ, wipeG, Nat.reduceAdd, Nat.reduceSub, Nat.reduceLeDiff, line_lit, eqOk_int, eqOk_str, eqv_int, eqv_str, decide_eq_true_eq, true_and, and_true, Bool.true_or, if_true, reduceIte, Bool.not_true, Bool.not_false, Bool.false_eq_true, if_false]
  refine ⟨by decide, dcomp_any (R := fun _ y => Thi y) (fun x hx k1 k2 q1 => ?_) (fun more pm => ?_)⟩
  · obtain ⟨y, rfl, ty⟩ : ∃ y, x = .d y ∧ Thg y := by
      simp only [List.mem_cons, List.not_mem_nil, or_false] at hx
      rcases hx with rfl | rfl | rfl | rfl
      · exact ⟨_, rfl, ⟨by decide +kernel, by decide +kernel, by decide +kernel⟩, by decide +kernel, by decide +kernel⟩
      · exact ⟨_, rfl, ⟨by decide +kernel, by decide +kernel, by decide +kernel⟩, by decide +kernel, by decide +kernel⟩
      · exact ⟨_, rfl, ⟨by decide +kernel, by decide +kernel, by decide +kernel⟩, by decide +kernel, by decide +kernel⟩
      · exact ⟨_, rfl, ⟨by decide +kernel, by decide +kernel, by decide +kernel⟩, by decide +kernel, by decide +kernel⟩
    simp only [sRet, sRetN, sSeq, sNext, sIf, sDrop, sSet, sSetL, sPar, sOwn, sApp, sAppL, sFor, sAsg, sBreak, sCont, dRaise, dTry1, dTry2, try1E, try2E, xTake, endX, dXf, dC, dV, dBin, dUn, dB, dTru, dNot, dAnd, dOr, dAndV, dOrV, dNotV, dIf, dNil, dCons, datas, dDisp, dBlt, dCall, dCallK, dMeth, dMethK, dMethS, dBm, dChain, dSl, dNo, dPt, dOfF, fDisp, fList, fLc, dGet2, dYes, bAdd, bSub, bFdiv, bMod, bPow, bMul, bLt, bLe, bGt, bGe, bI, bI0, bEq, bNe, bIn, bNotIn, bInG, bIs, bIsNot, bIx, bSl, bNeg, bListed, bGet, baLen, baIsi, baAll, baAny, baAbs, baMax, baMin, baI1, baI2, baList, baTup, baInt, baStr, baRepr, bmIndex, iL, iT, iS, iR1, iE, iK, gN, gT, gNs, isLst, isTxt, InsA, flatA, bodyE, startG, frz_nil, frz_cons, frz_va, frz_no, frz_own, List.map_cons, List.map_nil, List.length_cons, List.length_nil, List.replicate, List.append_nil, List.cons_append, List.nil_append, List.set_cons_zero, List.set_cons_succ, List.set_nil, List.getElem?_cons_zero, List.getElem?_cons_succ, wipeG, Nat.reduceAdd, Nat.reduceSub, Nat.reduceLeDiff, line_lit, eqOk_int, eqOk_str, eqv_int, eqv_str, decide_eq_true_eq, true_and, and_true, Bool.true_or, if_true, reduceIte, Bool.not_true, Bool.not_false, Bool.false_eq_true, if_false]
    have e1 : cutD row none (some (p : Int)) = row.take p := cut_take (by omega)
    have e2 : cutD row (some ((p : Int) + 1)) none = row.drop (p + 1) := cut_drop (n := p + 1) (by omega)
    rw [e1, e2]
    have t1 : ∀ z ∈ row.take p, Thg z := fun z hz => rt z (List.mem_of_mem_take hz)
    have t2 : ∀ z ∈ row.drop (p + 1), Thg z := fun z hz => rt z (List.mem_of_mem_drop hz)
    have l1 : (row.take p).length ≤ 12 := by rw [List.length_take]; omega
    have l2 : (row.drop (p + 1)).length ≤ 7 ∨ True := .inr trivial
    have l3 : (row.take p ++ [y]).length + (row.drop (p + 1)).length ≤ 20 := by
      rw [List.length_append, List.length_take, List.length_drop, List.length_cons, List.length_nil]
      omega
    refine ⟨Nat.le_of_lt (small1000 (by omega)), Nat.le_of_lt (small1000 (by omega)), q1 _ (thi_tuple (fun z hz => ?_) (by rw [List.length_append]; omega))⟩
    rcases List.mem_append.mp hz with hz | hz
    · rcases List.mem_append.mp hz with hz | hz
      · exact t1 z hz
      · cases List.mem_singleton.mp hz
        exact ty
    · exact t2 z hz
  · have ml : more.length = 4 := (Paired.length pm).symm
    refine ⟨Nat.le_of_lt (small1000 (by omega)), q _ (by simp only [List.length_cons, ml]; decide) fun d hd => ?_⟩
    · simp only [List.mem_cons] at hd
      rcases hd with rfl | rfl | rfl | rfl | rfl | rfl | hd
      · exact thi_tuple rt (by omega)
      · exact thi_list rt (by omega)
      · rw [show cutD row (some 1) none = row.drop 1 from cut_drop (n := 1) (by omega)]
        exact thi_tuple (fun z hz => rt z (List.mem_of_mem_drop hz)) (by rw [List.length_drop]; omega)
      · refine thi_tuple (fun z hz => ?_) (by rw [List.length_append, rl]; show n + 1 ≤ 20; omega)
        rcases List.mem_append.mp hz with hz | hz
        · exact rt z hz
        · cases List.mem_singleton.mp hz
          exact thg_int (by decide +kernel)
      · have := thg_odd _ ho
        exact thi_thg this fun es e => slim_len (e ▸ this.sl)
      · exact thi_tuple (fun z hz => nomatch hz) (by decide)
      · exact paired_all (R := fun _ y => Thi y) (Q := Thi) (fun _ y h => h) pm d hd
theorem KM_is_equation {fdQ : FuncData} {fQ : Addr} (F : FnM K "Sheet.is_equation" "is_equation" s_Sheet_is_equation fQ fdQ) : KM K fdQ ["self", "value"] ["value"] id := by
  obtain ⟨oc, od, dV, kV, doc, pm, an, cdv, ct, osl, rfl, lk, hcd, hD, hK⟩ := F.ex
  rcases hD with ⟨_, rfl⟩ | ⟨e, _⟩
  · refine ⟨id, id, fun s u ws _ hl => ?_, fun _ _ r => r, fun _ _ _ _ r => r⟩
    match ws, hl with
    | [v], _ => exact .of_eq rfl
  · exact absurd rfl e
theorem res_small {ns : List Str} {kvs : List (Str × PyData)} (h1 : ∀ q ∈ kvs, Thg q.2) (h2 : ∀ q ∈ kvs, Small 2000 (.str q.1)) (hl : ns.length ≤ 12) : Small 60000 (resD ns kvs) := by
  unfold resD
  cases hu : unk ns kvs with
  | some z =>
    have : Small 2000 (.str z) := by
      unfold unk at hu
      obtain ⟨q, hq, rfl⟩ := Option.map_eq_some_iff.mp hu
      exact h2 q (List.mem_of_find?_eq_some hq)
    refine (small_list (n := 2000) fun d hd => ?_).mono (by simp)
    simp only [List.mem_cons, List.not_mem_nil, or_false] at hd
    rcases hd with rfl | rfl
    · exact ⟨⟨by decide +kernel, by decide +kernel, by decide +kernel⟩, by decide +kernel⟩
    · exact ⟨this, Nat.zero_le _⟩
  | none =>
    cases hb : badN kvs with
    | some y =>
      have ty : Thg y := by
        unfold badN at hb
        obtain ⟨q, hq, rfl⟩ := Option.map_eq_some_iff.mp hb
        exact h1 q (List.mem_of_find?_eq_some hq)
      refine (small_list (n := 2000) fun d hd => ?_).mono (by simp)
      simp only [List.mem_cons, List.not_mem_nil, or_false] at hd
      rcases hd with rfl | rfl
      · exact ⟨⟨by decide +kernel, by decide +kernel, by decide +kernel⟩, by decide +kernel⟩
      · exact ⟨ty.sm, Nat.le_trans ty.dp (by decide)⟩
    | none =>
      refine (thi_tuple (fun d hd => ?_) (by rw [List.length_map]; omega)).sm
      obtain ⟨n, _, rfl⟩ := List.mem_map.mp hd
      cases hk : kvs.lookup n with
      | none => exact thg_int (by decide +kernel)
      | some y =>
        have : ∀ {l : List (Str × PyData)}, l.lookup n = some y → ∃ z, (z, y) ∈ l := by
          intro l
          induction l with
          | nil => exact fun h => nomatch h
          | cons q l ih =>
            intro h
            obtain ⟨a, b⟩ := q
            simp only [List.lookup] at h
            split at h
            · cases h
              exact ⟨a, List.mem_cons_self⟩
            · obtain ⟨z, hz⟩ := ih h
              exact ⟨z, List.mem_cons_of_mem _ hz⟩
        obtain ⟨z, hz⟩ := this hk
        exact h1 _ hz
theorem given_small : ∀ way, ∀ z ∈ given way, Small 2000 (.str z) := by
  have key : ∀ l : List Str, l.all (fun z => nameB z) = true → ∀ z ∈ l, Small 2000 (.str z) := fun l h z hz => ((okD_name (List.all_eq_true.mp h z hz)).sm).mono (by decide)
  intro way
  match way with
  | 0 => exact key _ (by decide +kernel)
  | 1 => exact key _ (by decide +kernel)
  | 2 => exact key _ (by decide +kernel)
  | 3 => exact key _ (by decide +kernel)
  | 4 => exact key _ (by decide +kernel)
  | _ + 5 => exact key ["other", "s", "nofield"] (by decide +kernel)
def labs (j : Nat) : List Str := (["a", "b", "s"] : List Str) ++ (["x", "yy", "othersxx"] : List Str).take j
theorem labs_nms : ∀ j, j < 4 → Nms (labs j) := by
  have key : ∀ l : List Str, (decide (1 ≤ l.length) && (decide (l.length ≤ 12) && (decide l.Nodup && l.all nameB))) = true → Nms l := fun l h => by
    simp only [Bool.and_eq_true, decide_eq_true_eq] at h
    exact ⟨h.1, h.2.1, h.2.2.1, fun z hz => List.all_eq_true.mp h.2.2.2 z hz⟩
  intro j hj
  have : j = 0 ∨ j = 1 ∨ j = 2 ∨ j = 3 := by omega
  rcases this with rfl | rfl | rfl | rfl
  all_goals exact key _ (by decide +kernel)
theorem z_right (F : FnP K "_law_right" s_right f fd) (T : Tz mg) (B : SysOk base) (O_draw : OZ P w K mg base false 1 "_law_draw" ["_law_pot_here", "_law_many"] aDraw fD fdD)
    (O_mixed : OZ P w K mg base false 2 "_law_mixed" ["_law_pot_here", "_law_given"] aMixed fM fdM)
    (O_factor_or_odd : OZ P w K mg base false 3 "_law_factor_or_odd" ["_law_pot_here"] (aPot isFoo) fF fdF)
    (O_told : OZ P w K mg base false 13 "_law_told" ["_law_made", "_law_way", "_law_some"] (aTold C) fT fdT)
    (O_due : OZ P w K mg base false 1 "_law_due" ["_law_labels", "_law_way", "_law_some"] aDue fU fdU)
    (O_is_line : OZ P w K mg base false 1 "_law_is_line" ["_law_thing", "_law_wide"] aLine fL fdL)
    (O_things : OZ P w K mg base false 3 "_law_things" ["_law_pot_here", "_law_wide"] aThings fN fdN)
    (MK_Sheet : CZ P w K mg base 3 "Sheet" C (aSheet C CF)) (M_Sheet_is_equation : MZ P w K mg base false 2 C "is_equation" ["self", "value"] (aIsEq C) fdI) (KM_Sheet_is_equation : KM K fdI ["self", "value"] ["value"] id)
    (M_Sheet_fields : MZ P w K mg base false 1 C "fields" ["self"] (aFields C) fdG) : FZ P w K mg base true 15 f fd ["_law_pot_here"] aRight := by
  refine fz_g F sc_right sp_right' (fun cdv A outer s H E Z hg hr => (dss_cons (ds_set (i := 1) sc_right.nd rfl (Or.inl rfl) (de_call O_mixed (fun z => nomatch z) (takes_of rfl rfl rfl rfl) (hr.mono (by first | decide | omega)) (da_cons (de_v (pv 0)) (da_cons (de_bin oa_add mono_add (de_lst (da_cons de_str (da_cons de_str (da_cons de_str da_nil)))) (de_slice (de_lst (da_cons de_str (da_cons de_str (da_cons de_str da_nil)))) do_no (do_pt (de_call O_draw (fun z => nomatch z) (takes_of rfl rfl rfl rfl) (hr.mono (by first | decide | omega)) (da_cons (de_v (pv 0)) (da_cons de_int da_nil)))))) da_nil))))
      (dss_cons (ds_set (i := 2) sc_right.nd rfl (Or.inl rfl) (de_make MK_Sheet (takes_of rfl rfl rfl rfl) (hr.mono (by first | decide | omega)) (da_cons (de_v (pv 1)) da_nil)))
      (dss_cons (ds_for (passes_of rfl) rfl (di_range1 (by rfl) T.z_range (da_cons de_int da_nil)) (fun _ => (dg_name (i := 3) sc_right.nd rfl (Or.inl rfl))) (fun _ => (dss_cons (ds_par (i := 4) (j := 5) (by rfl) sc_right.nd rfl rfl (by decide) rfl rfl (da_cons (de_call O_draw (fun z => nomatch z) (takes_of rfl rfl rfl rfl) (hr.mono (by first | decide | omega)) (da_cons (de_v (pv 0)) (da_cons de_int da_nil))) (da_cons (de_f (df_lc (own := [("_law_k", 10)]) rfl sc_right.nd (di_range1 (by rfl) T.z_range (da_cons de_int da_nil)) (blkOk_by (own := [("_law_k", 10)]) (N := N_right) (sc := defScope s_right) (by decide +kernel)) (fun _ _ _ _ _ _ => (dg_name (i := 10) sc_right.nd rfl (Or.inl rfl))) (fun _ _ _ _ _ _ => dts_nil) (fun _ _ _ _ _ _ => (de_call O_factor_or_odd (fun z => nomatch z) takes0 (hr.mono (by first | decide | omega)) (da_cons (de_v (pv 0)) da_nil))))) da_nil)) (by rfl))
      (dss_one (ds_if (dt_cmp (oa_ne hr.units) mono_ne (de_callB (ca_repr B hg hr.units) mono_repr (by rfl) T.z_repr (by decide +kernel) (da_cons (de_call O_told (fun z => nomatch z) (takes_of rfl rfl rfl rfl) (hr.mono (by first | decide | omega)) (da_cons (de_v (pv 2)) (da_cons (de_v (pv 4)) (da_cons (de_v (pv 5)) da_nil)))) da_nil)) (de_callB (ca_repr B hg hr.units) mono_repr (by rfl) T.z_repr (by decide +kernel) (da_cons (de_call O_due (fun z => nomatch z) (takes_of rfl rfl rfl rfl) (hr.mono (by first | decide | omega)) (da_cons (de_v (pv 1)) (da_cons (de_v (pv 4)) (da_cons (de_v (pv 5)) da_nil)))) da_nil)) (nomark _)) (dss_one (ds_ret de_bl)) dss_nil)))))
      (dss_cons (ds_for (passes_of rfl) rfl (di_list (de_call O_things (fun z => nomatch z) (takes_of rfl rfl rfl rfl) (hr.mono (by first | decide | omega)) (da_cons (de_v (pv 0)) (da_cons (de_callB ca_len mono_len (by rfl) T.z_len (by decide +kernel) (da_cons (de_v (pv 1)) da_nil)) da_nil)))) (fun _ => (dg_name (i := 6) sc_right.nd rfl (Or.inl rfl))) (fun _ => (dss_cons (ds_par (i := 7) (j := 8) (by rfl) sc_right.nd rfl rfl (by decide) rfl rfl (da_cons (de_callB (ca_repr B hg hr.units) mono_repr (by rfl) T.z_repr (by decide +kernel) (da_cons (de_v (pv 6)) da_nil)) (da_cons (de_call O_is_line (fun z => nomatch z) (takes_of rfl rfl rfl rfl) (hr.mono (by first | decide | omega)) (da_cons (de_v (pv 6)) (da_cons (de_callB ca_len mono_len (by rfl) T.z_len (by decide +kernel) (da_cons (de_v (pv 1)) da_nil)) da_nil))) da_nil)) (by rfl))
      (dss_cons (ds_set (i := 9) sc_right.nd rfl (Or.inl rfl) (de_lst (da_cons (de_meth M_Sheet_is_equation (fun z => nomatch z) (takes_of rfl rfl rfl rfl) (hr.mono (by first | decide | omega)) (de_v (pv 2)) (da_cons (de_v (pv 6)) da_nil)) (da_cons (de_methK M_Sheet_is_equation KM_Sheet_is_equation (fun z => nomatch z) (takes_of rfl rfl rfl rfl) (hr.mono (by first | decide | omega)) (de_v (pv 2)) (dk_cons (de_v (pv 6)) dk_nil)) da_nil))))
      (dss_one (ds_if (dt_w (dw_or (dt_cmp (oa_ne hr.units) mono_ne (de_callB (ca_repr B hg hr.units) mono_repr (by rfl) T.z_repr (by decide +kernel) (da_cons (de_v (pv 9)) da_nil)) (de_callB (ca_repr B hg hr.units) mono_repr (by rfl) T.z_repr (by decide +kernel) (da_cons (de_lst (da_cons (de_v (pv 8)) (da_cons (de_v (pv 8)) da_nil))) da_nil)) (nomark _)) (dw_or1 (dt_cmp (oa_ne hr.units) mono_ne (de_callB (ca_repr B hg hr.units) mono_repr (by rfl) T.z_repr (by decide +kernel) (da_cons (de_v (pv 6)) da_nil)) (de_v (pv 7)) (nomark _))))) (dss_one (ds_ret de_bl)) dss_nil))))))
      (dss_one (ds_ret (de_cmp (oa_eq hr.units) mono_eq (de_callB (ca_repr B hg hr.units) mono_repr (by rfl) T.z_repr (by decide +kernel) (da_cons (de_meth0 M_Sheet_fields (fun z => nomatch z) (takes_of rfl rfl rfl rfl) (hr.mono (by first | decide | omega)) (de_v (pv 2))) da_nil)) (de_callB (ca_repr B hg hr.units) mono_repr (by rfl) T.z_repr (by decide +kernel) (da_cons (de_v (pv 1)) da_nil)) (nomark _))))))))) (fun xs k e h => ?_)
  obtain ⟨rfl, q⟩ := h
  simp only [sRet, sRetN, sSeq, sNext, sIf, sDrop, sSet, sSetL, sPar, sOwn, sApp, sAppL, sFor, sAsg, sBreak, sCont, dRaise, dTry1, dTry2, try1E, try2E, xTake, endX, dXf, dC, dV, dBin, dUn, dB, dTru, dNot, dAnd, dOr, dAndV, dOrV, dNotV, dIf, dNil, dCons, datas, dDisp, dBlt, dCall, dCallK, dMeth, dMethK, dMethS, dBm, dChain, dSl, dNo, dPt, dOfF, fDisp, fList, fLc, dGet2, dYes, bAdd, bSub, bFdiv, bMod, bPow, bMul, bLt, bLe, bGt, bGe, bI, bI0, bEq, bNe, bIn, bNotIn, bInG, bIs, bIsNot, bIx, bSl, bNeg, bListed, bGet, baLen, baIsi, baAll, baAny, baAbs, baMax, baMin, baI1, baI2, baList, baTup, baInt, baStr, baRepr, bmIndex, iL, iT, iS, iR1, iE, iK, gN, gT, gNs, isLst, isTxt, InsA, flatA, bodyE, startG, frz_nil, frz_cons, frz_va, frz_no, frz_own, List.map_cons, List.map_nil, List.length_cons, List.length_nil, List.replicate, List.append_nil, List.cons_append, List.nil_append, List.set_cons_zero, List.set_cons_succ, List.set_nil, List.getElem?_cons_zero, List.getElem?_cons_succ, wipeG, Nat.reduceAdd, Nat.reduceSub, Nat.reduceLeDiff, line_lit, eqOk_int, eqOk_str, eqv_int, eqv_str, decide_eq_true_eq, true_and, and_true, Bool.true_or, if_true, reduceIte, Bool.not_true, Bool.not_false, Bool.false_eq_true, if_false, N_right]
  refine draw_ok (by decide) (by decide) fun r h0 h1 => ?_
  obtain ⟨j, rfl⟩ : ∃ j : Nat, r = j := ⟨r.toNat, by omega⟩
  dsimp only
  rw [cut_take (show j ≤ [PyData.str "x", .str "yy", .str "othersxx"].length by show j ≤ 3; omega)]
  have le : (PyData.str "a" :: .str "b" :: .str "s" :: List.take j [PyData.str "x", .str "yy", .str "othersxx"]) = (labs j).map PyData.str := by
    unfold labs
    rw [List.map_append, List.map_take]
    rfl
  rw [le]
  refine ⟨Nat.le_of_lt (small1000 (by rw [List.length_take]; omega)), _, rfl, ?_, fun es pe => ?_⟩
  · rw [List.length_map]
    have := (labs_nms j (by omega)).hi
    omega
  obtain ⟨ms, rfl, nm, hl⟩ := names_perm (labs_nms j (by omega)) pe
  refine ⟨_, rfl, sh_names nm (.inl rfl), (fun i e => by rw [fwL_names nm] at e; cases e), fun ns' e' nm' => ?_⟩
  obtain rfl : ms = ns' := strs_inj e'
  have mhi := nm.hi
  have mlo := nm.lo
  refine ⟨⟨by decide, by decide⟩, dforL_inv (I := fun l Γ => ∃ s3 s4 s5, Γ = [.va .pot, .va (.d (.list (ms.map PyData.str))), .va (.sh C ms), s3, s4, s5, .no, .no, .no, .no, .no]) (fun Γ h => ?_) (fun x xs Γ N h hN => ?_) _ _ ⟨_, _, _, rfl⟩⟩
  · obtain ⟨s3, s4, s5, rfl⟩ := h
    simp only [sRet, sRetN, sSeq, sNext, sIf, sDrop, sSet, sSetL, sPar, sOwn, sApp, sAppL, sFor, sAsg, sBreak, sCont, dRaise, dTry1, dTry2, try1E, try2E, xTake, endX, dXf, dC, dV, dBin, dUn, dB, dTru, dNot, dAnd, dOr, dAndV, dOrV, dNotV, dIf, dNil, dCons, datas, dDisp, dBlt, dCall, dCallK, dMeth, dMethK, dMethS, dBm, dChain, dSl, dNo, dPt, dOfF, fDisp, fList, fLc, dGet2, dYes, bAdd, bSub, bFdiv, bMod, bPow, bMul, bLt, bLe, bGt, bGe, bI, bI0, bEq, bNe, bIn, bNotIn, bInG, bIs, bIsNot, bIx, bSl, bNeg, bListed, bGet, baLen, baIsi, baAll, baAny, baAbs, baMax, baMin, baI1, baI2, baList, baTup, baInt, baStr, baRepr, bmIndex, iL, iT, iS, iR1, iE, iK, gN, gT, gNs, isLst, isTxt, InsA, flatA, bodyE, startG, frz_nil, frz_cons, frz_va, frz_no, frz_own, List.map_cons, List.map_nil, List.length_cons, List.length_nil, List.replicate, List.append_nil, List.cons_append, List.nil_append, List.set_cons_zero, List.set_cons_succ, List.set_nil, List.getElem?_cons_zero, List.getElem?_cons_succ, wipeG, Nat.reduceAdd, Nat.reduceSub, Nat.reduceLeDiff, line_lit, eqOk_int, eqOk_str, eqv_int, eqv_str, decide_eq_true_eq, true_and, and_true, Bool.true_or, if_true, reduceIte, Bool.not_true, Bool.not_false, Bool.false_eq_true, if_false]
    refine ⟨ms.length, by rw [List.length_map], nm.lo, nm.hi, fun ds dl dt => ?_⟩
    simp only [sRet, sRetN, sSeq, sNext, sIf, sDrop, sSet, sSetL, sPar, sOwn, sApp, sAppL, sFor, sAsg, sBreak, sCont, dRaise, dTry1, dTry2, try1E, try2E, xTake, endX, dXf, dC, dV, dBin, dUn, dB, dTru, dNot, dAnd, dOr, dAndV, dOrV, dNotV, dIf, dNil, dCons, datas, dDisp, dBlt, dCall, dCallK, dMeth, dMethK, dMethS, dBm, dChain, dSl, dNo, dPt, dOfF, fDisp, fList, fLc, dGet2, dYes, bAdd, bSub, bFdiv, bMod, bPow, bMul, bLt, bLe, bGt, bGe, bI, bI0, bEq, bNe, bIn, bNotIn, bInG, bIs, bIsNot, bIx, bSl, bNeg, bListed, bGet, baLen, baIsi, baAll, baAny, baAbs, baMax, baMin, baI1, baI2, baList, baTup, baInt, baStr, baRepr, bmIndex, iL, iT, iS, iR1, iE, iK, gN, gT, gNs, isLst, isTxt, InsA, flatA, bodyE, startG, frz_nil, frz_cons, frz_va, frz_no, frz_own, List.map_cons, List.map_nil, List.length_cons, List.length_nil, List.replicate, List.append_nil, List.cons_append, List.nil_append, List.set_cons_zero, List.set_cons_succ, List.set_nil, List.getElem?_cons_zero, List.getElem?_cons_succ, wipeG, Nat.reduceAdd, Nat.reduceSub, Nat.reduceLeDiff, line_lit, eqOk_int, eqOk_str, eqv_int, eqv_str, decide_eq_true_eq, true_and, and_true, Bool.true_or, if_true, reduceIte, Bool.not_true, Bool.not_false, Bool.false_eq_true, if_false]
    refine dforL_inv (I := fun l Γ => (∀ x ∈ l, ∃ d, x = .d d ∧ Thi d) ∧ ∃ s3 s4 s5 s6 s7 s8 s9, Γ = [.va .pot, .va (.d (.list (ms.map PyData.str))), .va (.sh C ms), s3, s4, s5, s6, s7, s8, s9, .no]) (fun Γ h => ?_) (fun x xs Γ N h hN => ?_) _ _ ⟨fun x hx => ?_, _, _, _, _, _, _, _, rfl⟩
    · obtain ⟨_, s3, s4, s5, s6, s7, s8, s9, rfl⟩ := h
      simp only [sRet, sRetN, sSeq, sNext, sIf, sDrop, sSet, sSetL, sPar, sOwn, sApp, sAppL, sFor, sAsg, sBreak, sCont, dRaise, dTry1, dTry2, try1E, try2E, xTake, endX, dXf, dC, dV, dBin, dUn, dB, dTru, dNot, dAnd, dOr, dAndV, dOrV, dNotV, dIf, dNil, dCons, datas, dDisp, dBlt, dCall, dCallK, dMeth, dMethK, dMethS, dBm, dChain, dSl, dNo, dPt, dOfF, fDisp, fList, fLc, dGet2, dYes, bAdd, bSub, bFdiv, bMod, bPow, bMul, bLt, bLe, bGt, bGe, bI, bI0, bEq, bNe, bIn, bNotIn, bInG, bIs, bIsNot, bIx, bSl, bNeg, bListed, bGet, baLen, baIsi, baAll, baAny, baAbs, baMax, baMin, baI1, baI2, baList, baTup, baInt, baStr, baRepr, bmIndex, iL, iT, iS, iR1, iE, iK, gN, gT, gNs, isLst, isTxt, InsA, flatA, bodyE, startG, frz_nil, frz_cons, frz_va, frz_no, frz_own, List.map_cons, List.map_nil, List.length_cons, List.length_nil, List.replicate, List.append_nil, List.cons_append, List.nil_append, List.set_cons_zero, List.set_cons_succ, List.set_nil, List.getElem?_cons_zero, List.getElem?_cons_succ, wipeG, Nat.reduceAdd, Nat.reduceSub, Nat.reduceLeDiff, line_lit, eqOk_int, eqOk_str, eqv_int, eqv_str, decide_eq_true_eq, true_and, and_true, Bool.true_or, if_true, reduceIte, Bool.not_true, Bool.not_false, Bool.false_eq_true, if_false]
      have sm := (small_names nm).line (by decide)
      refine ⟨by decide +kernel, ms, rfl, ?_⟩
      simp only [sRet, sRetN, sSeq, sNext, sIf, sDrop, sSet, sSetL, sPar, sOwn, sApp, sAppL, sFor, sAsg, sBreak, sCont, dRaise, dTry1, dTry2, try1E, try2E, xTake, endX, dXf, dC, dV, dBin, dUn, dB, dTru, dNot, dAnd, dOr, dAndV, dOrV, dNotV, dIf, dNil, dCons, datas, dDisp, dBlt, dCall, dCallK, dMeth, dMethK, dMethS, dBm, dChain, dSl, dNo, dPt, dOfF, fDisp, fList, fLc, dGet2, dYes, bAdd, bSub, bFdiv, bMod, bPow, bMul, bLt, bLe, bGt, bGe, bI, bI0, bEq, bNe, bIn, bNotIn, bInG, bIs, bIsNot, bIx, bSl, bNeg, bListed, bGet, baLen, baIsi, baAll, baAny, baAbs, baMax, baMin, baI1, baI2, baList, baTup, baInt, baStr, baRepr, bmIndex, iL, iT, iS, iR1, iE, iK, gN, gT, gNs, isLst, isTxt, InsA, flatA, bodyE, startG, frz_nil, frz_cons, frz_va, frz_no, frz_own, List.map_cons, List.map_nil, List.length_cons, List.length_nil, List.replicate, List.append_nil, List.cons_append, List.nil_append, List.set_cons_zero, List.set_cons_succ, List.set_nil, List.getElem?_cons_zero, List.getElem?_cons_succ, wipeG, Nat.reduceAdd, Nat.reduceSub, Nat.reduceLeDiff, line_lit, eqOk_int, eqOk_str, eqv_int, eqv_str, decide_eq_true_eq, true_and, and_true, Bool.true_or, if_true, reduceIte, Bool.not_true, Bool.not_false, Bool.false_eq_true, if_false]
      exact ⟨sm, sm, q⟩
    · obtain ⟨all, s3, s4, s5, s6, s7, s8, s9, rfl⟩ := h
      obtain ⟨d, rfl, td⟩ := all x List.mem_cons_self
      have sm := td.sm.line (by decide)
      have sb : ∀ b c : Bool, (PyData.list [.bool b, .bool c]).showable = true ∧ (PyData.list [.bool b, .bool c]).shown.length ≤ sizeLine ∧ (PyData.list [.bool b, .bool c]).depth ≤ 60 := by
        intro b c
        cases b <;> cases c <;> decide +kernel
      have ne : ("is_equation" : Str) ≠ "listed" := by decide +kernel
      simp only [sRet, sRetN, sSeq, sNext, sIf, sDrop, sSet, sSetL, sPar, sOwn, sApp, sAppL, sFor, sAsg, sBreak, sCont, dRaise, dTry1, dTry2, try1E, try2E, xTake, endX, dXf, dC, dV, dBin, dUn, dB, dTru, dNot, dAnd, dOr, dAndV, dOrV, dNotV, dIf, dNil, dCons, datas, dDisp, dBlt, dCall, dCallK, dMeth, dMethK, dMethS, dBm, dChain, dSl, dNo, dPt, dOfF, fDisp, fList, fLc, dGet2, dYes, bAdd, bSub, bFdiv, bMod, bPow, bMul, bLt, bLe, bGt, bGe, bI, bI0, bEq, bNe, bIn, bNotIn, bInG, bIs, bIsNot, bIx, bSl, bNeg, bListed, bGet, baLen, baIsi, baAll, baAny, baAbs, baMax, baMin, baI1, baI2, baList, baTup, baInt, baStr, baRepr, bmIndex, iL, iT, iS, iR1, iE, iK, gN, gT, gNs, isLst, isTxt, InsA, flatA, bodyE, startG, frz_nil, frz_cons, frz_va, frz_no, frz_own, List.map_cons, List.map_nil, List.length_cons, List.length_nil, List.replicate, List.append_nil, List.cons_append, List.nil_append, List.set_cons_zero, List.set_cons_succ, List.set_nil, List.getElem?_cons_zero, List.getElem?_cons_succ, wipeG, Nat.reduceAdd, Nat.reduceSub, Nat.reduceLeDiff, line_lit, eqOk_int, eqOk_str, eqv_int, eqv_str, decide_eq_true_eq, true_and, and_true, Bool.true_or, if_true, reduceIte, Bool.not_true, Bool.not_false, Bool.false_eq_true, if_false]
      refine ⟨sm, d, ms.length, by rw [List.length_map], td.ln, ne, ms, d, rfl, td.ln, ne, ms, d, rfl, td.ln, ?_⟩
      simp only [sRet, sRetN, sSeq, sNext, sIf, sDrop, sSet, sSetL, sPar, sOwn, sApp, sAppL, sFor, sAsg, sBreak, sCont, dRaise, dTry1, dTry2, try1E, try2E, xTake, endX, dXf, dC, dV, dBin, dUn, dB, dTru, dNot, dAnd, dOr, dAndV, dOrV, dNotV, dIf, dNil, dCons, datas, dDisp, dBlt, dCall, dCallK, dMeth, dMethK, dMethS, dBm, dChain, dSl, dNo, dPt, dOfF, fDisp, fList, fLc, dGet2, dYes, bAdd, bSub, bFdiv, bMod, bPow, bMul, bLt, bLe, bGt, bGe, bI, bI0, bEq, bNe, bIn, bNotIn, bInG, bIs, bIsNot, bIx, bSl, bNeg, bListed, bGet, baLen, baIsi, baAll, baAny, baAbs, baMax, baMin, baI1, baI2, baList, baTup, baInt, baStr, baRepr, bmIndex, iL, iT, iS, iR1, iE, iK, gN, gT, gNs, isLst, isTxt, InsA, flatA, bodyE, startG, frz_nil, frz_cons, frz_va, frz_no, frz_own, List.map_cons, List.map_nil, List.length_cons, List.length_nil, List.replicate, List.append_nil, List.cons_append, List.nil_append, List.set_cons_zero, List.set_cons_succ, List.set_nil, List.getElem?_cons_zero, List.getElem?_cons_succ, wipeG, Nat.reduceAdd, Nat.reduceSub, Nat.reduceLeDiff, line_lit, eqOk_int, eqOk_str, eqv_int, eqv_str, decide_eq_true_eq, true_and, and_true, Bool.true_or, if_true, reduceIte, Bool.not_true, Bool.not_false, Bool.false_eq_true, if_false]
      refine ⟨sb _ _, sb _ _, ?_⟩
      rw [if_neg (by simp)]
      refine ⟨sm, ?_⟩
      rw [if_neg (by decide)]
      exact hN _ ⟨fun x hx => all x (List.mem_cons_of_mem _ hx), _, _, _, _, _, _, _, rfl⟩
    · obtain ⟨d, hd, rfl⟩ := List.mem_map.mp hx
      exact ⟨d, rfl, dt d hd⟩
  · obtain ⟨s3, s4, s5, rfl⟩ := h
    simp only [sRet, sRetN, sSeq, sNext, sIf, sDrop, sSet, sSetL, sPar, sOwn, sApp, sAppL, sFor, sAsg, sBreak, sCont, dRaise, dTry1, dTry2, try1E, try2E, xTake, endX, dXf, dC, dV, dBin, dUn, dB, dTru, dNot, dAnd, dOr, dAndV, dOrV, dNotV, dIf, dNil, dCons, datas, dDisp, dBlt, dCall, dCallK, dMeth, dMethK, dMethS, dBm, dChain, dSl, dNo, dPt, dOfF, fDisp, fList, fLc, dGet2, dYes, bAdd, bSub, bFdiv, bMod, bPow, bMul, bLt, bLe, bGt, bGe, bI, bI0, bEq, bNe, bIn, bNotIn, bInG, bIs, bIsNot, bIx, bSl, bNeg, bListed, bGet, baLen, baIsi, baAll, baAny, baAbs, baMax, baMin, baI1, baI2, baList, baTup, baInt, baStr, baRepr, bmIndex, iL, iT, iS, iR1, iE, iK, gN, gT, gNs, isLst, isTxt, InsA, flatA, bodyE, startG, frz_nil, frz_cons, frz_va, frz_no, frz_own, List.map_cons, List.map_nil, List.length_cons, List.length_nil, List.replicate, List.append_nil, List.cons_append, List.nil_append, List.set_cons_zero, List.set_cons_succ, List.set_nil, List.getElem?_cons_zero, List.getElem?_cons_succ, wipeG, Nat.reduceAdd, Nat.reduceSub, Nat.reduceLeDiff, line_lit, eqOk_int, eqOk_str, eqv_int, eqv_str, decide_eq_true_eq, true_and, and_true, Bool.true_or, if_true, reduceIte, Bool.not_true, Bool.not_false, Bool.false_eq_true, if_false]
    refine draw_ok (by decide) (by decide) fun r r0 r1 => ⟨⟨by decide, by decide⟩, by rw [ints_len]; decide, dcomp_any (R := fun _ y => isFoo y) (fun x hx k1 k2 q1 => ⟨rfl, q1⟩) (fun some pr => ?_)⟩
    obtain ⟨way, rfl⟩ : ∃ way : Nat, r = way := ⟨r.toNat, by omega⟩
    have sl : some.length = 3 := by
      have := Paired.length pr
      rw [ints_len] at this
      exact this.symm
    have sf : ∀ y ∈ some, Thg y := paired_all (R := fun _ y => isFoo y) (fun _ y h => thg_foo h) pr
    match some, sl with
    | [a, b, c], _ =>
      have sm : Small 60000 (resD ms ((given way).zip [a, b, c])) := res_small (fun q hq => sf _ (List.of_mem_zip hq).2) (fun q hq => given_small way _ (List.of_mem_zip hq).1) nm.hi
      refine ⟨ms, way, a, b, c, rfl, nm.hi, by omega, sf a (by simp), sf b (by simp), sf c (by simp), ?_⟩
      simp only [sRet, sRetN, sSeq, sNext, sIf, sDrop, sSet, sSetL, sPar, sOwn, sApp, sAppL, sFor, sAsg, sBreak, sCont, dRaise, dTry1, dTry2, try1E, try2E, xTake, endX, dXf, dC, dV, dBin, dUn, dB, dTru, dNot, dAnd, dOr, dAndV, dOrV, dNotV, dIf, dNil, dCons, datas, dDisp, dBlt, dCall, dCallK, dMeth, dMethK, dMethS, dBm, dChain, dSl, dNo, dPt, dOfF, fDisp, fList, fLc, dGet2, dYes, bAdd, bSub, bFdiv, bMod, bPow, bMul, bLt, bLe, bGt, bGe, bI, bI0, bEq, bNe, bIn, bNotIn, bInG, bIs, bIsNot, bIx, bSl, bNeg, bListed, bGet, baLen, baIsi, baAll, baAny, baAbs, baMax, baMin, baI1, baI2, baList, baTup, baInt, baStr, baRepr, bmIndex, iL, iT, iS, iR1, iE, iK, gN, gT, gNs, isLst, isTxt, InsA, flatA, bodyE, startG, frz_nil, frz_cons, frz_va, frz_no, frz_own, List.map_cons, List.map_nil, List.length_cons, List.length_nil, List.replicate, List.append_nil, List.cons_append, List.nil_append, List.set_cons_zero, List.set_cons_succ, List.set_nil, List.getElem?_cons_zero, List.getElem?_cons_succ, wipeG, Nat.reduceAdd, Nat.reduceSub, Nat.reduceLeDiff, line_lit, eqOk_int, eqOk_str, eqv_int, eqv_str, decide_eq_true_eq, true_and, and_true, Bool.true_or, if_true, reduceIte, Bool.not_true, Bool.not_false, Bool.false_eq_true, if_false]
      refine ⟨sm.line (by decide), ms, way, a, b, c, rfl, nm.hi, by omega, ?_⟩
      simp only [sRet, sRetN, sSeq, sNext, sIf, sDrop, sSet, sSetL, sPar, sOwn, sApp, sAppL, sFor, sAsg, sBreak, sCont, dRaise, dTry1, dTry2, try1E, try2E, xTake, endX, dXf, dC, dV, dBin, dUn, dB, dTru, dNot, dAnd, dOr, dAndV, dOrV, dNotV, dIf, dNil, dCons, datas, dDisp, dBlt, dCall, dCallK, dMeth, dMethK, dMethS, dBm, dChain, dSl, dNo, dPt, dOfF, fDisp, fList, fLc, dGet2, dYes, bAdd, bSub, bFdiv, bMod, bPow, bMul, bLt, bLe, bGt, bGe, bI, bI0, bEq, bNe, bIn, bNotIn, bInG, bIs, bIsNot, bIx, bSl, bNeg, bListed, bGet, baLen, baIsi, baAll, baAny, baAbs, baMax, baMin, baI1, baI2, baList, baTup, baInt, baStr, baRepr, bmIndex, iL, iT, iS, iR1, iE, iK, gN, gT, gNs, isLst, isTxt, InsA, flatA, bodyE, startG, frz_nil, frz_cons, frz_va, frz_no, frz_own, List.map_cons, List.map_nil, List.length_cons, List.length_nil, List.replicate, List.append_nil, List.cons_append, List.nil_append, List.set_cons_zero, List.set_cons_succ, List.set_nil, List.getElem?_cons_zero, List.getElem?_cons_succ, wipeG, Nat.reduceAdd, Nat.reduceSub, Nat.reduceLeDiff, line_lit, eqOk_int, eqOk_str, eqv_int, eqv_str, decide_eq_true_eq, true_and, and_true, Bool.true_or, if_true, reduceIte, Bool.not_true, Bool.not_false, Bool.false_eq_true, if_false]
      refine ⟨sm.line (by decide), ?_⟩
      rw [if_neg (by simp)]
      exact hN _ ⟨_, _, _, rfl⟩
end
end K16




set_option Elab.async false
set_option linter.all false
set_option maxRecDepth 100000
set_option maxHeartbeats 4000000
namespace K16
open PySem PySem.Spec PyProof.Rows L2 Lw

section
variable {P : Program} {w : World} {K : PySem.W.Frag} {mg : Str → Option Value} {base : Heap} {f : Addr} {fd : FuncData}
def sp_law (K : PySem.W.Frag) : Sp := fun vs H Q _ => ∃ (s : Addr) (ns : List Int), vs = [.ref s] ∧ SqL K H s (ns.map V.int) ∧ ns.length ≤ 63 ∧ ∀ H', Q (.bl true) H'
theorem ok_law {fP fR : Addr} {fdP fdR : FuncData} (F : FnP K "law" s_law f fd) (T : Tz mg) (B : SysOk base)
    (O_pot : Own P w K mg base CX0 1 "_law_pot" ["_law_script", "_law_k"] (sp_pot K) fP fdP)
    (O_right : OwnG P w K mg base CX0 15 "_law_right" ["_law_pot_here"] Dl.sp_rightP fR fdR) : FnG P w K mg base CX0 16 f fd ["_law_script"] (sp_law K) := by
  refine fn_g F sc_law (fun vs H Q E h => ?_) (fun cdv A outer s H vs Q E hg hr h => ?_)
  · obtain ⟨a, ns, rfl, _⟩ := h
    rfl
  · obtain ⟨sc, ns, rfl, hS, hl, q⟩ := h
    refine ⟨_, PSs.nox (pss_one (ps_ret (pe_callB (cr_all rfl) (by rfl) T.z_all (by decide +kernel) (pa_cons (pe_lc (own := [("_law_k", 1)]) (g := gName 1) (tt := tYes) rfl sc_law.nd (pi_range1 (by rfl) T.z_range (pa_cons (pe_callB (call_max2 rfl) (by rfl) T.z_max (by decide +kernel) (pa_cons pe_int (pa_cons (pe_callB (call_min2 rfl) (by rfl) T.z_min (by decide +kernel) (pa_cons pe_int (pa_cons (pe_callB call_len_seq (by rfl) T.z_len (by decide +kernel) (pa_cons (pv 0) pa_nil)) pa_nil))) pa_nil))) pa_nil)) (blkOk_by (own := [("_law_k", 1)]) (N := N_law) (sc := defScope s_law) (by decide +kernel)) (fun _ _ _ _ _ => pg_name (i := 1) sc_law.nd rfl (Or.inl rfl)) (fun _ _ _ _ _ => pts_nil) (fun _ _ _ _ _ => (pe_owng O_right hg (hr.mono (by first | decide | omega)) (pa_cons (pe_own O_pot (hr.mono (by first | decide | omega)) (pa_cons (pv 0) (pa_cons (pv 1) pa_nil))) pa_nil)))) pa_nil)))), ?_⟩
    refine ⟨.ref sc, rfl, sc, _, rfl, .inl hS, _, _, rfl, _, _, rfl, _, rfl, ?_, ?_, fun D nD => ?_⟩
    · split <;> split <;> omega
    · rw [List.length_map]
      split <;> split <;> omega
    refine lc_range (lo := 0) (n := _) (fun j H3 => SqL K (off H3 D) sc (ns.map V.int) ∧ H3 D = some (.lst ((List.replicate j true).map V.bl))) ⟨off_new hS nD, upd_same⟩ ?_ ?_
    · rintro j H3 hj ⟨hS3, e3⟩
      have hj1 : j < 1000 := by
        refine Nat.lt_of_lt_of_le hj ?_
        rw [List.length_map]
        split <;> split <;> omega
      refine ⟨rfl, .ref sc, rfl, .int j, by show some (some (V.int (0 + j))) = _; rw [Int.zero_add], sc, ns, j, rfl, off_same.seq hS3, hj1, fun a u v na v0 v1 => ?_⟩
      have pa : PotAt (upd H3 a (.lst [.int u, .int v])) a := ⟨u, v, upd_same, v0, v1⟩
      have s1 : Same H3 (off (upd H3 a (.lst [.int u, .int v])) a) := off_new1 na
      have nDa : D ≠ a := fun z => by
        rw [← z, e3] at na
        cases na
      have e4 : (upd H3 a (.lst [.int u, .int v])) D = _ := (upd_ne nDa).trans e3
      revert pa s1 e4
      generalize upd H3 a (.lst [.int u, .int v]) = H4
      intro pa s1 e4
      refine ⟨a, rfl, pa, fun H5 p5 o5 => ?_⟩
      have e5 := o5.get e4 nDa
      refine ⟨_, e5, ?_, ?_, ?_⟩
      · rw [List.length_map, List.length_replicate]
        exact small1000 (by omega)
      · rw [off_put]
        exact (off_mono off_same).seq ((off_mono o5).seq ((off_mono s1).seq hS3))
      · rw [upd_same, List.replicate_succ', List.map_append]
        rfl
    · rintro H3 ⟨_, e3⟩
      refine ⟨D, _, rfl, .inl (.inl e3), ?_⟩
      rw [show ((List.replicate _ true).all id) = true from List.all_eq_true.mpr fun b hb => List.eq_of_mem_replicate hb]
      exact q H3
end
end K16


set_option Elab.async false
set_option linter.all false
set_option maxRecDepth 100000
set_option maxHeartbeats 0
namespace K16
open PySem PySem.Spec PyProof.Rows L2 Lw
def dd (x : Str) (st : Stmt) : He.DefD := ⟨(x, none), x, x, defArgs st, defBody st, defScope st, [], []⟩
def dm (m q : Str) (st : Stmt) : He.DefD := ⟨("Sheet", some m), m, q, defArgs st, defBody st, defScope st, [], []⟩
def rs : List RecD := []
def fn : List He.DefD := ([dd "kept" s_kept, dd "is_name" s_is_name, dd "is_integer" s_is_integer, dd "first_wrong_name" s_first_wrong_name, dd "check_field" s_check_field, dd "_law_pot" s_pot, dd "_law_draw" s_draw, dd "_law_mixed" s_mixed, dd "_law_factor" s_factor, dd "_law_odd" s_odd, dd "_law_called" s_called, dd "_law_told" s_told] : List He.DefD) ++
  ([dd "_law_due" s_due, dd "_law_is_line" s_is_line, dd "_law_factor_or_odd" s_factor_or_odd, dd "_law_things" s_things, dd "_law_right" s_right, dd "law" s_law, dm "__init__" "Sheet.__init__" s_Sheet_init, dm "fields" "Sheet.fields" s_Sheet_fields, dm "has_field" "Sheet.has_field" s_Sheet_has_field, dm "is_equation" "Sheet.is_equation" s_Sheet_is_equation, dm "equation" "Sheet.equation" s_Sheet_equation] : List He.DefD)
def fa : List He.Fa := ([He.Fa.glo "kept", He.Fa.glo "is_name", He.Fa.glo "is_integer", He.Fa.glo "first_wrong_name", He.Fa.glo "check_field", He.Fa.glo "_law_pot", He.Fa.glo "_law_draw", He.Fa.glo "_law_mixed", He.Fa.glo "_law_factor", He.Fa.glo "_law_odd", He.Fa.glo "_law_called", He.Fa.glo "_law_told"] : List He.Fa) ++
  ([He.Fa.glo "_law_due", He.Fa.glo "_law_is_line", He.Fa.glo "_law_factor_or_odd", He.Fa.glo "_law_things", He.Fa.glo "_law_right", He.Fa.glo "law", He.Fa.free "isinstance", He.Fa.free "list", He.Fa.free "tuple", He.Fa.free "dict", He.Fa.free "int", He.Fa.free "bool"] : List He.Fa) ++
  ([He.Fa.free "str", He.Fa.free "len", He.Fa.free "all", He.Fa.free "repr", He.Fa.free "range", He.Fa.free "enumerate", He.Fa.free "max", He.Fa.free "min", He.Fa.free "abs", He.Fa.free "divmod", He.Fa.free "ValueError", He.Fa.free "LookupError"] : List He.Fa) ++
  ([He.Fa.free "super", He.Fa.str "LETTERS" "abcdefghijklmnopqrstuvwxyz", He.Fa.int "LONGEST_NAME" 8, He.Fa.glo "UnknownField", He.Fa.glo "InvalidNumber", He.Fa.glo "Sheet", He.Fa.cls "Sheet", He.Fa.mkr "Sheet", He.Fa.noat "Sheet" "listed", He.Fa.meth "Sheet" "__init__", He.Fa.meth "Sheet" "fields", He.Fa.meth "Sheet" "has_field"] : List He.Fa) ++
  ([He.Fa.meth "Sheet" "is_equation", He.Fa.meth "Sheet" "equation"] : List He.Fa)
def iF : IniD := ⟨"InvalidFields", W_iniInvalidFields, "ValueError", "ValueError.__new__", "ValueError.__init__"⟩
def iU : IniD := ⟨"UnknownField", W_iniUnknownField, "LookupError", "LookupError.__new__", "LookupError.__init__"⟩
def iN : IniD := ⟨"InvalidNumber", W_iniInvalidNumber, "ValueError", "ValueError.__new__", "ValueError.__init__"⟩
def ex (K : PySem.W.Frag) : Bool :=
  decide (PySem.W.exmOne K (.ref (He.ga K "UnknownField")) (.ref (He.ga K "UnknownField")) = some true) && (decide (PySem.W.exmOne K (.ref (He.ga K "InvalidNumber")) (.ref (He.ga K "UnknownField")) = some false) && (decide (PySem.W.exmOne K (.ref (He.ga K "InvalidNumber")) (.ref (He.ga K "InvalidNumber")) = some true) && (xfB K (He.ga K "UnknownField") && (xfB K (He.ga K "InvalidNumber") && (He.eqO (PySem.W.findIn K (.ref (He.ga K "InvalidFields")) "index") (some none) && (He.eqO (PySem.W.findIn K (.ref (He.ga K "UnknownField")) "value") (some none) && (He.eqO (PySem.W.findIn K (.ref (He.ga K "InvalidNumber")) "value") (some none) && (creadB K (He.ga K "Sheet") && (conB K (He.ga K "Sheet") "MAX_FIELDS" 12)))))))))
abbrev R : PySem.W.OpenRow := PySem.W.OpenLaw.row PySem.Challenge.rw_lastheld_k16_equations_by_name
abbrev hk : PySem.W.Hook := hookX 6 (R.prog.main.file : Str) fa fn [iF, iU, iN] rs ex
def ob (s : PySem.W.SharedT) : AlX := obsXG 6 (R.prog.main.file : Str) fa fn [iF, iU, iN] rs ex (HandSHeadRun.getT s)
theorem ob_eq (s : PySem.W.SharedT) : ob s = hk.obs s.abs := obsXG_eq (HandSHeadRun.getT_eq s)
abbrev names : List Str := (["_wall", "kept", "LastheldError", "InvalidNumber", "InvalidFields", "InvalidText", "MissingError", "UnknownField", "LETTERS", "LONGEST_NAME", "is_name", "is_integer"] : List Str) ++
  (["first_wrong_name", "check_field", "Sheet", "_law_pot", "_law_draw", "_law_mixed", "_law_factor", "_law_odd", "_law_called", "_law_told", "_law_due", "_law_is_line"] : List Str) ++
  (["_law_factor_or_odd", "_law_things", "_law_right"] : List Str)
theorem run (w : World) : HandSHeadRun.RunEq R (PySem.W.view R.prog [32]) hk ob 20000 names w := by
  intro os
  kernel_rfl
end K16

set_option Elab.async false
set_option linter.all false
set_option maxRecDepth 100000
set_option maxHeartbeats 0
namespace K16
open PySem PySem.Spec PyProof.Rows L2 Lw
theorem F_iF : IniF R.prog iF := ⟨by kernel_rfl, by kernel_rfl, by kernel_rfl, by kernel_rfl, by kernel_rfl, by kernel_rfl⟩
theorem F_iU : IniF R.prog iU := ⟨by kernel_rfl, by kernel_rfl, by kernel_rfl, by kernel_rfl, by kernel_rfl, by kernel_rfl⟩
theorem F_iN : IniF R.prog iN := ⟨by kernel_rfl, by kernel_rfl, by kernel_rfl, by kernel_rfl, by kernel_rfl, by kernel_rfl⟩
theorem facts {w : World} {K : PySem.W.Frag} {h : Heap} {mg : Str → Option Value} {f : Addr} (X : K.In h) (G : h.Ns mainGlobals mg) (hfa : mg ("law" : Str) = some (.ref f)) (cw0 : SaysX (R.prog.main.file : Str) fa fn [iF, iU, iN] rs ex K) :
    ∃ fd : FuncData, (∀ (s : Shared) (v : Value), BindsTo s fd ⟨[v], []⟩ [("_law_script", v)]) ∧ ∀ base : Heap, K.In base → base.Ns mainGlobals mg → SysOk base → FnG R.prog w K mg base CX0 16 f fd ["_law_script"] (sp_law K) := by
  have cw := cw0.w
  have c := cw.d
  obtain ⟨fd_kept, F_kept⟩ := c.def_ 0 (d := dd "kept" s_kept) rfl
  have m_kept := He.glo_ok X G (c.fact 0 (f := .glo "kept") rfl)
  obtain ⟨fd_is_name, F_is_name⟩ := c.def_ 1 (d := dd "is_name" s_is_name) rfl
  have m_is_name := He.glo_ok X G (c.fact 1 (f := .glo "is_name") rfl)
  obtain ⟨fd_is_integer, F_is_integer⟩ := c.def_ 2 (d := dd "is_integer" s_is_integer) rfl
  have m_is_integer := He.glo_ok X G (c.fact 2 (f := .glo "is_integer") rfl)
  obtain ⟨fd_first_wrong_name, F_first_wrong_name⟩ := c.def_ 3 (d := dd "first_wrong_name" s_first_wrong_name) rfl
  have m_first_wrong_name := He.glo_ok X G (c.fact 3 (f := .glo "first_wrong_name") rfl)
  obtain ⟨fd_check_field, F_check_field⟩ := c.def_ 4 (d := dd "check_field" s_check_field) rfl
  have m_check_field := He.glo_ok X G (c.fact 4 (f := .glo "check_field") rfl)
  obtain ⟨fd_pot, F_pot⟩ := c.def_ 5 (d := dd "_law_pot" s_pot) rfl
  have m_pot := He.glo_ok X G (c.fact 5 (f := .glo "_law_pot") rfl)
  obtain ⟨fd_draw, F_draw⟩ := c.def_ 6 (d := dd "_law_draw" s_draw) rfl
  have m_draw := He.glo_ok X G (c.fact 6 (f := .glo "_law_draw") rfl)
  obtain ⟨fd_mixed, F_mixed⟩ := c.def_ 7 (d := dd "_law_mixed" s_mixed) rfl
  have m_mixed := He.glo_ok X G (c.fact 7 (f := .glo "_law_mixed") rfl)
  obtain ⟨fd_factor, F_factor⟩ := c.def_ 8 (d := dd "_law_factor" s_factor) rfl
  have m_factor := He.glo_ok X G (c.fact 8 (f := .glo "_law_factor") rfl)
  obtain ⟨fd_odd, F_odd⟩ := c.def_ 9 (d := dd "_law_odd" s_odd) rfl
  have m_odd := He.glo_ok X G (c.fact 9 (f := .glo "_law_odd") rfl)
  obtain ⟨fd_called, F_called⟩ := c.def_ 10 (d := dd "_law_called" s_called) rfl
  have m_called := He.glo_ok X G (c.fact 10 (f := .glo "_law_called") rfl)
  obtain ⟨fd_told, F_told⟩ := c.def_ 11 (d := dd "_law_told" s_told) rfl
  have m_told := He.glo_ok X G (c.fact 11 (f := .glo "_law_told") rfl)
  obtain ⟨fd_due, F_due⟩ := c.def_ 12 (d := dd "_law_due" s_due) rfl
  have m_due := He.glo_ok X G (c.fact 12 (f := .glo "_law_due") rfl)
  obtain ⟨fd_is_line, F_is_line⟩ := c.def_ 13 (d := dd "_law_is_line" s_is_line) rfl
  have m_is_line := He.glo_ok X G (c.fact 13 (f := .glo "_law_is_line") rfl)
  obtain ⟨fd_factor_or_odd, F_factor_or_odd⟩ := c.def_ 14 (d := dd "_law_factor_or_odd" s_factor_or_odd) rfl
  have m_factor_or_odd := He.glo_ok X G (c.fact 14 (f := .glo "_law_factor_or_odd") rfl)
  obtain ⟨fd_things, F_things⟩ := c.def_ 15 (d := dd "_law_things" s_things) rfl
  have m_things := He.glo_ok X G (c.fact 15 (f := .glo "_law_things") rfl)
  obtain ⟨fd_right, F_right⟩ := c.def_ 16 (d := dd "_law_right" s_right) rfl
  have m_right := He.glo_ok X G (c.fact 16 (f := .glo "_law_right") rfl)
  obtain ⟨fd_law, F_law⟩ := c.def_ 17 (d := dd "law" s_law) rfl
  have m_law := He.glo_ok X G (c.fact 17 (f := .glo "law") rfl)
  obtain ⟨fd_Sheet_init, F_Sheet_init⟩ := c.def_ 18 (d := dm "__init__" "Sheet.__init__" s_Sheet_init) rfl
  have ME_Sheet_init := He.meth_ok (c.fact 45 (f := .meth "Sheet" "__init__") rfl)
  obtain ⟨fd_Sheet_fields, F_Sheet_fields⟩ := c.def_ 19 (d := dm "fields" "Sheet.fields" s_Sheet_fields) rfl
  have ME_Sheet_fields := He.meth_ok (c.fact 46 (f := .meth "Sheet" "fields") rfl)
  obtain ⟨fd_Sheet_has_field, F_Sheet_has_field⟩ := c.def_ 20 (d := dm "has_field" "Sheet.has_field" s_Sheet_has_field) rfl
  have ME_Sheet_has_field := He.meth_ok (c.fact 47 (f := .meth "Sheet" "has_field") rfl)
  obtain ⟨fd_Sheet_is_equation, F_Sheet_is_equation⟩ := c.def_ 21 (d := dm "is_equation" "Sheet.is_equation" s_Sheet_is_equation) rfl
  have ME_Sheet_is_equation := He.meth_ok (c.fact 48 (f := .meth "Sheet" "is_equation") rfl)
  obtain ⟨fd_Sheet_equation, F_Sheet_equation⟩ := c.def_ 22 (d := dm "equation" "Sheet.equation" s_Sheet_equation) rfl
  have ME_Sheet_equation := He.meth_ok (c.fact 49 (f := .meth "Sheet" "equation") rfl)
  have C_Sheet := He.glo_ok X G (c.fact 41 (f := .glo "Sheet") rfl)
  have CL := He.cls_ok (c.fact 42 (f := .cls "Sheet") rfl)
  have MKR := He.mkr_ok (c.fact 43 (f := .mkr "Sheet") rfl)
  have NO_listed := He.noat_ok (c.fact 44 (f := .noat "Sheet" "listed") rfl)
  have e := hfa.symm.trans m_law
  cases e
  have T : Tz mg := ⟨He.free_ok X G (c.fact 18 rfl), He.free_ok X G (c.fact 19 rfl), He.free_ok X G (c.fact 20 rfl), He.free_ok X G (c.fact 21 rfl), He.free_ok X G (c.fact 22 rfl), He.free_ok X G (c.fact 23 rfl), He.free_ok X G (c.fact 24 rfl), He.free_ok X G (c.fact 25 rfl), He.free_ok X G (c.fact 26 rfl), He.free_ok X G (c.fact 27 rfl), He.free_ok X G (c.fact 28 rfl), He.free_ok X G (c.fact 29 rfl), He.free_ok X G (c.fact 30 rfl), He.free_ok X G (c.fact 31 rfl), He.free_ok X G (c.fact 32 rfl), He.free_ok X G (c.fact 33 rfl), He.free_ok X G (c.fact 34 rfl), He.free_ok X G (c.fact 35 rfl), He.free_ok X G (c.fact 36 rfl), He.str_ok X G (c.fact 37 rfl), He.int_ok X G (c.fact 38 rfl)⟩
  have k_UnknownField := He.glo_ok X G (c.fact 39 (f := .glo "UnknownField") rfl)
  have k_InvalidNumber := He.glo_ok X G (c.fact 40 (f := .glo "InvalidNumber") rfl)
  obtain ⟨fd_iF, R_iF⟩ := ini_of (d := iF) X G T.z_super F_iF (cw.i iF (List.mem_cons_self ..)).2 (cw.i iF (List.mem_cons_self ..)).1
  obtain ⟨cc_iF, cda_iF, S_iF⟩ := R_iF.s
  obtain ⟨fd_iU, R_iU⟩ := ini_of (d := iU) X G T.z_super F_iU (cw.i iU (List.mem_cons_of_mem _ (List.mem_cons_self ..))).2 (cw.i iU (List.mem_cons_of_mem _ (List.mem_cons_self ..))).1
  obtain ⟨cc_iU, cda_iU, S_iU⟩ := R_iU.s
  obtain ⟨fd_iN, R_iN⟩ := ini_of (d := iN) X G T.z_super F_iN (cw.i iN (List.mem_cons_of_mem _ (List.mem_cons_of_mem _ (List.mem_cons_self ..)))).2 (cw.i iN (List.mem_cons_of_mem _ (List.mem_cons_of_mem _ (List.mem_cons_self ..)))).1
  obtain ⟨cc_iN, cda_iN, S_iN⟩ := R_iN.s
  have cx := cw.ex
  unfold ex at cx
  simp only [Bool.and_eq_true] at cx
  obtain ⟨x0, x1, x2, x3, x4, x5, x6, x7, x8, x9⟩ := cx
  have CR := creadB_ok x8
  have CN := conB_ok x9
  have TC : Tc K mg  :=
    ⟨k_UnknownField, k_InvalidNumber, of_decide_eq_true x0, of_decide_eq_true x1, of_decide_eq_true x2, xfB_ok x3, xfB_ok x4, He.eqO_ok x5, He.eqO_ok x6, He.eqO_ok x7⟩
  have b := FunD.bindsA (ps := ["_law_script"]) F_law fun _ _ _ _ _ _ us hl => match us, hl with | [_], _ => rfl
  refine ⟨fd_law, fun s v => b s [v] rfl, fun base _ _ B => ?_⟩
  have SC : ShC K (He.ga K "Sheet") := ⟨CL, NO_listed⟩
  have O0 : ∀ n, Own R.prog w K mg base CX0 (n + 1) "kept" ["value"] (sp_kept K n) _ fd_kept := fun n => ⟨ok_kept F_kept T m_kept n, m_kept, F_kept.kp, F_kept.bindsN fun _ _ _ _ _ _ us hl => match us, hl with | [_], _ => rfl⟩
  have O_is_name : Own R.prog w K mg base CX0 1 "is_name" ["value"] (sp_name K) _ fd_is_name := ⟨ok_is_name F_is_name T, m_is_name, F_is_name.kp, F_is_name.bindsN fun _ _ _ _ _ _ us hl => match us, hl with | [_], _ => rfl⟩
  have O_first_wrong_name : Own R.prog w K mg base CX0 2 "first_wrong_name" ["values", "most"] (sp_fwn K) _ fd_first_wrong_name := ⟨ok_first_wrong_name F_first_wrong_name T O_is_name, m_first_wrong_name, F_first_wrong_name.kp, F_first_wrong_name.bindsN fun _ _ _ _ _ _ us hl => match us, hl with | [_, _], _ => rfl⟩
  have EF : OwnE R.prog w K mg base 1 "InvalidFields" ["self", "index"] (sp_iniI "index" (He.ga K "InvalidFields")) (He.ga K "InvalidFields") (iniAt K iF) fd_iF (tlOf "ValueError") "ValueError.__new__" := ⟨R_iF.t, R_iF.i, R_iF.ti, ok_iniInvalidFields R_iF.t S_iF TC.no_InvalidFields_index R_iF.lk, R_iF.binds fun _ _ _ _ _ us hl => match us, hl with | [_, _], _ => rfl, R_iF.m⟩
  have EU : OwnE R.prog w K mg base 8 "UnknownField" ["self", "value"] (sp_iniV K (He.ga K "UnknownField") 5) (He.ga K "UnknownField") (iniAt K iU) fd_iU (tlOf "LookupError") "LookupError.__new__" := ⟨R_iU.t, R_iU.i, R_iU.ti, ok_iniUnknownField (n := 5) R_iU.t S_iU TC.no_UnknownField_value R_iU.lk (O0 6), R_iU.binds fun _ _ _ _ _ us hl => match us, hl with | [_, _], _ => rfl, R_iU.m⟩
  have EN : OwnE R.prog w K mg base 8 "InvalidNumber" ["self", "value"] (sp_iniV K (He.ga K "InvalidNumber") 5) (He.ga K "InvalidNumber") (iniAt K iN) fd_iN (tlOf "ValueError") "ValueError.__new__" := ⟨R_iN.t, R_iN.i, R_iN.ti, ok_iniInvalidNumber (n := 5) R_iN.t S_iN TC.no_InvalidNumber_value R_iN.lk (O0 6), R_iN.binds fun _ _ _ _ _ us hl => match us, hl with | [_, _], _ => rfl, R_iN.m⟩
  have XU := Dl.xz_V exb_L EU
  have XN := Dl.xz_V exb_V EN
  have MK : OwnK R.prog w K mg base (L2.CX R.prog w) 3 "Sheet" (He.ga K "Sheet") (Dl.sp_shInitN K (He.ga K "Sheet") (He.ga K "InvalidFields")) := ⟨raw_of (ok_Sheet_init F_Sheet_init T SC C_Sheet CR CN EF O_first_wrong_name) (F_Sheet_init.bindsN fun _ _ _ _ _ _ us hl => match us, hl with | [_, _], _ => rfl), MKR, C_Sheet⟩
  have MKZ := Dl.cz_sheet MK
  have Z_is_integer : Dl.OZ R.prog w K mg base false 1 "is_integer" ["value"] (Dl.aOne (fun _ => True) fun d => .bool (Lw.intD d)) _ fd_is_integer := ⟨z_is_integer F_is_integer T, m_is_integer, F_is_integer.kp, F_is_integer.bindsN fun _ _ _ _ _ _ us hl => match us, hl with | [_], _ => rfl⟩
  have M_has_field : Dl.MZ R.prog w K mg base false 1 (He.ga K "Sheet") "has_field" ["self", "value"] (aHas (He.ga K "Sheet")) fd_Sheet_has_field := ⟨z_has_field F_Sheet_has_field T SC, ME_Sheet_has_field, CL, F_Sheet_has_field.bindsN fun _ _ _ _ _ _ us hl => match us, hl with | [_, _], _ => rfl⟩
  have M_fields : Dl.MZ R.prog w K mg base false 1 (He.ga K "Sheet") "fields" ["self"] (aFields (He.ga K "Sheet")) fd_Sheet_fields := ⟨z_fields F_Sheet_fields T SC, ME_Sheet_fields, CL, F_Sheet_fields.bindsN fun _ _ _ _ _ _ us hl => match us, hl with | [_], _ => rfl⟩
  have M_is_equation : Dl.MZ R.prog w K mg base false 2 (He.ga K "Sheet") "is_equation" ["self", "value"] (aIsEq (He.ga K "Sheet")) fd_Sheet_is_equation := ⟨z_is_equation F_Sheet_is_equation T SC Z_is_integer, ME_Sheet_is_equation, CL, F_Sheet_is_equation.bindsN fun _ _ _ _ _ _ us hl => match us, hl with | [_, _], _ => rfl⟩
  have Z_check_field : Dl.OZ R.prog w K mg base false 10 "check_field" ["sheet", "value"] (aChk (He.ga K "Sheet") (He.ga K "UnknownField")) _ fd_check_field := ⟨z_check_field F_check_field T M_has_field XU, m_check_field, F_check_field.kp, F_check_field.bindsN fun _ _ _ _ _ _ us hl => match us, hl with | [_, _], _ => rfl⟩
  have M_equation : Dl.MS R.prog w K mg base 11 (He.ga K "Sheet") "equation" "self" "coefficients" (aEqn (He.ga K "Sheet") (He.ga K "UnknownField") (He.ga K "InvalidNumber")) fd_Sheet_equation := ⟨z_equation F_Sheet_equation T SC Z_check_field Z_is_integer XN, ME_Sheet_equation, CL⟩
  have O_pot : Own R.prog w K mg base CX0 1 "_law_pot" ["_law_script", "_law_k"] (sp_pot K) _ fd_pot := ⟨ok_pot F_pot T, m_pot, F_pot.kp, F_pot.bindsN fun _ _ _ _ _ _ us hl => match us, hl with | [_, _], _ => rfl⟩
  have O_draw : Own R.prog w K mg base CX0 1 "_law_draw" ["_law_pot_here", "_law_many"] sp_draw _ fd_draw := ⟨ok_draw F_draw T, m_draw, F_draw.kp, F_draw.bindsN fun _ _ _ _ _ _ us hl => match us, hl with | [_, _], _ => rfl⟩
  have O_mixed : Own R.prog w K mg base CX0 2 "_law_mixed" ["_law_pot_here", "_law_given"] (sp_mixed K) _ fd_mixed := ⟨ok_mixed F_mixed T O_draw, m_mixed, F_mixed.kp, F_mixed.bindsN fun _ _ _ _ _ _ us hl => match us, hl with | [_, _], _ => rfl⟩
  have Z_draw := Dl.oz_draw O_draw
  have Z_mixed := Dl.oz_mixed O_mixed
  have Z_factor : Dl.OZ R.prog w K mg base false 2 "_law_factor" ["_law_pot_here"] (aPot isFac) _ fd_factor := ⟨z_factor F_factor T Z_draw, m_factor, F_factor.kp, F_factor.bindsN fun _ _ _ _ _ _ us hl => match us, hl with | [_], _ => rfl⟩
  have Z_odd : Dl.OZ R.prog w K mg base false 2 "_law_odd" ["_law_pot_here"] (aPot (· ∈ odds)) _ fd_odd := ⟨z_odd F_odd T Z_draw, m_odd, F_odd.kp, F_odd.bindsN fun _ _ _ _ _ _ us hl => match us, hl with | [_], _ => rfl⟩
  have Z_factor_or_odd : Dl.OZ R.prog w K mg base false 3 "_law_factor_or_odd" ["_law_pot_here"] (aPot isFoo) _ fd_factor_or_odd := ⟨z_factor_or_odd F_factor_or_odd T Z_draw Z_factor Z_odd, m_factor_or_odd, F_factor_or_odd.kp, F_factor_or_odd.bindsN fun _ _ _ _ _ _ us hl => match us, hl with | [_], _ => rfl⟩
  have Z_called : Dl.OZ R.prog w K mg base false 12 "_law_called" ["_law_made", "_law_way", "_law_one", "_law_two", "_law_three"] (aCalled (He.ga K "Sheet") (He.ga K "UnknownField") (He.ga K "InvalidNumber")) _ fd_called := ⟨z_called F_called T F_Sheet_equation M_equation, m_called, F_called.kp, F_called.bindsN fun _ _ _ _ _ _ us hl => match us, hl with | [_, _, _, _, _], _ => rfl⟩
  have Z_told : Dl.OZ R.prog w K mg base false 13 "_law_told" ["_law_made", "_law_way", "_law_some"] (aTold (He.ga K "Sheet")) _ fd_told := ⟨z_told F_told T TC Z_called, m_told, F_told.kp, F_told.bindsN fun _ _ _ _ _ _ us hl => match us, hl with | [_, _, _], _ => rfl⟩
  have Z_due : Dl.OZ R.prog w K mg base false 1 "_law_due" ["_law_labels", "_law_way", "_law_some"] aDue _ fd_due := ⟨z_due F_due T, m_due, F_due.kp, F_due.bindsN fun _ _ _ _ _ _ us hl => match us, hl with | [_, _, _], _ => rfl⟩
  have Z_is_line : Dl.OZ R.prog w K mg base false 1 "_law_is_line" ["_law_thing", "_law_wide"] aLine _ fd_is_line := ⟨z_is_line F_is_line T, m_is_line, F_is_line.kp, F_is_line.bindsN fun _ _ _ _ _ _ us hl => match us, hl with | [_, _], _ => rfl⟩
  have Z_things : Dl.OZ R.prog w K mg base false 3 "_law_things" ["_law_pot_here", "_law_wide"] aThings _ fd_things := ⟨z_things F_things T Z_draw Z_factor Z_odd, m_things, F_things.kp, F_things.bindsN fun _ _ _ _ _ _ us hl => match us, hl with | [_, _], _ => rfl⟩
  have Z_right : Dl.OZ R.prog w K mg base true 15 "_law_right" ["_law_pot_here"] Dl.aRight _ fd_right := ⟨z_right F_right T B Z_draw Z_mixed Z_factor_or_odd Z_told Z_due Z_is_line Z_things MKZ M_is_equation (KM_is_equation F_Sheet_is_equation) M_fields, m_right, F_right.kp, F_right.bindsN fun _ _ _ _ _ _ us hl => match us, hl with | [_], _ => rfl⟩
  have O_right := Dl.own_right Z_right
  exact ok_law F_law T B O_pot O_right
end K16
open PySem PySem.W PySem.Calls PyProof.Rows
theorem PySem.Challenge.cw_lastheld_k16_equations_by_name_holds : PySem.Challenge.rw_lastheld_k16_equations_by_name.Holds := by
  w_on; o_law
  refine HandSHeadRun.head_any (r := OpenLaw.row PySem.Challenge.rw_lastheld_k16_equations_by_name) (q := view (OpenLaw.row PySem.Challenge.rw_lastheld_k16_equations_by_name).prog [32]) (H := K16.hk) (ob := K16.ob) (M := 20000) (loose := K16.names)
    (d := HandSHeadRun.topDef (OpenLaw.row PySem.Challenge.rw_lastheld_k16_equations_by_name).prog 32) (kwd := []) K16.ob_eq
    (by kernel_rfl) (fun s => by kernel_rfl) K16.run (by kernel_rfl) (by kernel_rfl) (by kernel_rfl) (by rfl) (by first | assumption | decide +kernel) (by decide +kernel) ⟨rfl, rfl, rfl, rfl, rfl, by decide +kernel⟩ ?hw ?hc
  case hw => w_witness2
  case hc =>
    refine Lw.walk_g (l := PySem.Challenge.rw_lastheld_k16_equations_by_name) (n := 63) (k := 16) (x := "_law_script") (CX := L2.CX0) rfl (by decide) (by kernel_rfl) (by kernel_rfl) ⟨rfl, by decide, by decide⟩ ?F (fun _ _ _ _ z => z)
    intro w mg fa h Y G hmg0
    obtain ⟨K, KX, c⟩ := Y
    have hmg : mg ("law" : PySem.Str) = some (.ref fa) := by
      have e : (HandSHeadRun.topDef (OpenLaw.row PySem.Challenge.rw_lastheld_k16_equations_by_name).prog 32).name = ("law" : PySem.Str) := by kernel_rfl
      rw [← e]
      exact hmg0
    obtain ⟨fd, hb, hF⟩ := K16.facts (w := w) KX G hmg c
    exact ⟨K, fd, K16.sp_law K, KX, hb, fun H a ns hl _ hS => ⟨a, ns, rfl, hS, hl, fun _ => rfl⟩, hF⟩


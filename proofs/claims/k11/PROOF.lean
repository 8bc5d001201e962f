import PyProof.Rows.All
import Wide.All
import OpenK.AllK
import Wide.FinOn
import HandS.ForMost
import HandS.ForExc
import HandS.HotCalls
import HandS.ExcInit
import HandS.ExcIs
import HandS.ExcField
import HandS.ExcValue
import HandS.IsInst
import PyProof.ReprRoads
import KE.KExcIs
import HandS.Ends
import HandS.Wide
import HandS.Codes
import HandS.TupLe
import PySem.Challenge.RW_contentties_k11_errors_apart
set_option Elab.async false
set_option linter.all false
set_option maxRecDepth 100000
set_option maxHeartbeats 8000000
/-! Contracts of defs where it is known that no repr is under way (guards), calm or within an except suite. -/
namespace Wk
open PySem PySem.Spec PyProof.Rows L2

/-- no repr and the like is under way -/
def Gd (A : Around) : Prop := A.guards = some []
theorem Gd.deeper {A : Around} (g : Gd A) (env : Env) : Gd (A.deeper env) := g
theorem Gd.mark {A : Around} (g : Gd A) (v : Option Value) : Gd (A.mark v) := g

/-- the body's context, calm or not, with pins -/
def cxG (CX : CXT) (P : Program) (w : World) (K : PySem.W.Frag) (mg : Str → Option Value) (base : Heap) (N : List Str) (qual : Str) (scope : Scope) (f : Addr) (cd : Value) (A : Around)
    (outer : List Env) (s : Shared) (H : Hp) (E : XK) (c : Bool) (pn : List (Addr × Obj)) : Cx :=
  { cxOf CX P w K mg base N qual scope f cd A outer s H E with calm := c, pn := pn }

section
variable {CX : CXT} {P : Program} {w : World} {K : PySem.W.Frag} {mg : Str → Option Value} {base : Heap}
/-- one run of a def's body, at one entry -/
theorem body_run {f : Addr} {name qual : Str} {params : Arguments} {body : List Stmt} {scope : Scope} {dV kV doc pm cdv ct oc : Value} {an od : Option Addr} {osl : Array (Option Value)} {N ps : List Str}
    {A : Around} {outer : List Env} {s : Shared} {H : Hp} {args : Args} {us : List Value} {vs : List V} {Q : VK} {E : XK} {c : Bool} {pn : List (Addr × Obj)} {t : TS}
    (lk : K.lookup f = some ⟨oc, od, .func (PySem.W.fnOf name qual params body scope dV kV doc pm an cdv ct), osl⟩) (hcd : PySem.W.codeIn K cdv qual = true) (S : FnScope N ps scope)
    (hdp : A.depth < recursionLimit) (e0 : Env0 P w K mg base A outer s H) (hb : BindsTo s (PySem.W.fnOf name qual params body scope dV kV doc pm an cdv ct) args (ps.zip us))
    (hI : ∀ s1, InCallC s s.heap.objs.size (bindL (envOfC qual scope s.heap.objs.size f cdv).kindOf (ps.zip us) fun _ => none) (cellsFrom (s.heap.objs.size + 1) scope.names [])
      (bindC (envOfC qual scope s.heap.objs.size f cdv).kindOf (ps.zip us) fun _ => none) s1 → Inv (cxG CX P w K mg base N qual scope f cdv A outer s H E c pn) [] (start N vs) H s1)
    (ht : PSs (cxG CX P w K mg base N qual scope f cdv A outer s H E c pn) body t) (hq : t { nx := fun _ H' => Q .non H', rt := Q } (start N vs) H) :
    codeAny (model P w) A (.call (.ref f) args) (CR CX outer P w H s Q E) s := by
  have hin := e0.mod.kin.keeps (fun b o z => (e0.bs b o z).1)
  have hlim := e0.mod.nolimit.keeps (fun b o z => (e0.bs b o z).1)
  have hk : ∀ y ∈ ps.zip us, scope.names.lookup y.1 = some .local ∨
      (scope.names.lookup y.1 = some .cell ∧ ((cellsFrom (s.heap.objs.size + 1) scope.names []).lookup y.1).isSome = true) := by
    rintro ⟨n, v⟩ hy
    have hn := S.par n (List.of_mem_zip hy).1
    exact hn.elim Or.inl (fun q => Or.inr ⟨q, PySem.W.cellsFrom_some _ _ _ (.inl q)⟩)
  refine codeAny_call_function hdp (hin _ _ lk) rfl S.co S.gen rfl (PySem.W.codeRec_of hin hcd) (hb _ _ _ _ ?_)
  refine wpAny_newFunctionEnv_cells S.kind hk (fun env he s1 x => ?_)
  cases he
  refine ⟨hlim.keeps x.toInCall.keep, codeAny_func ?_⟩
  refine wpAny_mono (ht.run [] s1 (start N vs) H _ (hI s1 x) hq) (fun fl s' hs => ?_) (fun e s' hs => hs)
  cases fl with
  | ret u => obtain ⟨v, _, H', J, rv, q⟩ := hs; exact ⟨v, H', J.os, J.bare, J.base, J.hok, rv, q⟩
  | next => obtain ⟨_, H', J, q⟩ := hs; exact ⟨V.non, H', J.os, J.bare, J.base, J.hok, rfl, q⟩
  | brk => obtain ⟨_, _, _, q⟩ := hs; exact q.elim
  | cont => obtain ⟨_, _, _, q⟩ := hs; exact q.elim

/-! ### calm, the guards known -/
structure FnC (P : Program) (w : World) (K : PySem.W.Frag) (mg : Str → Option Value) (base : Heap) (CX : CXT) (k : Nat) (f : Addr) (fd : FuncData) (ps : List Str) (sp : Sp) : Prop where
  len : ∀ vs H Q E, sp vs H Q E → vs.length = ps.length
  run : ∀ (A : Around) (outer : List Env) (s : Shared) (H : Hp) (args : Args) (us : List Value) (vs : List V) (Q : VK) (E : XK), Room k A → Gd A →
    Env0 P w K mg base A outer s H → BindsTo s fd args (ps.zip us) → Vals vs us → sp vs H Q E → codeAny (model P w) A (.call (.ref f) args) (CR CX outer P w H s Q E) s
theorem ofOk {k : Nat} {f : Addr} {fd : FuncData} {ps : List Str} {sp : Sp} (F : FnOk P w K mg base CX k f fd ps sp) : FnC P w K mg base CX k f fd ps sp :=
  ⟨F.len, fun A outer s H args us vs Q E hr _ => F.run A outer s H args us vs Q E hr⟩
theorem okC {x qual : Str} {st : Stmt} {f : Addr} {fd : FuncData} {N ps : List Str} {k : Nat} {sp : Sp} (F : Fun K x qual st f fd) (S : FnScope N ps (defScope st)) (len : ∀ vs H Q E, sp vs H Q E → vs.length = ps.length)
    (hbody : ∀ (cdv : Value) (A : Around) (outer : List Env) (s : Shared) (H : Hp) (vs : List V) (Q : VK) (E : XK), Room k (A.deeper (envOfC qual (defScope st) s.heap.objs.size f cdv)) → Gd A → sp vs H Q E →
      ∃ t, PSs (cxOf CX0 P w K mg base N qual (defScope st) f cdv A outer s H E).nox (defBody st) t ∧ t { nx := fun _ H' => Q .non H', rt := Q } (start N vs) H) :
    FnC P w K mg base CX0 (k + 1) f fd ps sp := by
  obtain ⟨oc, od, kV, doc, pm, an, cdv, ct, osl, rfl, lk, hcd⟩ := F.ex
  refine ⟨len, fun A outer s H args us vs Q E hr hg e0 hb r hsp => ?_⟩
  obtain ⟨t, h, q⟩ := hbody cdv A outer s H vs Q E (hr.deeper _) hg hsp
  exact body_run (c := true) (pn := []) lk hcd S hr.depth e0 hb (fun s1 x => inv_start S hr.hd e0 (len _ _ _ _ hsp) r x) h.nox q
end

section
variable {X : Cx} {k : Nat} {f : Addr} {fd : FuncData} {ps : List Str} {sp : Sp} {x : Str} {p pos : Pos} {e : Expr} {es : List Expr} {t : TA}
theorem run_C {pins : List (Addr × Obj)} {σ : L2.St} {H : Hp} {s : Shared} {Q : VK} {us : List Value} {vs : List V} (F : FnC X.prog X.w X.K X.mg X.base CX0 k f fd ps sp) (hr : Room k X.A) (hg : Gd X.A)
    (hb : Binds X.K fd ps []) (I : Inv X pins σ H s) (r : Vals vs us) (h : sp vs H Q E0) : wpAny (model X.prog X.w) X.A (call (.ref f) us) (EP X pins σ Q) X.xe s := by
  have hl : (us ++ []).length = ps.length := by rw [List.append_nil, ← r.length]; exact F.len _ _ _ _ h
  have b := hb s us I.kIn hl
  rw [List.append_nil] at b
  refine wpAny_call (codeAny_mono (F.run X.A X.stack s H ⟨us, []⟩ us vs Q E0 hr hg I.env0 b r h) (fun res s' hq => ?_))
  match res, hq with
  | .ok (.ret u), hq => exact I.after hq
theorem pe_callC (F : FnC X.prog X.w X.K X.mg X.base CX0 k f fd ps sp) (hr : Room k X.A) (hgd : Gd X.A) (hg : Gl X x) (hm : X.mg x = some (.ref f)) (hk : PySem.W.keepIn X.K (.ref f) = true) (hb : Binds X.K fd ps [])
    (ha : PA X (e :: es) t) (hdb : (x == ("__debug__" : Str)) = false := by decide) (he : starEach (e :: es) X.env = (false, eval e X.env) :: starEach es X.env := by rfl)
    (hpl : (backTo pos (starEach es X.env)).any (·.1) = false := by rfl) : PE X (.Call (.Name x p) (e :: es) [] pos) (tCall sp [] E0 t) := by
  refine ⟨fun pins s σ H Q I h => wpAny_Call_Name_kw (ld_glob I hg hm ?_ hdb)⟩
  refine PySem.W.callWith_K (h₀ := X.base) I.ok.mod.kin hk (thn (ha.run pos pins s σ H _ I h) (fun us s1 hq => ?_)) he hpl
  obtain ⟨vs, H1, I1, r, q⟩ := hq
  rw [List.append_nil] at q
  exact ⟨I1.kIn, run_C F hr hgd hb I1 r q⟩
theorem pe_callC0 (F : FnC X.prog X.w X.K X.mg X.base CX0 k f fd ps sp) (hr : Room k X.A) (hgd : Gd X.A) (hg : Gl X x) (hm : X.mg x = some (.ref f)) (hk : PySem.W.keepIn X.K (.ref f) = true) (hb : Binds X.K fd ps [])
    (hdb : (x == ("__debug__" : Str)) = false := by decide) : PE X (.Call (.Name x p) [] [] pos) (tCall sp [] E0 tNil) := by
  refine ⟨fun pins s σ H Q I h => wpAny_Call_Name_kw (ld_glob I hg hm ?_ hdb)⟩
  exact PySem.W.callWith_K0 I.kIn hk (run_C (us := []) F hr hgd hb I .nil h)
end

/-! ### within an except suite: the exception at a, of the class cls, with the dict d -/
/-- a promise that speaks of the handled exception -/
abbrev SpE := Addr → Value → Option Addr → Sp
structure FnE (P : Program) (w : World) (K : PySem.W.Frag) (mg : Str → Option Value) (base : Heap) (k : Nat) (f : Addr) (fd : FuncData) (ps : List Str) (sp : SpE) : Prop where
  len : ∀ a cls d vs H Q E, sp a cls d vs H Q E → vs.length = ps.length
  run : ∀ (A : Around) (outer : List Env) (s : Shared) (H : Hp) (args : Args) (us : List Value) (vs : List V) (Q : VK) (E : XK) (a : Addr) (oe : Obj) (cls : Value) (d : Option Addr),
    L2H.RoomH k A → Gd A → L2H.Hot1 A (a, oe) → Zc cls d oe → L2H.PinOk outer H s (a, oe) →
    Env0 P w K mg base A outer s H → BindsTo s fd args (ps.zip us) → Vals vs us → sp a cls d vs H Q E → codeAny (model P w) A (.call (.ref f) args) (CR CX0 outer P w H s Q E) s
section
variable {P : Program} {w : World} {K : PySem.W.Frag} {mg : Str → Option Value} {base : Heap}
theorem okE {x qual : Str} {st : Stmt} {f : Addr} {fd : FuncData} {N ps : List Str} {k : Nat} {sp : SpE} (F : Fun K x qual st f fd) (S : FnScope N ps (defScope st)) (len : ∀ a cls d vs H Q E, sp a cls d vs H Q E → vs.length = ps.length)
    (hbody : ∀ (cdv : Value) (A : Around) (outer : List Env) (s : Shared) (H : Hp) (vs : List V) (Q : VK) (E : XK) (a : Addr) (oe : Obj) (cls : Value) (d : Option Addr),
      L2H.RoomH k (A.deeper (envOfC qual (defScope st) s.heap.objs.size f cdv)) → Gd A → L2H.Hot1 A (a, oe) → Zc cls d oe → sp a cls d vs H Q E →
      ∃ t, PSs (L2H.cxH CX0 P w K mg base N qual (defScope st) f cdv A outer s H E (a, oe)).nox (defBody st) t ∧ t { nx := fun _ H' => Q .non H', rt := Q } (start N vs) H) :
    FnE P w K mg base (k + 1) f fd ps sp := by
  obtain ⟨oc, od, kV, doc, pm, an, cdv, ct, osl, rfl, lk, hcd⟩ := F.ex
  refine ⟨len, fun A outer s H args us vs Q E a oe cls d hr hg hot hz hpin e0 hb r hsp => ?_⟩
  obtain ⟨t, h, q⟩ := hbody cdv A outer s H vs Q E a oe cls d (hr.deeper _) hg hot hz hsp
  exact body_run (c := false) (pn := [(a, oe)]) lk hcd S hr.depth e0 hb (fun s1 x => L2H.inv_startH S hpin e0 (len _ _ _ _ _ _ _ hsp) r x) h.nox q
end
section
variable {X : Cx} {k : Nat} {f : Addr} {fd : FuncData} {ps : List Str} {sp : SpE} {x : Str} {p pos : Pos} {e : Expr} {es : List Expr} {t : TA} {a : Addr} {oe : Obj} {cls : Value} {d : Option Addr}
theorem pe_callE (F : FnE X.prog X.w X.K X.mg X.base k f fd ps sp) (hr : L2H.RoomH k X.A) (hgd : Gd X.A) (hot : L2H.Hot1 X.A (a, oe)) (hz : Zc cls d oe) (hp : (a, oe) ∈ X.pn)
    (hg : Gl X x) (hm : X.mg x = some (.ref f)) (hk : PySem.W.keepIn X.K (.ref f) = true) (hb : Binds X.K fd ps [])
    (ha : PA X (e :: es) t) (hdb : (x == ("__debug__" : Str)) = false := by decide) (he : starEach (e :: es) X.env = (false, eval e X.env) :: starEach es X.env := by rfl)
    (hpl : (backTo pos (starEach es X.env)).any (·.1) = false := by rfl) : PE X (.Call (.Name x p) (e :: es) [] pos) (tCall (sp a cls d) [] E0 t) := by
  refine ⟨fun pins s σ H Q I h => wpAny_Call_Name_kw (ld_glob I hg hm ?_ hdb)⟩
  refine PySem.W.callWith_K (h₀ := X.base) I.ok.mod.kin hk (thn (ha.run pos pins s σ H _ I h) (fun us s1 hq => ?_)) he hpl
  obtain ⟨vs, H1, I1, r, q⟩ := hq
  rw [List.append_nil] at q
  refine ⟨I1.kIn, ?_⟩
  have hl : (us ++ []).length = ps.length := by rw [List.append_nil, ← r.length]; exact F.len _ _ _ _ _ _ _ q
  have b := hb s1 us I1.kIn hl
  rw [List.append_nil] at b
  have P1 := I1.pin (a, oe) (List.mem_append_left _ hp)
  have hpin : L2H.PinOk X.stack H1 s1 (a, oe) := ⟨P1.1, P1.2.1, fun hmm => (List.mem_cons.mp (I1.stkSub a hmm)).elim P1.2.2.1 P1.2.2.2.1, P1.2.2.2.2⟩
  refine wpAny_call (codeAny_mono (F.run X.A X.stack s1 H1 ⟨us, []⟩ us vs Q E0 a oe cls d hr hgd hot hz hpin I1.env0 b r q) (fun res s' hq => ?_))
  match res, hq with
  | .ok (.ret u), hq => exact I1.after hq
end

/-! ### the pinned exception: isinstance, its fields -/
section
variable {X : Cx} {a D : Addr} {oe : Obj}
theorem inst_pin {pins : List (Addr × Obj)} {σ : L2.St} {H : Hp} {s : Shared} {d : Option Addr} (I : Inv X pins σ H s) (hp : (a, oe) ∈ X.pn) (hz : Zc (.ref D) d oe) : s.heap.get? a = some oe := (I.pin (a, oe) (List.mem_append_left _ hp)).1
end
end Wk
/-! repr of a list whose items are data (dicts with text keys among them), no repr being under way. -/
namespace Wk
open PySem PySem.Spec PyProof.Rows L2
mutual
/-- the value is such data, all its objects tracked -/
inductive Rp (H : Hp) : V → PyData → Prop
  | non : Rp H .non .none
  | bl (b : Bool) : Rp H (.bl b) (.bool b)
  | int (i : Int) : Rp H (.int i) (.int i)
  | str (x : Str) : Rp H (.str x) (.str x)
  | lst {a : Addr} {vs : List V} {ds : List PyData} : H a = some (.lst vs) → RpAll H vs ds → Rp H (.ref a) (.list ds)
  | tup {a : Addr} {vs : List V} {ds : List PyData} : H a = some (.tup vs) → RpAll H vs ds → Rp H (.ref a) (.tuple ds)
  | dic {a : Addr} {es : List (Key × V)} {ps : List (PyData × PyData)} : H a = some (.dK es) → RpKv H es ps → Rp H (.ref a) (.dict ps)
inductive RpAll (H : Hp) : List V → List PyData → Prop
  | nil : RpAll H [] []
  | cons {v : V} {vs : List V} {d : PyData} {ds : List PyData} : Rp H v d → RpAll H vs ds → RpAll H (v :: vs) (d :: ds)
inductive RpKv (H : Hp) : List (Key × V) → List (PyData × PyData) → Prop
  | nil : RpKv H [] []
  | cons {x : Str} {v : V} {es : List (Key × V)} {d : PyData} {ps : List (PyData × PyData)} : Rp H v d → RpKv H es ps → RpKv H ((Sum.inr x, v) :: es) ((.str x, d) :: ps)
end
theorem entries_more {P : Program} {w : World} {as as' : List Addr} {h : Heap} {d d' : Nat} (hsub : ∀ b ∈ as, b ∈ as') (hd : d ≤ d') : ∀ {l : List DictEntry} {ts : List Str}, ReprEntriesK P w as h d l ts → ReprEntriesK P w as' h d' l ts
  | _, _, .nil => .nil
  | _, _, .cons a b c => .cons ((a.more hsub).level_le hd) ((b.more hsub).level_le hd) (entries_more hsub hd c)
section
variable {X : Cx} {pins : List (Addr × Obj)} {σ : L2.St} {H : Hp} {s : Shared}
mutual
theorem Rp.k (I : Inv X pins σ H s) : ∀ (d : PyData) (v : V) (u : Value), Rp H v d → RelV v u → d.showable = true → d.shown.length ≤ sizeLine →
    (∃ as, Reads s.heap u d as) ∧ ∃ bs, ReadAtMost s.heap d.depth bs ∧ ReprK X.prog X.w bs s.heap d.depth u d.shown
  | .none, v, u, h, r, _, _ => by
    cases h; cases r
    refine ⟨⟨_, Reads.none⟩, [], (fun _ z => nomatch z), ?_⟩
    simp only [PyData.shown]; exact ReprK.of_is ReprIs.none _ _ _
  | .bool b, v, u, h, r, _, _ => by
    cases h; cases r
    refine ⟨⟨_, Reads.bool b⟩, [], (fun _ z => nomatch z), ?_⟩
    simp only [PyData.shown]; exact ReprK.of_is (ReprIs.bool b) _ _ _
  | .int i, v, u, h, r, hs, _ => by
    cases h
    obtain ⟨t, rfl⟩ := r
    refine ⟨⟨_, Reads.int i t⟩, [], (fun _ z => nomatch z), ?_⟩
    simp only [PyData.shown]; exact ReprK.of_is (ReprIs.int t (by simpa [PyData.showable] using hs)) _ _ _
  | .str x, v, u, h, r, _, hz => by
    cases h
    obtain ⟨t, rfl⟩ := r
    refine ⟨⟨_, Reads.str x t⟩, [], (fun _ z => nomatch z), ?_⟩
    simp only [PyData.shown] at hz ⊢; exact ReprK.of_is (ReprIs.str x t hz) _ _ _
  | .list ds, v, u, h, r, hs, hz => by
    cases h with
    | @lst a vs _ ha hall =>
      cases (show u = Value.ref a from r)
      obtain ⟨_, its, n, rv, e⟩ := (show ObjOk X.prog X.w H s.heap a (.lst vs) from I.hok a _ ha)
      simp only [PyData.shown] at hz
      simp only [PyData.showable] at hs
      obtain ⟨⟨as, ra⟩, bs, hb, hk⟩ := RpAll.k I ds vs its hall rv hs (fun t ht => Nat.le_trans (listText_mem_le ht) hz)
      have hr : Reads s.heap (.ref a) (.list ds) (a :: as) := Reads.list (vs := its.toArray) e rfl rfl (by simpa using ra)
      have hna : a ∉ bs := not_mem_of_deeper hr (by simp only [PyData.depth]; omega) hb
      refine ⟨⟨_, hr⟩, a :: bs, ReadAtMost.cons hr (by simp only [PyData.depth]; omega) hb, ?_⟩
      simp only [PyData.depth, PyData.shown]
      cases its with
      | nil =>
        cases ra
        simp only [PyData.shownAll, listText_nil]
        exact ReprK.listEmpty e rfl rfl
      | cons y l => exact ReprK.list e rfl rfl hna (by simpa using hk.length_eq) (fun i z q => hk.item i z (by simpa using q))
  | .tuple ds, v, u, h, r, hs, hz => by
    cases h with
    | @tup a vs _ ha hall =>
      cases (show u = Value.ref a from r)
      obtain ⟨_, its, rv, o, e1, e2, n, e3⟩ := (show ObjOk X.prog X.w H s.heap a (.tup vs) from I.hok a _ ha)
      simp only [PyData.shown] at hz
      simp only [PyData.showable] at hs
      obtain ⟨⟨as, ra⟩, bs, hb, hk⟩ := RpAll.k I ds vs its hall rv hs (fun t ht => Nat.le_trans (tupleText_mem_le ht) hz)
      have hr : Reads s.heap (.ref a) (.tuple ds) as := Reads.tuple (vs := its.toArray) e1 e2 e3 (by simpa using ra)
      have hna : a ∉ bs := not_mem_of_deeper hr (by simp only [PyData.depth]; omega) hb
      refine ⟨⟨_, hr⟩, a :: bs, ReadAtMost.cons hr (by simp only [PyData.depth]; omega) hb, ?_⟩
      simp only [PyData.depth, PyData.shown]
      exact ReprK.tuple e1 e2 e3 hna (by simpa using hk)
  | .dict ps, v, u, h, r, hs, hz => by
    cases h with
    | @dic a es _ ha hall =>
      cases (show u = Value.ref a from r)
      obtain ⟨_, hsys, ws, rv, o, ents, ep, e1, ex, e3, _, hp, _⟩ := (show ObjOk X.prog X.w H s.heap a (.dK es) from I.hok a _ ha)
      simp only [PyData.shown] at hz
      simp only [PyData.showable] at hs
      obtain ⟨⟨as1, as2, ra, rb⟩, bs, hb, hk⟩ := RpKv.k I ps es ws ents.toList hall rv hp hs (fun t ht => Nat.le_trans (dictText_mem_le ht) hz)
      have hr : Reads s.heap (.ref a) (.dict ps) (a :: as1 ++ as2) := Reads.dict e1 ex.1 e3 ra rb
      have hna : a ∉ bs := not_mem_of_deeper hr (by simp only [PyData.depth]; omega) hb
      refine ⟨⟨_, hr⟩, a :: bs, ReadAtMost.cons hr (by simp only [PyData.depth]; omega) hb, ?_⟩
      simp only [PyData.depth, PyData.shown]
      exact ReprK.dict e1 ex.1 e3 hsys hna hk
theorem RpAll.k (I : Inv X pins σ H s) : ∀ (ds : List PyData) (vs : List V) (us : List Value), RpAll H vs ds → Vals vs us → PyData.showableAll ds = true → (∀ t ∈ PyData.shownAll ds, t.length ≤ sizeLine) →
    (∃ as, ReadsAll s.heap us ds as) ∧ ∃ bs, ReadAtMost s.heap (PyData.depthAll ds) bs ∧ ReprAllK X.prog X.w bs s.heap (PyData.depthAll ds) us (PyData.shownAll ds)
  | [], vs, us, h, r, _, _ => by
    cases h; cases r
    refine ⟨⟨_, ReadsAll.nil⟩, [], (fun _ z => nomatch z), ?_⟩
    simp only [PyData.shownAll]; exact ReprAllK.nil
  | d :: ds, vs, us, h, r, hs, hz => by
    cases h with
    | cons h1 h2 =>
      cases r with
      | cons r1 r2 =>
        simp only [PyData.showableAll, Bool.and_eq_true] at hs
        obtain ⟨⟨a1, q1⟩, b1, p1, k1⟩ := Rp.k I d _ _ h1 r1 hs.1 (hz _ (by simp only [PyData.shownAll]; exact List.mem_cons_self))
        obtain ⟨⟨a2, q2⟩, b2, p2, k2⟩ := RpAll.k I ds _ _ h2 r2 hs.2 (fun t ht => hz t (by simp only [PyData.shownAll]; exact List.mem_cons_of_mem _ ht))
        refine ⟨⟨_, ReadsAll.cons q1 q2⟩, b1 ++ b2, (p1.mono (by simp only [PyData.depthAll]; omega)).append (p2.mono (by simp only [PyData.depthAll]; omega)), ?_⟩
        simp only [PyData.depthAll, PyData.shownAll]
        exact ReprAllK.cons ((k1.more (fun b hm => List.mem_append_left _ hm)).level_le (Nat.le_max_left _ _)) (k2.more_le (fun b hm => List.mem_append_right _ hm) (Nat.le_max_right _ _))
theorem RpKv.k (I : Inv X pins σ H s) : ∀ (ps : List (PyData × PyData)) (es : List (Key × V)) (ws : List (Key × Value)) (ents : List DictEntry), RpKv H es ps → KV es ws → Pairs (mixKind X.prog X.w) ents ws →
    PyData.showableKv ps = true → (∀ t ∈ PyData.shownKv ps, t.length ≤ sizeLine) →
    (∃ as bs, ReadsAll s.heap (ents.map (·.key)) (ps.map (·.1)) as ∧ ReadsAll s.heap (ents.map (·.val)) (ps.map (·.2)) bs) ∧
      ∃ bs, ReadAtMost s.heap (PyData.depthKv ps) bs ∧ ReprEntriesK X.prog X.w bs s.heap (PyData.depthKv ps) ents (PyData.shownKv ps)
  | [], es, ws, ents, h, r, hp, _, _ => by
    cases h; cases r; cases hp
    refine ⟨⟨_, _, ReadsAll.nil, ReadsAll.nil⟩, [], (fun _ z => nomatch z), ?_⟩
    simp only [PyData.shownKv]; exact ReprEntriesK.nil
  | (kd, d) :: ps, es, ws, ents, h, r, hp, hs, hz => by
    cases h with
    | @cons x v es' _ _ h1 h2 =>
      cases r with
      | @cons _ w1 _ wr r1 r2 =>
        obtain ⟨wk, wv⟩ := w1
        obtain ⟨ek, rv⟩ := r1
        cases hp with
        | @cons en kv er kvr hk hv hr =>
          have ek' : (Sum.inr x : Key) = wk := ek
          subst ek'
          have hv' : en.val = wv := hv
          obtain ⟨hh0, k0, v0⟩ := en
          have hv'' : v0 = wv := hv'
          subst hv''
          have sh := keyIs_shape (show keyIs (Sum.inr x) k0 = true from hk)
          obtain ⟨t, rfl⟩ : ∃ t, k0 = Value.str x t := by
            rcases sh with ⟨i, t, q, _⟩ | ⟨y, t, q, e⟩
            · exact nomatch q
            · cases q; exact ⟨t, e⟩
          simp only [PyData.showableKv, Bool.and_eq_true] at hs
          have hz1 : ((PyData.str x).shown ++ ": " ++ d.shown).length ≤ sizeLine := hz _ (by simp only [PyData.shownKv]; exact List.mem_cons_self)
          have hzk : (PyData.str x).shown.length ≤ sizeLine := by rw [strLen_append, strLen_append] at hz1; omega
          have hzv : d.shown.length ≤ sizeLine := by rw [strLen_append, strLen_append] at hz1; omega
          obtain ⟨⟨a1, q1⟩, b1, p1, k1⟩ := Rp.k I d _ _ h1 rv hs.1.2 hzv
          obtain ⟨⟨a2, c2, q2, q3⟩, b2, p2, k2⟩ := RpKv.k I ps es' wr er h2 r2 hr hs.2 (fun t ht => hz t (by simp only [PyData.shownKv]; exact List.mem_cons_of_mem _ ht))
          have kk : ReprK X.prog X.w (b1 ++ b2) s.heap (max (max (PyData.str x).depth d.depth) (PyData.depthKv ps)) (.str x t) (PyData.str x).shown := by
            simp only [PyData.shown] at hzk ⊢
            exact ReprK.of_is (ReprIs.str x t hzk) _ _ _
          refine ⟨⟨_, _, ReadsAll.cons (Reads.str x t) q2, ReadsAll.cons q1 q3⟩, b1 ++ b2, (p1.mono (by simp only [PyData.depthKv]; omega)).append (p2.mono (by simp only [PyData.depthKv]; omega)), ?_⟩
          simp only [PyData.depthKv, PyData.shownKv]
          refine ReprEntriesK.cons kk ((k1.more (fun b hm => List.mem_append_left _ hm)).level_le (by omega)) ?_
          exact entries_more (fun b hm => List.mem_append_right _ hm) (by omega) k2
end
end
end Wk
namespace Wk
open PySem PySem.Spec PyProof.Rows L2
/-- repr(xs), xs a list of such data -/
def rReprL : List V → Hp → VK → Prop := fun xs H Q => ∃ (a : Addr) (vs : List V) (ds : List PyData), xs = [.ref a] ∧ H a = some (.lst vs) ∧ RpAll H vs ds ∧ PyData.showableAll ds = true ∧ PyData.depthAll ds ≤ 40 ∧
  (listText (PyData.shownAll ds)).length ≤ sizeLine ∧ Q (.str (listText (PyData.shownAll ds))) H
section
variable {X : Cx}
theorem call_reprL (hg : Gd X.A) (hu : X.A.units + 64 < cLine) : CallR X (.builtin "repr") rReprL := by
  intro pins s σ H xs us Q I r h
  obtain ⟨a, vs, ds, rfl, ha, hall, hs, hd, hz, q⟩ := h
  obtain ⟨u, rfl, e⟩ := vals1 r
  cases (show u = Value.ref a from e)
  obtain ⟨_, its, n, rv, e1⟩ := (show ObjOk X.prog X.w H s.heap a (.lst vs) from I.hok a _ ha)
  obtain ⟨⟨as, ra⟩, bs, hb, hk⟩ := RpAll.k I ds vs its hall rv hs (fun t ht => Nat.le_trans (listText_mem_le ht) hz)
  have hr : Reads s.heap (.ref a) (.list ds) (a :: as) := Reads.list (vs := its.toArray) e1 rfl rfl (by simpa using ra)
  have hna : a ∉ bs := not_mem_of_deeper hr (by simp only [PyData.depth]; omega) hb
  refine call_repr_slot (by omega) ⟨_, e1, rfl⟩ F.slot_list_repr.toG ?_
  cases its with
  | nil =>
    cases ra
    simp only [PyData.shownAll, listText_nil] at q
    exact call_list_repr_empty ⟨_, e1, rfl⟩ e1 rfl ⟨_, _, rfl, .str "[]", H, I.tok _, ⟨_, rfl⟩, q⟩
  | cons y l =>
    refine call_list_reprK e1 rfl rfl hna (by simpa using hk.length_eq) (fun i z w => hk.item i z (by simpa using w)) hg (fun b _ => Clear.nil b) (by show X.A.units + 1 + _ < _; omega) (fun _ _ z => z) (fun h' u tk kp => ?_) hz
    exact ⟨_, _, rfl, .str _, H, I.kept (t' := tk) kp, ⟨_, rfl⟩, q⟩
end
end Wk
/-! Exceptions of own classes: the handled one as an argument (isinstance, its fields), made with fields, made as values. -/
namespace Wk
open PySem PySem.Spec PyProof.Rows L2
/-- the exception's own dict, if it has one, is tracked -/
def DictOk (d : Option Addr) (H : Hp) : Prop := d = none ∨ ∃ (dd : Addr) (fs : List (Str × V)), d = some dd ∧ H dd = some (.xd fs)
section
variable {X : Cx} {a : Addr} {oe : Obj} {cls : Value} {d : Option Addr} {pins : List (Addr × Obj)} {σ : L2.St} {H : Hp} {s : Shared} {D : Addr}
theorem inst_of (I : Inv X pins σ H s) (hg : s.heap.get? a = some oe) (hz : Zc (.ref D) d oe) (hf : ∃ ws, oe.data = .fields ws) (hd : DictOk d H) : ∃ od, PySem.W.InstAt s.heap a oe D od := by
  obtain ⟨ws, hw⟩ := hf
  have hn : PySem.W.notCls oe = true := by unfold PySem.W.notCls; rw [hw] <;> rfl
  rcases hd with rfl | ⟨dd, fs, rfl, ha⟩
  · exact ⟨none, hg, hz.1, hn, by rw [hz.2]; trivial⟩
  · have hx : ObjOk X.prog X.w H s.heap dd (.xd fs) := I.hok dd _ ha
    obtain ⟨mA, ⟨o, es, ep, ho, _⟩, _⟩ := hx
    exact ⟨some o, hg, hz.1, hn, by rw [hz.2]; exact ho⟩
/-- isinstance(e, c) where e is the exception at a -/
def rIsP (K : PySem.W.Frag) (a : Addr) (cls : Value) (d : Option Addr) : List V → Hp → VK → Prop := fun xs H Q => ∃ (c : V) (cv : Value) (b : Bool) (D : Addr), xs = [.ref a, c] ∧ ClsV c cv ∧ cls = .ref D ∧ ExcC K D ∧ DictOk d H ∧
  PySem.W.kitOne K (.ref D) cv = some b ∧ Q (.bl b) H
theorem call_isP (hp : (a, oe) ∈ X.pn) (hz : Zc cls d oe) (hf : ∃ ws, oe.data = .fields ws) : CallR X (.builtin "isinstance") (rIsP X.K a cls d) := by
  intro pins s σ H xs us Q I r h
  obtain ⟨c, cv, b, D, rfl, hc, rfl, T, hd, e, q⟩ := h
  obtain ⟨u1, u2, rfl, r1, r2⟩ := vals2 r
  cases (show u1 = Value.ref a from r1)
  have ec := hc.eq r2
  subst ec
  obtain ⟨od, J⟩ := inst_of I (I.pin (a, oe) (List.mem_append_left _ hp)).1 hz hf hd
  have hcl : (PySem.W.clsIn X.K D).isSome = true := by
    have hh := T.hd
    unfold PySem.W.hasDictIn at hh
    cases e2 : PySem.W.clsIn X.K D with
    | none => rw [e2] at hh; cases hh
    | some _ => rfl
  exact PySem.W.kia_one (PySem.W.kitx_exc hcl T.hg T.hk T.hs T.ha T.hn T.ht T.hm) I.kIn J e (fun z => nomatch z) fun tk => ⟨.bl b, H, I.tok tk, rfl, q⟩
/-- e.f where e is the exception at a -/
def tXfP (K : PySem.W.Frag) (a : Addr) (cls : Value) (d : Option Addr) (f : Str) (te : TE) : TE := fun σ H Q => te σ H fun x H1 => x = .ref a ∧ ∃ (D dd : Addr) (fs : List (Str × V)) (v : V), cls = .ref D ∧ XfC K D ∧
  PySem.W.findIn K (.ref D) f = some none ∧ d = some dd ∧ H1 dd = some (.xd fs) ∧ fs.lookup f = some v ∧ Q v H1
theorem pe_xfP {e : Expr} {te : TE} {pos : Pos} {n : Str} (hp : (a, oe) ∈ X.pn) (hz : Zc cls d oe) (hf : ∃ ws, oe.data = .fields ws) (he : PE X e te) (hb : attributeBase e n X.env (eval e X.env) = eval e X.env := by rfl) :
    PE X (.Attribute e n pos) (tXfP X.K a cls d n te) := by
  refine ⟨fun pins s σ H Q I h => attr_of hb (thn (he.run pins s σ H _ I h) fun u s1 hh => ?_)⟩
  obtain ⟨x, H1, I1, rx, rfl, D, dd, fs, v, rfl, T, hno, rfl, ea, l, q⟩ := hh
  cases (show u = Value.ref a from rx)
  obtain ⟨ha, _⟩ := I1.pin (a, oe) (List.mem_append_left _ hp)
  obtain ⟨ws, hw⟩ := hf
  obtain ⟨mA, hns, hr⟩ := (show ObjOk X.prog X.w H1 s1.heap dd (.xd fs) from I1.hok dd _ ea)
  obtain ⟨od, ho, hl⟩ := lookIn_ns hns
  obtain ⟨u2, hu, ru⟩ := RelO.some_of (v := v) (o := mA n) (by rw [← l]; exact hr n)
  have J : PySem.W.InstAt s1.heap a oe D (some od) := ⟨ha, hz.1, by unfold PySem.W.notCls; rw [hw] <;> rfl, by rw [hz.2]; exact ho⟩
  exact HandSPX.exc_get I1.kIn J T.ga T.gg T.exC (PySem.W.findObj_own T.hdC hno rfl (by rw [hl, hu])) (handed_of ru) ⟨v, H1, I1.tok _, ru, q⟩
end

/-! ### made with fields, its context None -/
section
variable {X : Cx} {e : Expr} {es : List Expr} {ta : TA} {p pos : Pos}
theorem pmkN_oex {CX : CXT} {x : Str} {C fI : Addr} {k : Nat} {fd : FuncData} {ps : List Str} {sp : Sp} (T : OexC X.K C) (iC : PySem.W.findIn X.K (.ref C) "__init__" = some (some (.ref fI))) (tI : PySem.W.typeIn X.K (.ref fI) = some (.type "function"))
    (F1 : FnOk X.prog X.w X.K X.mg X.base CX k fI fd ps sp) (hr : Room (k + 1) X.A) (hb : Binds X.K fd ps []) (hx : Passes CX X (fun _ _ _ => False)) (hg : Gl X x) (hm : X.mg x = some (.ref C)) (ha : PA X (e :: es) ta)
    (hdb : (x == ("__debug__" : Str)) = false := by decide) (he : starEach (e :: es) X.env = (false, eval e X.env) :: starEach es X.env := by rfl) (hpl : (backTo pos (starEach es X.env)).any (·.1) = false := by rfl) :
    L2N.PMk X (.Call (.Name x p) (e :: es) [] pos) (tMkO C sp [] ta) := by
  intro pins s σ H Q I h
  obtain ⟨nm, q, N, bs, bm, sn, sub, ab, col, dd, k0, k1, k2, k3, k5, hC, hbm⟩ := T.cls
  refine wpAny_Call_Name_kw (ld_glob I hg hm ?_ hdb)
  refine PySem.W.callWith_K (h₀ := X.base) I.ok.mod.kin T.kC (thn (ha.run pos pins s σ H _ I h) (fun us s1 hu => ?_)) he hpl
  obtain ⟨vs, H1, I1, r1, hz, q1⟩ := hu
  refine ⟨I1.kIn, ?_⟩
  obtain ⟨hp, g, dr, tk, os⟩ := s1
  have up : hp.objs.size ≤ hp.objs.size + 1 := Nat.le_succ _
  have fresh : H1 (hp.objs.size + 1) = none := I1.hok.fresh up
  have hq := q1 (hp.objs.size + 1) fresh
  rw [List.append_nil] at hq
  have keep : ∀ b o, hp.get? b = some o → ((hp.push (PySem.W.kdv_tup us)).push (PySem.HandSPX.excO C hp.objs.size)).get? b = some o := fun b o z => Heap.get?_push_of_some _ (Heap.get?_push_of_some _ z)
  have here : ((hp.push (PySem.W.kdv_tup us)).push (PySem.HandSPX.excO C hp.objs.size)).get? (hp.objs.size + 1) = some (PySem.HandSPX.excO C hp.objs.size) := by heap_get
  have J : Inv X pins σ (upd H1 (hp.objs.size + 1) (exo (hp.objs.size + 1) C none)) ⟨(hp.push (PySem.W.kdv_tup us)).push (PySem.HandSPX.excO C hp.objs.size), g, dr, tk, os⟩ := I1.laid (t' := tk) keep up (exo_ok here)
  have r2 : Vals (V.ref (hp.objs.size + 1) :: vs) (Value.ref (hp.objs.size + 1) :: us) := .cons rfl r1
  have hl : (Value.ref (hp.objs.size + 1) :: us ++ []).length = ps.length := by
    have z := r2.length
    rw [F1.len _ _ _ _ hq] at z
    rw [List.append_nil]; exact z.symm
  have small : us.length ≤ sizeLine := by rw [← Paired.length r1, sizeLine_eq]; omega
  have b := hb _ (Value.ref (hp.objs.size + 1) :: us) J.kIn hl
  rw [List.append_nil] at b
  refine wpAny_call (PySem.HandSPX.call_own F.excBase_ValueError (fun Y => PySem.HandSPX.refsVE_contains Y bm hbm) (I1.kIn _ _ hC) (PySem.W.looks_findIn I1.kIn iC) (fun self => PySem.W.bind_fn I1.kIn self tI) small
    (codeAny_mono (F1.run _ X.stack _ _ ⟨Value.ref (hp.objs.size + 1) :: us, []⟩ (Value.ref (hp.objs.size + 1) :: us) _ _ (fun _ _ _ => False) (hr.make C us []) (J.env0.make C us []) b r2 hq) (fun r s' hq' => ?_)))
  cases r with
  | error er => exact hx pins σ _ _ er s' J hq'
  | ok fl =>
    match fl, hq' with
    | .ret u, hq' =>
      obtain ⟨v, H2, os2, bare2, un2, hok2, rv, ev, d, fs, ea, ed, hd1, q2⟩ := hq'
      subst ev
      obtain ⟨h2, g2, d2, t2, os'⟩ := s'
      obtain ⟨t0, G, J2, kG, ge, hoe, na⟩ := mk_end0 (d2 := d2) (t2 := t2) I1 up keep un2 hok2 os2 bare2 ea ed hd1
      exact ⟨rv, hp.objs.size + 1, _, _, ⟨G, g2, d2, t2, os'⟩, _, .ref C, some d, rfl, J2, kG, ge, hoe, ⟨rfl, rfl, fun ws hw => by cases hw; rfl⟩, rfl, rfl, na, rfl, bare2, raises_own T.exC T.tyC, q2⟩
end

/-! ### made without fields -/
section
variable {X : Cx} {C : Addr} {bmB : List Value} {B newId initId : String} {x : Str} {p pos : Pos}
/-- X(..) of an own class without own __init__: what is made -/
theorem made_exc {pins : List (Addr × Obj)} {σ : L2.St} {H : Hp} {s : Shared} {us : List Value} {Q : Value → Shared → Prop} {E : Value → Shared → Prop} (F : ExcBaseFacts B newId initId bmB) (q : PySem.W.excIn X.K C bmB newId = true) (I : Inv X pins σ H s) (hz : us.length ≤ sizeLine)
    (h : ∀ h' e, Heap.MadeExcOf s.heap h' e (.ref C) us → Q (.ref e) { s with heap := h' }) : wpAny (model X.prog X.w) X.A (call (.ref C) us) Q E s := by
  obtain ⟨hp, g, d, t, os⟩ := s
  obtain ⟨bm, N, nm, qn, bs, hdct, sn, sub, ab, col, dd, k0, k1, k2, k3, k5, mN, hC, hN, hni, T⟩ := exc_obj I.kIn q
  exact wpAny_call_exc_subT F T hC hN hni (fun h' e hm => h h' e hm) hz
theorem pmkN_own0 (F : ExcBaseFacts B newId initId bmB) (q : PySem.W.excIn X.K C bmB newId = true) (gC : X.mg x = some (.ref C)) (kC : PySem.W.keepIn X.K (.ref C) = true) (r : Raises X (.ref C)) (hg : Gl X x)
    (hdb : (x == ("__debug__" : Str)) = false := by decide) : L2N.PMk X (.Call (.Name x p) [] [] pos) (fun _ H Q => Q (.ref C) none H) := by
  intro pins s σ H Q I h
  refine wpAny_Call_Name_kw (ld_glob I hg gC ?_ hdb)
  refine PySem.W.callWith_K0 I.kIn kC (made_exc F q I (Nat.zero_le _) fun h' e hm => ?_)
  exact L2N.mk_of I hm r h (I.hok.gone hm.new)
theorem pmkN_ownA {e : Expr} {es : List Expr} {t : TA} (F : ExcBaseFacts B newId initId bmB) (q : PySem.W.excIn X.K C bmB newId = true) (gC : X.mg x = some (.ref C)) (kC : PySem.W.keepIn X.K (.ref C) = true) (r : Raises X (.ref C)) (hg : Gl X x) (ha : PA X (e :: es) t)
    (hdb : (x == ("__debug__" : Str)) = false := by decide) (he : starEach (e :: es) X.env = (false, eval e X.env) :: starEach es X.env := by rfl) (hpl : (backTo pos (starEach es X.env)).any (·.1) = false := by rfl) :
    L2N.PMk X (.Call (.Name x p) (e :: es) [] pos) (fun σ H Q => t σ H fun vs H1 => vs.length ≤ sizeLine ∧ Q (.ref C) none H1) := by
  intro pins s σ H Q I h
  refine wpAny_Call_Name_kw (ld_glob I hg gC ?_ hdb)
  refine PySem.W.callWith_K (h₀ := X.base) I.ok.mod.kin kC (thn (ha.run pos pins s σ H _ I h) (fun us s1 hu => ?_)) he hpl
  obtain ⟨vs, H1, I1, r1, hz, q1⟩ := hu
  exact ⟨I1.kIn, made_exc F q I1 (by have z := r1.length; show us.length ≤ sizeLine; omega) fun h' e hm => L2N.mk_of I1 hm r q1 (I1.hok.gone hm.new)⟩
/-- X(..) as a value -/
theorem pe_excV0 (F : ExcBaseFacts B newId initId bmB) (q : PySem.W.excIn X.K C bmB newId = true) (gC : X.mg x = some (.ref C)) (kC : PySem.W.keepIn X.K (.ref C) = true) (hg : Gl X x) (hdb : (x == ("__debug__" : Str)) = false := by decide) :
    PE X (.Call (.Name x p) [] [] pos) (fun _ H Q => ∀ a, H a = none → Q (.ref a) (upd H a (ExO (.ref C) a))) := by
  refine ⟨fun pins s σ H Q I h => wpAny_Call_Name_kw (ld_glob I hg gC ?_ hdb)⟩
  refine PySem.W.callWith_K0 I.kIn kC (made_exc F q I (Nat.zero_le _) fun h' a hm => ?_)
  have hn : H a = none := I.hok.gone hm.new
  obtain ⟨t, ht, _, _⟩ := hm.there
  exact ⟨.ref a, _, I.laidN (t' := s.toks) hm.keeps hm.new hn (exO_ok ht ⟨rfl, rfl⟩ rfl rfl rfl (show 4 < 6 by decide)), rfl, h a hn⟩
theorem pe_excVA {e : Expr} {es : List Expr} {t : TA} (F : ExcBaseFacts B newId initId bmB) (q : PySem.W.excIn X.K C bmB newId = true) (gC : X.mg x = some (.ref C)) (kC : PySem.W.keepIn X.K (.ref C) = true) (hg : Gl X x) (ha : PA X (e :: es) t)
    (hdb : (x == ("__debug__" : Str)) = false := by decide) (he : starEach (e :: es) X.env = (false, eval e X.env) :: starEach es X.env := by rfl) (hpl : (backTo pos (starEach es X.env)).any (·.1) = false := by rfl) :
    PE X (.Call (.Name x p) (e :: es) [] pos) (fun σ H Q => t σ H fun vs H1 => vs.length ≤ sizeLine ∧ ∀ a, H1 a = none → Q (.ref a) (upd H1 a (ExO (.ref C) a))) := by
  refine ⟨fun pins s σ H Q I h => wpAny_Call_Name_kw (ld_glob I hg gC ?_ hdb)⟩
  refine PySem.W.callWith_K (h₀ := X.base) I.ok.mod.kin kC (thn (ha.run pos pins s σ H _ I h) (fun us s1 hu => ?_)) he hpl
  obtain ⟨vs, H1, I1, r1, hz, q1⟩ := hu
  refine ⟨I1.kIn, made_exc F q I1 (by have z := r1.length; show us.length ≤ sizeLine; omega) fun h' a hm => ?_⟩
  have hn : H1 a = none := I1.hok.gone hm.new
  obtain ⟨w, ht, _, _⟩ := hm.there
  exact ⟨.ref a, _, I1.laidN (t' := s1.toks) hm.keeps hm.new hn (exO_ok ht ⟨rfl, rfl⟩ rfl rfl rfl (show 4 < 6 by decide)), rfl, q1 a hn⟩
/-- isinstance(e, c), e such a value -/
def rIsV (K : PySem.W.Frag) : List V → Hp → VK → Prop := fun xs H Q => ∃ (a D : Addr) (c : V) (cv : Value) (b : Bool), xs = [.ref a, c] ∧ H a = some (ExO (.ref D) a) ∧ ClsV c cv ∧ ExcC K D ∧ PySem.W.kitOne K (.ref D) cv = some b ∧ Q (.bl b) H
theorem call_isV : CallR X (.builtin "isinstance") (rIsV X.K) := by
  intro pins s σ H xs us Q I r h
  obtain ⟨a, D, c, cv, b, rfl, hx, hc, T, e, q⟩ := h
  obtain ⟨u1, u2, rfl, r1, r2⟩ := vals2 r
  cases (show u1 = Value.ref a from r1)
  have ec := hc.eq r2
  subst ec
  have hx2 : ObjOk X.prog X.w H s.heap a (ExO (.ref D) a) := I.hok a _ hx
  obtain ⟨⟨oe, ws, hg, hz, hw, _⟩, _, _⟩ := hx2
  obtain ⟨od, J⟩ := inst_of I hg hz ⟨ws, hw⟩ (Or.inl rfl)
  have hcl : (PySem.W.clsIn X.K D).isSome = true := by
    have hh := T.hd
    unfold PySem.W.hasDictIn at hh
    cases e2 : PySem.W.clsIn X.K D with
    | none => rw [e2] at hh; cases hh
    | some _ => rfl
  exact PySem.W.kia_one (PySem.W.kitx_exc hcl T.hg T.hk T.hs T.ha T.hn T.ht T.hm) I.kIn J e (fun z => nomatch z) fun tk => ⟨.bl b, H, I.tok tk, rfl, q⟩
end
end Wk
/-! A list comprehension within an except suite. -/
namespace Wk
open PySem PySem.Spec PyProof.Rows L2
/-- the comprehension's block, the suite's pins borne -/
abbrev blkP (X : Cx) (s : Shared) (H : Hp) (scope : Scope) (cenv : Env) (fp : List Addr) : Cx := { X.blk s H scope cenv fp with pn := X.pn }
section
variable {X : Cx} {s s' : Shared} {H H' : Hp} {scope : Scope} {cenv : Env} {fp : List Addr} {pins : List (Addr × Obj)} {σ : L2.St}
theorem Cx.Ok.toP (o : (X.blk s H scope cenv fp).Ok) : (blkP X s H scope cenv fp).Ok :=
  ⟨o.mod, o.kind, o.glob, o.blt, o.above, o.inj, o.has, o.cab, o.hd, o.frames, o.stk, o.exf, o.bs, o.bsz, o.noex, o.exfs, o.funs, o.frf⟩
theorem Cx.Ok.ofP (o : (blkP X s H scope cenv fp).Ok) : (X.blk s H scope cenv fp).Ok :=
  ⟨o.mod, o.kind, o.glob, o.blt, o.above, o.inj, o.has, o.cab, o.hd, o.frames, o.stk, o.exf, o.bs, o.bsz, o.noex, o.exfs, o.funs, o.frf⟩
theorem toP (I : Inv (X.blk s H scope cenv fp) pins σ H' s') (h : ∀ p ∈ X.pn, s'.heap.get? p.1 = some p.2 ∧ H' p.1 = none ∧ p.1 ≠ cenv.locals ∧ p.1 ∉ frs X.stack ∧ ∀ v, p.2.data ≠ .cell v) :
    Inv (blkP X s H scope cenv fp) pins σ H' s' :=
  ⟨Cx.Ok.toP I.ok, I.os, I.bare, I.base, I.loc, I.cell, I.free, I.freeC, fun p hp => (List.mem_append.mp hp).elim (h p) (fun z => I.pin p (List.mem_append_right _ z)), I.hok, I.len⟩
theorem ofP (I : Inv (blkP X s H scope cenv fp) pins σ H' s') : Inv (X.blk s H scope cenv fp) pins σ H' s' :=
  ⟨Cx.Ok.ofP I.ok, I.os, I.bare, I.base, I.loc, I.cell, I.free, I.freeC, fun p hp => (List.mem_append.mp hp).elim (fun z => nomatch z) (fun z => I.pin p (List.mem_append_right _ z)), I.hok, I.len⟩
end
section
variable {X : Cx}
theorem pe_lcH {elt tg iter : Expr} {ifs : List Expr} {scope : Scope} {own : List (Str × Nat)} {pos : Pos} {wi : TI} {g : TG} {tt : TT} {te : TE} (hc : L2H.HotC X) (hN : X.N.Nodup) (hi : L2H.PIH X tg iter wi) (ok : BlkOk X.N X.env.scope scope own)
    (hg : ∀ (s : Shared) (H : Hp) (C : Addr) (cl : List (Str × Addr)) (fp : List Addr), PG (X.blk s H scope (compEnvC scope cl C X.env) fp) tg g)
    (ht : ∀ (s : Shared) (H : Hp) (C : Addr) (cl : List (Str × Addr)) (fp : List Addr), PTs (X.blk s H scope (compEnvC scope cl C X.env) fp) ifs tt)
    (he : ∀ (s : Shared) (H : Hp) (C : Addr) (cl : List (Str × Addr)) (fp : List Addr), PE (X.blk s H scope (compEnvC scope cl C X.env) fp) elt te)
    (hs : ∀ x, foldedSetIterable iter X.env x = pure x := by intro _; rfl) : PE X (.ListComp elt [⟨tg, iter, ifs, 0⟩] scope pos) (tLc wi g tt te (own.map (·.2))) := by
  refine ⟨fun pins s σ H Q I h => ?_⟩
  rw [eval_ListComp]
  have hfree : ∀ y ∈ scope.names, y.2 = .free → ∃ c, X.env.cells.lookup y.1 = some c := by
    intro y hy z
    exact (ok.free y hy z).elim (fun k => I.ok.has _ (.inl k)) (fun k => I.ok.has _ (.inr k))
  refine wpAny_comprehension_free (use := none) rfl hs (closure_ok hfree) ok.kind (fun y hy z => by rw [ok.uniq y hy, z]) (thn (hi.run pins s σ H _ I h) (fun xv s1 hx => thn hx (fun itv s2 h2 => ?_)))
  obtain ⟨it, fp, tn, J, H2, rfl, I2, T, st2, f2, q⟩ := h2
  refine wpAny_newObj_type (newEnv_comp ?_) (by show 0 ≤ sizeLine; decide)
  generalize hD : s2.heap.objs.size = D
  have nD : H2 D = none := I2.hok.fresh (Nat.le_of_eq hD)
  obtain ⟨W, ⟨m0, w0⟩, turn⟩ := q D nD
  generalize hs3 : ({ s2 with heap := s2.heap.push { cls := .type "list", data := .seq ([] : List Value).toArray } } : Shared) = s3
  have e3 : s3.heap = s2.heap.push { cls := .type "list", data := .seq ([] : List Value).toArray } := by rw [← hs3]
  have I3 : Inv X pins σ (upd H2 D (.lst [])) s3 := by
    rw [← hs3]
    refine I2.laid (t' := s2.toks) (fun b o z => Heap.get?_push_of_some _ z) (Nat.le_of_eq hD) ⟨Nat.zero_le _, [], 0, .nil, ?_⟩
    rw [← hD]; exact Heap.get?_push_size _ rfl
  have lt2 : ∀ b ∈ fp, b < s2.heap.objs.size := fun b hb => (T.obj _ _ st2 b hb).elim fun o z => Heap.lt_size z.1
  have f3 : ∀ b ∈ fp, FpOk X pins (upd H2 D (.lst [])) b ∧ b < s3.heap.objs.size := by
    intro b hb
    refine ⟨⟨?_, (f2 b hb).2⟩, by rw [e3, Heap.size_push]; exact Nat.lt_succ_of_lt (lt2 b hb)⟩
    rw [upd_ne (by rw [← hD]; exact Nat.ne_of_lt (lt2 b hb))]
    exact (f2 b hb).1
  have st3 : tn 0 s3.heap := T.keep _ _ _ st2 (fun b _ o z => by rw [e3]; exact Heap.get?_push_of_some _ z)
  have I4 := block_start I3 ok hN f3
  have pg := hg s3 (upd H2 D (.lst [])) s3.heap.objs.size (cellsFrom (s3.heap.objs.size + 1) scope.names (cloFrom X.env.cells scope.names [])) fp
  have pt := ht s3 (upd H2 D (.lst [])) s3.heap.objs.size (cellsFrom (s3.heap.objs.size + 1) scope.names (cloFrom X.env.cells scope.names [])) fp
  have pe := he s3 (upd H2 D (.lst [])) s3.heap.objs.size (cellsFrom (s3.heap.objs.size + 1) scope.names (cloFrom X.env.cells scope.names [])) fp
  show codeAny _ _ (.compStart (.ListComp elt [⟨tg, iter, ifs, 0⟩] scope pos) 0 (.ref it) (.ref D)
    (compEnvC scope (cellsFrom (s3.heap.objs.size + 1) scope.names (cloFrom X.env.cells scope.names [])) s3.heap.objs.size X.env))
    (compPost (model X.prog X.w) X.A X.xe none (EP X pins σ Q) (.ref D) s3.heap.objs.size) { s3 with heap := pushCells (s3.heap.push { cls := .type "dict", data := .dict #[] }) scope.names }
  have nfp : ∀ b ∈ fp, (upd H2 D (.lst [])) b = none := fun b hb => (f3 b hb).1.1
  generalize hce : compEnvC scope (cellsFrom (s3.heap.objs.size + 1) scope.names (cloFrom X.env.cells scope.names [])) s3.heap.objs.size X.env = ce at I4 pg pt pe ⊢
  have cL : ce.locals = s3.heap.objs.size := by subst hce; rfl
  generalize hH3 : upd H2 D (.lst []) = H3 at I3 I4 pg pt pe w0 nfp f3
  generalize hs4 : ({ s3 with heap := pushCells (s3.heap.push { cls := .type "dict", data := .dict #[] }) scope.names } : Shared) = s4 at I4 ⊢
  have st4 : tn 0 s4.heap := T.keep _ _ _ st3 (fun b _ o z => by rw [← hs4]; exact pushCells_keeps _ _ _ _ (Heap.get?_push_of_some _ z))
  -- the suite's pins stand at every turn
  have pinK : ∀ {σ' : L2.St} {H' : Hp} {s' : Shared}, Inv (X.blk s3 H3 scope ce fp) [] σ' H' s' → ∀ p ∈ X.pn, s'.heap.get? p.1 = some p.2 ∧ H' p.1 = none ∧ p.1 ≠ ce.locals ∧ p.1 ∉ frs X.stack ∧ ∀ v, p.2.data ≠ .cell v := by
    intro σ' H' s' J p hp
    obtain ⟨g1, g2, g3, g4, g5⟩ := I3.pin p (List.mem_append_left _ hp)
    have ns : p.1 ∉ frs X.stack := fun z => (List.mem_cons.mp (I3.stkSub p.1 z)).elim g3 g4
    have nf : p.1 ∉ fp := fun z => (f3 p.1 z).1.2.2.2.2.2 p (List.mem_append_left _ hp) rfl
    exact ⟨J.base.keep p.1 p.2 g1 g2 ns nf, J.base.free p.1 p.2 g1 g2 nf, by rw [cL]; exact Nat.ne_of_lt (Heap.lt_size g1), ns, g5⟩
  have stat : ∀ {σ' : L2.St} {H' : Hp} {s' : Shared}, Inv (X.blk s3 H3 scope ce fp) [] σ' H' s' → (∀ b ∈ fp, H' b = none) → ∀ b ∈ fp, FpOk (blkP X s3 H3 scope ce fp) [] H' b := by
    intro σ' H' s' J hn b hb
    refine ⟨hn b hb, (J.ok.exf b hb).1, J.ok.exfs b hb, .inl hb, fun x c z => (J.ok.exf b hb).2 x c z, fun p hp => ?_⟩
    have hp' : p ∈ X.pn := by simpa using hp
    exact (f3 b hb).1.2.2.2.2.2 p (List.mem_append_left _ hp')
  have stat0 : ∀ {σ' : L2.St} {H' : Hp} {s' : Shared}, Inv (X.blk s3 H3 scope ce fp) [] σ' H' s' → (∀ b ∈ fp, H' b = none) → ∀ b ∈ fp, FpOk (X.blk s3 H3 scope ce fp) [] H' b := by
    intro σ' H' s' J hn b hb
    exact ⟨hn b hb, (J.ok.exf b hb).1, J.ok.exfs b hb, .inl hb, fun x c z => (J.ok.exf b hb).2 x c z, fun p hp => absurd (show p ∈ ([] : List (Addr × Obj)) ++ [] from hp) (by simp)⟩
  have hcb : L2H.HotC (blkP X s3 H3 scope ce fp) := hc
  have loop : codeAny (model X.prog X.w) X.A (.compLoop (.ListComp elt [⟨tg, iter, ifs, 0⟩] scope pos) 0 (.ref it) (.ref D) ce) (compPost (model X.prog X.w) X.A X.xe none (EP X pins σ Q) (.ref D) s3.heap.objs.size) s4 := by
    refine compLoop_any (fun n s' => ∃ i H', Inv (X.blk s3 H3 scope ce fp) [] (wipe σ (own.map (·.2))) H' s' ∧ tn i s'.heap ∧ (∀ b ∈ fp, H' b = none) ∧ W i n H') ?_ m0 ⟨0, H3, I4, st4, nfp, w0⟩
    rintro n s5 ⟨i, H5, I5, st5, n5, w5⟩
    rcases turn i n H5 w5 with ⟨stop, qq⟩ | ⟨go, Nx, hNx, step⟩
    · refine thnF (T.done (blkP X s3 H3 scope ce fp) rfl rfl rfl hcb i [] s5 _ H5 (fun _ _ => False) (toP I5 (pinK I5)) (stat I5 n5) st5 stop) (fun r s6 hr => ?_)
      obtain ⟨rfl, I6p⟩ := hr
      have I6 := ofP I6p
      have I7 : Inv X pins σ H5 s6 := I3.call' (ch := fp) I6.os I6.base I6.hok I6.bare (fun b hb => ⟨(f3 b hb).1.2.2.2.1, (f3 b hb).1.2.1, (f3 b hb).1.2.2.2.2.1, (f3 b hb).1.2.2.2.2.2⟩)
      have nC : H5 s3.heap.objs.size = none := by
        have z : H5 ce.locals = none := I6.free
        rw [cL] at z; exact z
      obtain ⟨m, hn, _⟩ := I6.loc
      have hn : s6.heap.Ns ce.locals m := hn
      rw [cL] at hn
      obtain ⟨k0, k1, k2, k3, k4, k5⟩ := I3.fpOk (Nat.le_refl _) nC
      exact ⟨m, hn, fun h'' sb => ⟨.ref D, H5, I7.turned (t' := s6.toks) (fun b o hb z => (sb.2 b hb).trans z) k0 k1 k3 k4 k5, rfl, qq⟩⟩
    · refine thnF (T.item (blkP X s3 H3 scope ce fp) rfl rfl rfl hcb i [] s5 _ H5 (fun _ _ => False) (toP I5 (pinK I5)) (stat I5 n5) st5 go) (fun r s6 hr => ?_)
      obtain ⟨u, rfl, h6⟩ := hr
      refine thnF h6 (fun _ s7 h7 => ?_)
      obtain ⟨x, H7, I7p, r7, y7, st7, n7⟩ := h7
      have I7 := ofP I7p
      have I7' := I7.pinned (stat0 I7 n7) (T.obj _ _ st7)
      refine thnF (pg.run _ s7 _ H7 x u _ I7' r7 (step x H7 y7)) (fun _ s8 h8 => ?_)
      obtain ⟨σ8, H8, I8, hw8, q8⟩ := h8
      refine thnF (pt.run _ s8 σ8 H8 _ I8 q8) (fun b s9 h9 => ?_)
      obtain ⟨H9, I9, q9⟩ := h9
      have fin : ∀ {s' : Shared} {H' : Hp}, Inv (X.blk s3 H3 scope ce fp) ([] ++ pinsAt fp s7.heap) σ8 H' s' → Nx H' →
          ∃ m, m < n ∧ ∃ i H', Inv (X.blk s3 H3 scope ce fp) [] (wipe σ (own.map (·.2))) H' s' ∧ tn i s'.heap ∧ (∀ b ∈ fp, H' b = none) ∧ W i m H' := by
        intro s' H' J nx
        obtain ⟨m', hm, w'⟩ := hNx H' nx
        have pin' : ∀ b ∈ fp, ∀ o, s7.heap.get? b = some o → s'.heap.get? b = some o ∧ H' b = none := fun b hb o z =>
          let y := J.pin (b, o) (List.mem_append_right _ (List.mem_append_right _ (mem_pinsAt hb z)))
          ⟨y.1, y.2.1⟩
        have hl : (wipe σ (own.map (·.2))).length = σ8.length := by rw [← hw8, wipe_length]
        refine ⟨m', hm, i + 1, H', (J.unpinned (pins := [])).weak hl (fun j v z => ?_), T.keep _ _ _ st7 (fun b hb o z => (pin' b hb o z).1), fun b hb => ?_, w'⟩
        · rw [← hw8] at z
          exact (wipe_some z).1
        · obtain ⟨o, z, _⟩ := T.obj _ _ st7 b hb
          exact (pin' b hb o z).2
      cases b with
      | false =>
        simp only [Bool.false_eq_true, if_false] at q9 ⊢
        exact fin I9 q9
      | true =>
        simp only [if_true] at q9 ⊢
        refine thnF (pe.run _ s9 σ8 H9 _ I9 q9) (fun z s10 h10 => ?_)
        obtain ⟨yv, H10, I10, r10, acc, hD10, hz10, nx⟩ := h10
        exact app_ok (X := X.blk s3 H3 scope ce fp) I10 hD10 hz10 r10 (fun s11 I11 => fin I11 nx)
  exact codeAny_compStart_list loop (T.self X.A 0 _ _ _ st4 loop)
end
end Wk
/-! The end of a law, the guards known. -/
namespace Wk
open PySem PySem.Spec PyProof.Rows L2
theorem law_callC {P : Program} {w : World} {K : PySem.W.Frag} {mg mb : Str → Option Value} {k : Nat} {fa a : Addr} {fd : FuncData} {x : Str} {sp : Sp} {s₁ : Shared} {vs : List Value} {ns : List Int}
    (KX : K.In s₁.heap) (hns : s₁.heap.Ns mainGlobals mg) (hb : s₁.heap.Ns builtinsNs mb) (hbb : ∀ x : Str, x ≠ "__name__" → mb x = bootBuiltins x) (hlim : s₁.heap.NoLimit) (hg : s₁.gens = #[])
    (ha : s₁.heap.get? a = some { cls := .type "list", data := .seq vs.toArray }) (hi : IntsAre vs ns) (hl : ns.length ≤ sizeLine) (hr : Room k callerA)
    (F : ∀ base : Heap, K.In base → base.Ns mainGlobals mg → FnC P w K mg base CX0 k fa fd [x] sp) (hbind : ∀ (s : Shared) (u : Value), BindsTo s fd ⟨[u], []⟩ [(x, u)])
    (hsp : ∀ H : Hp, Only H → SqL K H a (ns.map V.int) → sp [.ref a] H (fun v _ => v = .bl true) fun _ _ _ => False) :
    codeAny (model P w) callerA (.call (.ref fa) ⟨[.ref a], []⟩) (fun r s' => r = .ok (.ret (.bool true)) ∧ OldK s₁.heap s'.heap ∧ s'.os = s₁.os ∧ AllBare s'.gens) s₁ := by
  have rints := vals_ints hi
  have hlen := hi.length
  have main : ∀ H : Hp, Only H → SqL K H a (ns.map V.int) → HOk P w H s₁.heap → (∀ b, H b ≠ none → b = a) → (H a ≠ none → K.lookup a = none) →
      codeAny (model P w) callerA (.call (.ref fa) ⟨[.ref a], []⟩) (fun r s' => r = .ok (.ret (.bool true)) ∧ OldK s₁.heap s'.heap ∧ s'.os = s₁.os ∧ AllBare s'.gens) s₁ := by
    intro H hO hS hok hA hK
    have free : ∀ {b : Addr} {o : Obj} {es : Array DictEntry} {ep : Nat}, s₁.heap.get? b = some o → o.data = .dict es ep → H b = none := by
      intro b o es ep e d
      cases q : H b with
      | none => rfl
      | some u =>
        have hba : b = a := hA b (by rw [q]; exact fun z => nomatch z)
        rw [hba, ha] at e
        cases e
        exact nomatch (show Data.seq vs.toArray _ = Data.dict es ep from d)
    have nsH : ∀ {b : Addr} {m : Str → Option Value}, s₁.heap.Ns b m → (hidT s₁.heap H).Ns b m := by
      rintro b m ⟨o, es, ep, e, d, r⟩
      exact ⟨o, es, ep, hidT_get e (free e d), d, r⟩
    have kinH : K.In (hidT s₁.heap H) := by
      intro b o e
      refine hidT_get (KX b o e) ?_
      cases q : H b with
      | none => rfl
      | some u =>
        have hba : b = a := hA b (by rw [q]; exact fun z => nomatch z)
        rw [hba] at e q
        rw [hK (by rw [q]; exact fun z => nomatch z)] at e
        exact nomatch e
    have hM : Mod K mg (hidT s₁.heap H) := ⟨kinH, nsH hns, ⟨mb, nsH hb, hbb⟩, let ⟨mc, h1, h2⟩ := hlim; ⟨mc, nsH h1, h2⟩⟩
    have e0 : Env0 P w K mg (hidT s₁.heap H) callerA [] s₁ H := ⟨rfl, hM, fun b o e => of_hidT e, Nat.le_of_eq (hidT_size _ _), trivial, (fun b hb => nomatch (show b ∈ ([] : List Addr) from hb)), hok, .of_eq hg⟩
    refine codeAny_mono ((F _ kinH (nsH hns)).run callerA [] s₁ H ⟨[.ref a], []⟩ [.ref a] [.ref a] _ _ hr rfl e0 (hbind s₁ (.ref a)) (.cons rfl .nil) (hsp H hO hS)) (fun r s' h => ?_)
    match r, h with
    | .ok (.ret u), h =>
      obtain ⟨v, H', os, bare, un, hok', r', q⟩ := h
      have q' : v = .bl true := q
      subst q'
      obtain rfl : u = Value.bool true := r'
      refine ⟨rfl, OldK.of_keep (fun b o e => ?_), os, bare⟩
      cases q : H b with
      | none => exact un.keep b o e q (fun z => nomatch (show b ∈ ([] : List Addr) from z)) (fun z => nomatch z)
      | some u =>
        rcases hO b with z | ⟨ob, xs, z⟩
        · rw [q] at z; exact nomatch z
        · obtain ⟨e1, _⟩ := hok b _ z
          obtain ⟨e2, _⟩ := hok' b _ (un.frzs b ob _ z)
          rw [e] at e1
          rw [Option.some.inj e1]; exact e2
  cases hk : K.lookup a with
  | some o =>
    have e := (KX a o hk).symm.trans ha
    cases e
    exact main (fun _ => none) (fun _ => .inl rfl) (.inr ⟨_, vs.toArray, _, hk, rfl, rfl, rfl, by rw [List.size_toArray, hlen]; exact hl, by simpa using rints⟩) (fun b u z => nomatch (show (none : Option HO) = some u from z)) (fun b z => absurd rfl z) (fun z => absurd rfl z)
  | none =>
    refine main (fun b => if b = a then some (.frz { cls := .type "list", data := .seq vs.toArray } (.lst (ns.map V.int))) else none) (fun b => ?_) (.inl (.inr ⟨{ cls := .type "list", data := .seq vs.toArray }, if_pos rfl⟩)) (fun b u z => ?_) (fun b z => ?_) (fun _ => hk)
    · by_cases hba : b = a
      · exact .inr ⟨_, _, if_pos hba⟩
      · exact .inl (if_neg hba)
    · by_cases hba : b = a
      · have z' := (if_pos hba).symm.trans z
        cases z'
        rw [hba]
        exact ⟨ha, by rw [List.length_map]; exact hl, vs, _, rints, ha⟩
      · exact nomatch (if_neg hba).symm.trans z
    · by_cases hba : b = a
      · exact hba
      · exact absurd (if_neg hba) z
theorem walk_ofC {l : PySem.W.OpenLaw} {n k : Nat} {q : Program} {loose : List Str} {XP : (Str → Option Value) → Heap → Prop} {YP : World → Heap → Prop} {d : DefRec} {K : Params → PySem.W.Frag} {sp : World → Sp} {x : Str}
    (hn : l.most = some n) (hn2 : n ≤ sizeLine) (hdf : d.params.defaults = []) (hr : Room k callerA) (hY : ∀ (w : World) (h : Heap), YP w h → (K w.params).In h)
    (F : ∀ (w : World) (mg : Str → Option Value) (fa : Addr) (h : Heap), (K w.params).In h → h.Ns mainGlobals mg → mg d.name = some (.ref fa) →
      ∃ fd : FuncData, (∀ (s : Shared) (u : Value), BindsTo s fd ⟨[u], []⟩ [(x, u)]) ∧ ∀ base : Heap, (K w.params).In base → base.Ns mainGlobals mg → FnC l.prog w (K w.params) mg base CX0 k fa fd [x] (sp w))
    (hsp : ∀ (w : World) (H : Hp) (a : Addr) (ns : List Int), ns.length ≤ n → Only H → SqL (K w.params) H a (ns.map V.int) → sp w [.ref a] H (fun v _ => v = .bl true) fun _ _ _ => False) :
    PySem.W.WalkO q loose XP YP l.row.toRowW d [] (fun f vs => PySem.call f vs) := by
  refine Att.attach_call hn hdf (fun w s₀ s₁ mg mb fa o pm cd doc a vs ns G Y ho hd hcd hmg hobj hints hlen hg => ?_)
  have KX := hY w _ Y
  obtain ⟨fd, hb, hF⟩ := F w mg fa _ KX G.T.g hmg
  exact law_callC KX G.T.g G.T.b G.T.builtins G.T.nolimit hg hobj hints (Nat.le_trans hlen hn2) hr hF hb (fun H hO hS => hsp w H a ns hlen hO hS)
end Wk
/-! The bag of draws: made of the script, drawn from. -/
namespace T11
open PySem PySem.Spec PyProof.Rows L2 Wk
def top (i : Nat) : Stmt := PySem.Challenge.pw_contentties_k11_errors_apart.main.body.getD i (.Pass ⟨0, 0, 0, 0⟩)
abbrev sBag : Stmt := top 14
abbrev sTake : Stmt := top 15
/-! ### the data -/
/-- a bag stands at b: three numbers and the script's sizes; at most n of them were taken -/
structure BagAt (H : Hp) (b l : Addr) (n : Nat) : Prop where
  ex : ∃ (x0 x1 x2 : Int) (cs : List Int), H b = some (.lst [.int x0, .int x1, .int x2, .ref l]) ∧ H l = some (.lst (cs.map V.int)) ∧ (∀ c ∈ cs, 0 ≤ c) ∧ 0 ≤ x0 ∧ 0 ≤ x1 ∧ x1 < 2147483647 ∧ 0 ≤ x2 ∧ x2 ≤ n ∧ cs.length ≤ 63
theorem BagAt.mono {H : Hp} {b l : Addr} {n m : Nat} (B : BagAt H b l n) (h : n ≤ m) : BagAt H b l m := by
  obtain ⟨x0, x1, x2, cs, h1, h2, h3, h4, h5, h6, h7, h8, h9⟩ := B.ex
  exact ⟨x0, x1, x2, cs, h1, h2, h3, h4, h5, h6, h7, by omega, h9⟩
theorem BagAt.same {H H' : Hp} {b l : Addr} {n : Nat} (B : BagAt H b l n) (h : Same H H') : BagAt H' b l n := by
  obtain ⟨x0, x1, x2, cs, h1, h2, h3⟩ := B.ex
  exact ⟨x0, x1, x2, cs, h _ _ h1, h _ _ h2, h3⟩
/-- all that was tracked stands, but at b -/
def But (b : Addr) (H H' : Hp) : Prop := ∀ c o, c ≠ b → H c = some o → H' c = some o
theorem But.refl (b : Addr) (H : Hp) : But b H H := fun _ _ _ h => h
theorem But.trans {b : Addr} {H H1 H2 : Hp} (x : But b H H1) (y : But b H1 H2) : But b H H2 := fun c o hc h => y c o hc (x c o hc h)
theorem But.of {b : Addr} {H H' : Hp} (x : Same H H') : But b H H' := fun c o _ h => x c o h
theorem But.upd (b : Addr) (H : Hp) (o : HO) : But b H (upd H b o) := fun c u hc h => by rw [upd_ne hc]; exact h
theorem same_upd {H : Hp} {p : Addr} {o : HO} (h : H p = none) : Same H (upd H p o) := fun b x e => by
  rw [upd_ne (ne_of_none e h)]
  exact e
/-! ### promises -/
def spBag (K : PySem.W.Frag) : Sp := fun vs H Q _ => ∃ (a : Addr) (ns : List Int), vs = [.ref a] ∧ SqL K H a (ns.map V.int) ∧ ns.length ≤ 63 ∧ ∀ (H' : Hp) (b l : Addr), Same H H' → H b = none → BagAt H' b l 0 → Q (.ref b) H'
def spTake : Sp := fun vs H Q _ => ∃ (b l : Addr) (m : Int) (n : Nat), vs = [.ref b, .int m] ∧ 0 < m ∧ m < 2 ^ 62 ∧ BagAt H b l n ∧ n ≤ 1000000 ∧
  ∀ (r : Int) (H' : Hp), 0 ≤ r → r < m → BagAt H' b l (n + 1) → But b H H' → Q (.int r) H'
theorem scB : FnScope ["_law_script", "_law_cell"] ["_law_script"] (defScope sBag) := ⟨rfl, rfl, rfl, by decide +kernel, rfl, by decide +kernel, by decide +kernel⟩
theorem cut63 (xs : List V) : cutV xs none (some 63) = xs.take 63 := by
  unfold cutV
  rw [HT.sIx_none, show HT.sIx xs.length xs.length (some 63) = min 63 xs.length from HT.sIx_nat xs.length xs.length 63]
  rw [List.drop_zero, Nat.sub_zero]
  by_cases h : xs.length ≤ 63
  · rw [Nat.min_eq_right h, List.take_of_length_le (Nat.le_refl _), List.take_of_length_le h]
  · rw [Nat.min_eq_left (by omega)]
section
variable {P : Program} {w : World} {K : PySem.W.Frag} {mg : Str → Option Value} {base : Heap}
theorem ok_bag {f : Addr} {fd : FuncData} {k : Nat} (F : Fun K "_law_bag" "_law_bag" sBag f fd) (ma : mg "abs" = none) : FnOk P w K mg base CX0 (k + 1) f fd ["_law_script"] (spBag K) := by
  refine F.ok scB (fun vs H Q E h => ?_) (fun cdv A outer s H vs Q E hr h => ?_)
  · obtain ⟨a, ns, rfl, _⟩ := h
    rfl
  · obtain ⟨a, ns, rfl, hS, hlen, q⟩ := h
    refine ⟨_, pss_one (ps_ret (pe_lst (pa_cons pe_int (pa_cons pe_int (pa_cons pe_int (pa_cons
      (pe_lc (own := [("_law_cell", 1)]) (g := gName 1) (tt := tYes) rfl scB.nd (pi_list (pe_slice sl_list (pv 0) po_none (po_some pe_int))) (blkOk_by (N := ["_law_script", "_law_cell"]) (sc := defScope sBag) (by decide +kernel))
        (fun _ _ _ _ _ => pg_name (i := 1) scB.nd rfl (Or.inl rfl)) (fun _ _ _ _ _ => pts_nil) (fun _ _ _ _ _ => pe_callB call_abs (by rfl) ma (by decide +kernel) (pa_cons (pv 1) pa_nil))) pa_nil)))))), ?_⟩
    refine ⟨.ref a, rfl, 63, rfl, a, ns.map V.int, rfl, hS, fun c nc => ?_⟩
    refine ⟨c, rfl, ⟨_, .inl (.inl upd_same)⟩, fun D nD => ?_⟩
    rw [cut63, ← List.map_take]
    rw [cut63, ← List.map_take] at nD
    generalize hcs : ns.take 63 = cs at nD ⊢
    have hl : cs.length ≤ 63 := by rw [← hcs, List.length_take]; omega
    have ncD : c ≠ D := ne_of_none upd_same nD
    have s1 : Same H (upd H c (.lst (cs.map V.int))) := same_upd nc
    have nD0 : H D = none := s1.free nD
    refine lc_list (K := K) (a := c) (xs := cs.map V.int) (fun i H2 => Same H H2 ∧ H2 c = some (.lst (cs.map V.int)) ∧ H2 D = some (.lst (((cs.take i).map fun z => if z < 0 then -z else z).map V.int))) ?_ (fun i H2 _ h2 => .inl (.inl h2.2.1)) ?_ ?_
    · exact ⟨fun b o z => by rw [upd_ne (ne_of_none z nD0)]; exact s1 b o z, by rw [upd_ne ncD]; exact upd_same, by rw [upd_same]; rfl⟩
    · rintro i x H2 hx ⟨g1, g2, g3⟩
      obtain ⟨z, hz, rfl⟩ : ∃ z, cs[i]? = some z ∧ x = V.int z := by
        rw [List.getElem?_map] at hx
        cases e : cs[i]? with
        | none => rw [e] at hx; cases hx
        | some z => rw [e] at hx; exact ⟨z, rfl, (Option.some.inj hx).symm⟩
      have hi : i < cs.length := (List.getElem?_eq_some_iff.mp hz).1
      refine ⟨rfl, .int z, rfl, z, rfl, _, g3, ?_, ?_, ?_, ?_⟩
      · rw [List.length_map, List.length_map, List.length_take]
        exact Nat.lt_of_le_of_lt (Nat.min_le_left _ _) (small1000 (by omega))
      · intro b o e
        rw [upd_ne (ne_of_none e nD0)]
        exact g1 b o e
      · rw [upd_ne ncD]; exact g2
      · rw [upd_same, List.take_add_one, hz, List.map_append, List.map_append]
        rfl
    · rintro H2 ⟨g1, g2, g3⟩
      rw [List.length_map, List.take_length] at g3
      refine ⟨(by show 4 ≤ sizeLine; decide), fun b nb => ?_⟩
      refine q _ b D (fun x o e => by rw [upd_ne (ne_of_none (g1 x o e) nb)]; exact g1 x o e) (g1.free nb) ⟨0, 1234567891, 0, _, upd_same, by rw [upd_ne (ne_of_none g3 nb)]; exact g3, ?_, by decide, by decide, by decide, by decide, by decide, by rw [List.length_map]; exact hl⟩
      intro y hy
      obtain ⟨z, _, rfl⟩ := List.mem_map.mp hy
      split <;> omega
end
end T11
namespace T11
open PySem PySem.Spec PyProof.Rows L2 Wk
/-- o[i] of a list, i from 0 on -/
def rGetN : V → V → Hp → VK → Prop := fun o i H Q => ∃ (p : Addr) (xs : List V) (j : Nat) (v : V), o = .ref p ∧ i = .int (j : Int) ∧ H p = some (.lst xs) ∧ xs[j]? = some v ∧ Q v H
theorem get_list {X : Cx} : PGet X rGetN := by
  intro pins s σ H o i ov iv Q I ro ri h
  obtain ⟨p, xs, j, v, rfl, rfl, hp, hv, q⟩ := h
  cases (show ov = Value.ref p from ro)
  obtain ⟨t, rfl⟩ := (show ∃ t, iv = Value.int (j : Int) t from ri)
  obtain ⟨its, r, pl, hz⟩ := I.list (.inl (.inl hp))
  obtain ⟨u, hu, ru⟩ := r.get hv
  have hj : j < xs.length := (List.getElem?_eq_some_iff.mp hv).1
  rw [sizeLine_eq] at hz
  exact wpAny_getItem_list pl.isList (by omega) (by omega) (by simpa using hu) ⟨v, H, I, ru, q⟩
theorem scT : FnScope ["_law_bag_here", "_law_many", "_law_cell", "_law_mixed", "_law_drawn", "_law_early", "_law_second"] ["_law_bag_here", "_law_many"] (defScope sTake) := ⟨rfl, rfl, rfl, by decide +kernel, rfl, by decide +kernel, by decide +kernel⟩
/-- the bag's parts, as they stand -/
structure Parts (H : Hp) (b l : Addr) (x0 x1 x2 : Int) (cs : List Int) : Prop where
  hb : H b = some (.lst [.int x0, .int x1, .int x2, .ref l])
  hl : H l = some (.lst (cs.map V.int))
  c0 : ∀ c ∈ cs, 0 ≤ c
  cl : cs.length ≤ 63
theorem Parts.ne {H : Hp} {b l : Addr} {x0 x1 x2 : Int} {cs : List Int} (p : Parts H b l x0 x1 x2 cs) : l ≠ b := fun e => by
  have h1 := p.hb
  have h2 := p.hl
  rw [e, h1] at h2
  have h3 := HO.lst.inj (Option.some.inj h2)
  match cs, h3 with
  | [a, c, d, f], h3 => simp at h3
theorem Parts.put {H : Hp} {b l : Addr} {x0 x1 x2 : Int} {cs : List Int} (p : Parts H b l x0 x1 x2 cs) (y0 y1 y2 : Int) : Parts (upd H b (.lst [.int y0, .int y1, .int y2, .ref l])) b l y0 y1 y2 cs :=
  ⟨upd_same, by rw [upd_ne p.ne]; exact p.hl, p.c0, p.cl⟩
section
variable {P : Program} {w : World} {K : PySem.W.Frag} {mg : Str → Option Value} {base : Heap}
theorem ok_take {f : Addr} {fd : FuncData} {k : Nat} (F : Fun K "_law_take" "_law_take" sTake f fd) (ml : mg "len" = none) (mi : mg "int" = none) : FnOk P w K mg base CX0 (k + 1) f fd ["_law_bag_here", "_law_many"] spTake := by
  refine F.ok scT (fun vs H Q E h => ?_) (fun cdv A outer s H vs Q E hr h => ?_)
  · obtain ⟨b, l, m, n, rfl, _⟩ := h
    rfl
  · obtain ⟨b, l, m, n, rfl, m0, m1, B, hn, q⟩ := h
    refine ⟨_, C8.pss_cut (ps_if (pt_cmpR op_eq (pe_ix ix_list (pv 0) pe_int (fun _ _ => rfl)) pe_int (nomark _))
        (pss_cons (ps_set (i := 2) scT.nd rfl (Or.inl rfl) pe_int)
        (C8.pss_cut (ps_if (pt_cmpR op_lt (pe_ix ix_list (pv 0) pe_int (fun _ _ => rfl)) (pe_callB call_len_seq (by rfl) ml PySem.boot_len (pa_cons (pe_ix ix_list (pv 0) pe_int (fun _ _ => rfl)) pa_nil)) (nomark _))
          (pss_one (ps_set (i := 2) scT.nd rfl (Or.inl rfl) (pe_ix ix_list (pe_ix ix_list (pv 0) pe_int (fun _ _ => rfl)) (pe_ix ix_list (pv 0) pe_int (fun _ _ => rfl)) (fun _ _ => rfl)))) pss_nil)
        (pss_cons (ps_augS (pv 0) pe_int get_list pe_int ip_add set_list)
        (C8.pss_cut (ps_if (pt_cmpR op_ge (pv 2) pe_int (nomark _)) (pss_one (ps_asg (pv 2) (pg_sub (pv 0) pe_int set_list))) pss_nil)
        (pss_cons (ps_set (i := 3) scT.nd rfl (Or.inl rfl) (pe_op op_add (pe_op op_add (pe_op op_mul (pe_ix ix_list (pv 0) pe_int (fun _ _ => rfl)) pe_int)
            (pe_op op_mod (pe_callTy call_int1 (by rfl) mi (by decide +kernel) (pa_cons (pv 2) pa_nil)) pe_int)) (pe_op op_mul pe_int (pe_ix ix_list (pv 0) pe_int (fun _ _ => rfl)))))
        (pss_one (ps_asg (pe_op op_mod (pe_callTy call_int1 (by rfl) mi (by decide +kernel) (pa_cons (pv 3) pa_nil)) pe_int) (pg_sub (pv 0) pe_int set_list)))))))) pss_nil)
      (pss_cons (ps_if (pt_cmpR op_gt (pe_ix ix_list (pv 0) pe_int (fun _ _ => rfl)) pe_int (nomark _))
        (pss_cons (ps_set (i := 4) scT.nd rfl (Or.inl rfl) (pe_op op_mod (pe_callTy call_int1 (by rfl) mi (by decide +kernel) (pa_cons (pe_ix ix_list (pv 0) pe_int (fun _ _ => rfl)) pa_nil)) (pv 1)))
        (pss_cons (ps_asg (pe_op op_fdivW (pe_callTy call_int1 (by rfl) mi (by decide +kernel) (pa_cons (pe_ix ix_list (pv 0) pe_int (fun _ _ => rfl)) pa_nil)) (pv 1)) (pg_sub (pv 0) pe_int set_list))
        (pss_one (ps_ret (pv 4))))) pss_nil)
      (pss_cons (ps_set (i := 5) scT.nd rfl (Or.inl rfl) (pe_op op_mod (pe_callTy call_int1 (by rfl) mi (by decide +kernel) (pa_cons (pe_op op_mul (pe_op op_add (pe_ix ix_list (pv 0) pe_int (fun _ _ => rfl)) pe_int) pe_int) pa_nil)) pe_int))
      (pss_cons (ps_set (i := 6) scT.nd rfl (Or.inl rfl) (pe_op op_mod (pe_callTy call_int1 (by rfl) mi (by decide +kernel) (pa_cons (pe_op op_mul (pe_op op_mod (pe_callTy call_int1 (by rfl) mi (by decide +kernel)
          (pa_cons (pe_op op_mul (pv 5) (pv 5)) pa_nil)) pe_int) pe_int) pa_nil)) pe_int))
      (pss_one (ps_ret (pe_op op_mod (pe_callTy call_int1 (by rfl) mi (by decide +kernel) (pa_cons (pe_op op_fdiv (pv 6) pe_int) pa_nil)) (pv 1))))))), ?_⟩
    obtain ⟨x0, x1, x2, cs, h1, h2, h3, h4, h5, h6, h7, h8, h9⟩ := B.ex
    have p0 : Parts H b l x0 x1 x2 cs := ⟨h1, h2, h3, h9⟩
    -- behind the first if
    refine ⟨fun σ H2 => ∃ (v2 v3 : Option V) (y0 y1 y2 : Int), σ = [some (.ref b), some (.int m), v2, v3, none, none, none] ∧ Parts H2 b l y0 y1 y2 cs ∧ 0 ≤ y0 ∧ 0 ≤ y1 ∧ y1 < 2147483647 ∧ 0 ≤ y2 ∧ y2 ≤ n + 1 ∧ But b H H2, ?_, ?_⟩
    · refine ⟨_, rfl, b, _, 0, _, rfl, rfl, .inl (.inl h1), rfl, rfl, _, rfl, ?_⟩
      refine ite2 (fun hc => ?_) (fun hc => ?_)
      · -- cell
        refine ⟨fun σ H2 => ∃ c : Int, 0 ≤ c ∧ σ = [some (.ref b), some (.int m), some (.int c), none, none, none, none] ∧ H2 = H, ?_, ?_⟩
        · refine ⟨_, rfl, b, _, 2, _, rfl, rfl, .inl (.inl h1), rfl, _, rfl, b, _, 3, _, rfl, rfl, .inl (.inl h1), rfl, l, _, rfl, .inl (.inl (.inl h2)), _, _, rfl, rfl, _, rfl, ?_⟩
          refine ite2 (fun hi => ?_) (fun hi => ?_)
          · have hi' : x2 < (cs.length : Int) := by simpa using hi
            have hx : (x2.toNat : Int) = x2 := Int.toNat_of_nonneg h7
            have hlt : x2.toNat < cs.length := by omega
            have e : (cs.map V.int)[x2.toNat]? = some (V.int cs[x2.toNat]) := by rw [List.getElem?_map, List.getElem?_eq_getElem hlt]; rfl
            have a1 := atI_nat e
            rw [hx] at a1
            refine ⟨_, rfl, b, _, 3, _, rfl, rfl, .inl (.inl h1), rfl, _, rfl, b, _, 2, _, rfl, rfl, .inl (.inl h1), rfl, l, _, x2, _, rfl, rfl, .inl (.inl h2), a1, cs[x2.toNat], h3 _ (List.getElem_mem hlt), rfl, rfl⟩
          · exact ⟨0, by decide, rfl, rfl⟩
        · rintro σ H2 ⟨c, hc0, rfl, hH⟩
          rw [hH]
          have e2 : ([V.int x0, V.int x1, V.int x2, V.ref l] : List V)[2]? = some (V.int x2) := rfl
          refine ⟨_, rfl, b, _, 2, _, rfl, rfl, h1, e2, x2, 1, rfl, rfl, b, _, 2, 2, rfl, rfl, h1, rfl, ?_⟩
          refine ⟨fun σ H2 => ∃ y0 : Int, 0 ≤ y0 ∧ σ = [some (.ref b), some (.int m), some (.int c), none, none, none, none] ∧ Parts H2 b l y0 x1 (x2 + 1) cs ∧ But b H H2, ?_, ?_⟩
          · refine ⟨_, rfl, _, _, rfl, rfl, _, rfl, ?_⟩
            refine ite2 (fun _ => ?_) (fun _ => ?_)
            · refine ⟨_, rfl, _, rfl, b, _, 0, 0, rfl, rfl, upd_same, rfl, ?_⟩
              rw [upd_upd]
              exact ⟨c, hc0, rfl, p0.put c x1 (x2 + 1), But.upd _ _ _⟩
            · exact ⟨x0, h4, rfl, p0.put x0 x1 (x2 + 1), But.upd _ _ _⟩
          · rintro σ H2 ⟨y0, g0, rfl, p, bt⟩
            refine ⟨_, rfl, b, _, 1, _, rfl, rfl, .inl (.inl p.hb), rfl, x1, 48271, rfl, rfl, .inr ⟨by decide, by decide⟩, _, rfl, .inl ⟨c, rfl, _, _, rfl, rfl, (by show (0 : Int) < 2147483647; decide), _, _, rfl, rfl,
              _, rfl, b, _, 2, _, rfl, rfl, .inl (.inl p.hb), rfl, _, _, rfl, rfl, .inl ⟨by decide, by decide⟩, _, _, rfl, rfl, ?_⟩⟩
            refine ⟨_, rfl, .inl ⟨_, rfl, _, _, rfl, rfl, (by show (0 : Int) < 2147483647; decide), _, rfl, b, _, 1, 1, rfl, rfl, p.hb, rfl, ?_⟩⟩
            exact ⟨_, _, y0, _, x2 + 1, rfl, p.put y0 _ (x2 + 1), g0, Int.emod_nonneg _ (by decide), Int.emod_lt_of_pos _ (by decide), by omega, by omega, bt.trans (But.upd _ _ _)⟩
      · refine ⟨none, none, x0, x1, x2, rfl, p0, h4, h5, h6, h7, by omega, But.refl b H⟩
    · rintro σ H2 ⟨v2, v3, y0, y1, y2, rfl, p, g0, g1, g2, g3, g4, bt⟩
      refine ⟨_, rfl, b, _, 0, _, rfl, rfl, .inl (.inl p.hb), rfl, _, _, rfl, rfl, _, rfl, ?_⟩
      refine ite2 (fun _ => ?_) (fun _ => ?_)
      · refine ⟨_, rfl, b, _, 0, _, rfl, rfl, .inl (.inl p.hb), rfl, .inl ⟨y0, rfl, _, rfl, _, _, rfl, rfl, m0, ?_⟩⟩
        refine ⟨_, rfl, b, _, 0, _, rfl, rfl, .inl (.inl p.hb), rfl, .inl ⟨y0, rfl, _, rfl, _, _, rfl, rfl, wide_div (b := 62) m0 (by omega) (by decide) (by decide), ?_⟩⟩
        refine ⟨_, rfl, b, _, 0, 0, rfl, rfl, p.hb, rfl, ?_⟩
        refine ⟨_, rfl, ?_⟩
        have pp := p.put (y0 / m) y1 y2
        exact q _ _ (Int.emod_nonneg _ (by omega)) (Int.emod_lt_of_pos _ m0) ⟨y0 / m, y1, y2, cs, pp.hb, pp.hl, h3, Int.ediv_nonneg g0 (by omega), g1, g2, g3, by omega, h9⟩ (bt.trans (But.upd _ _ _))
      · refine ⟨_, rfl, b, _, 1, _, rfl, rfl, .inl (.inl p.hb), rfl, _, _, rfl, rfl, _, _, rfl, rfl, .inr ⟨by decide, by decide⟩, .inl ⟨_, rfl, _, _, rfl, rfl, (by show (0 : Int) < 1000000007; decide), ?_⟩⟩
        generalize he : (y1 + 1) * 39373 % 1000000007 = e5
        have b5 : 0 ≤ e5 ∧ e5 < 1000000007 := by rw [← he]; exact ⟨Int.emod_nonneg _ (by decide), Int.emod_lt_of_pos _ (by decide)⟩
        refine ⟨_, rfl, _, rfl, _, _, rfl, rfl, .inl ⟨by omega, by omega⟩, .inl ⟨_, rfl, _, _, rfl, rfl, (by show (0 : Int) < 998244353; decide), _, _, rfl, rfl, .inr ⟨by decide, by decide⟩, .inl ⟨_, rfl, _, _, rfl, rfl, (by show (0 : Int) < 998244353; decide), ?_⟩⟩⟩
        refine ⟨_, rfl, _, _, rfl, rfl, ⟨by decide, by decide⟩, .inl ⟨_, rfl, _, rfl, _, _, rfl, rfl, m0, ?_⟩⟩
        exact q _ _ (Int.emod_nonneg _ (by omega)) (Int.emod_lt_of_pos _ m0) ⟨y0, y1, y2, cs, p.hb, p.hl, h3, g0, g1, g2, g3, by omega, h9⟩ bt
end
end T11
/-! The values that are drawn. -/
namespace T11
open PySem PySem.Spec PyProof.Rows L2 Wk
abbrev sOne : Stmt := top 16
abbrev sValue : Stmt := top 23
/-- the signs of a list of data -/
def cost : List PyData → Nat
  | [] => 0
  | d :: ds => d.shown.length + 2 + cost ds
theorem textFrom_le : ∀ (ts : List Str) (k : Nat) (acc : Str), (textFrom k acc ts).length ≤ acc.length + (ts.map fun t => t.length + 2).sum
  | [], _, acc => by simp [textFrom]
  | t :: r, k, acc => by
    have ih := textFrom_le r (k + 1) (acc ++ (if k > 0 then ", " else "" : String) ++ t)
    have e : (((if k > 0 then ", " else "" : String) : Str)).length ≤ 2 := by split <;> decide +kernel
    rw [strLen_append, strLen_append] at ih
    rw [List.map_cons, List.sum_cons]
    refine Nat.le_trans (show (textFrom k acc (t :: r)).length ≤ _ from ih) ?_
    omega
theorem listText_le (ds : List PyData) : (listText (PyData.shownAll ds)).length ≤ 2 + cost ds := by
  have h := textFrom_le (PyData.shownAll ds) 0 "["
  have e : ((PyData.shownAll ds).map fun t => t.length + 2).sum = cost ds := by
    induction ds with
    | nil => rfl
    | cons d ds ih =>
      show (((d.shown :: PyData.shownAll ds)).map fun t => t.length + 2).sum = d.shown.length + 2 + cost ds
      rw [List.map_cons, List.sum_cons, ih]
      · exact textFrom_le _ 0 "["
  unfold listText
  rw [strLen_append]
  have e1 : ((("[" : String) : Str)).length = 1 := rfl
  have e2 : ((("]" : String) : Str)).length = 1 := rfl
  omega
/-- a drawn value stands -/
inductive VOk (H : Hp) : V → Prop
  | non : VOk H .non
  | bl (b : Bool) : VOk H (.bl b)
  | int (i : Int) (h1 : i.natAbs.log2 < 1920) (h2 : (PyData.int i).shown.length ≤ 100) : VOk H (.int i)
  | str (x : Str) (h : (PyData.str x).shown.length ≤ 100) : VOk H (.str x)
  | tup {a : Addr} {vs : List V} {ds : List PyData} (ha : H a = some (.tup vs)) (hd : RpAll H vs ds) (h1 : PyData.showableAll ds = true) (h2 : PyData.depthAll ds ≤ 8) (h3 : (PyData.tuple ds).shown.length ≤ 100) : VOk H (.ref a)
  | dic {a : Addr} {es : List (Key × V)} {ps : List (PyData × PyData)} (ha : H a = some (.dK es)) (hd : RpKv H es ps) (h1 : PyData.showableKv ps = true) (h2 : PyData.depthKv ps ≤ 8) (h3 : (PyData.dict ps).shown.length ≤ 100) : VOk H (.ref a)
  | lst {a : Addr} {vs : List V} {ds : List PyData} {Hm : Hp} (ha : H a = some (.lst vs)) (hm : Hm a = none) (hs : Same Hm H) (hd : RpAll Hm vs ds) (h1 : PyData.showableAll ds = true) (h2 : PyData.depthAll ds ≤ 8) (h3 : cost ds ≤ 98) (h4 : vs.length ≤ 10) : VOk H (.ref a)
/-- .. of objects of its own, that were not tracked in H -/
def Own (H H' : Hp) (v : V) : Prop := ∃ Hv : Hp, VOk Hv v ∧ Same Hv H' ∧ ∀ c o, H c = some o → Hv c = none
/-- what is new -/
def fresh (H H' : Hp) : Hp := fun c => match H c with
  | none => H' c
  | some _ => none
theorem fresh_new {H H' : Hp} {c : Addr} (h : H c = none) : fresh H H' c = H' c := by unfold fresh; rw [h]
theorem fresh_old {H H' : Hp} {c : Addr} {o : HO} (h : H c = some o) : fresh H H' c = none := by unfold fresh; rw [h]
theorem fresh_same {H H' : Hp} : Same (fresh H H') H' := fun c o h => by
  unfold fresh at h
  split at h
  · exact h
  · cases h
def spOne : Sp := fun vs H Q _ => ∃ (b l mn : Addr) (xs : List V) (n : Nat), vs = [.ref b, .ref mn] ∧ mn ≠ b ∧ H mn = some (.lst xs) ∧ xs ≠ [] ∧ xs.length ≤ 1000 ∧ BagAt H b l n ∧ n ≤ 1000000 ∧
  ∀ (v : V) (H' : Hp), v ∈ xs → BagAt H' b l (n + 1) → But b H H' → Q v H'
def spValue : Sp := fun vs H Q _ => ∃ (b l : Addr) (n : Nat), vs = [.ref b] ∧ BagAt H b l n ∧ n ≤ 999990 ∧
  ∀ (v : V) (H' : Hp), Own H H' v → BagAt H' b l (n + 4) → But b H H' → Q v H'
theorem scO : FnScope ["_law_bag_here", "_law_menu"] ["_law_bag_here", "_law_menu"] (defScope sOne) := ⟨rfl, rfl, rfl, by decide +kernel, rfl, by decide +kernel, by decide +kernel⟩
theorem scV : FnScope ["_law_bag_here", "_law_xs", "_law_texts"] ["_law_bag_here"] (defScope sValue) := ⟨rfl, rfl, rfl, by decide +kernel, rfl, by decide +kernel, by decide +kernel⟩
section
variable {P : Program} {w : World} {K : PySem.W.Frag} {mg : Str → Option Value} {base : Heap}
theorem ok_one {f ft : Addr} {fd fdt : FuncData} {k : Nat} (F : Fun K "_law_one" "_law_one" sOne f fd) (GT : FnOk P w K mg base CX0 k ft fdt ["_law_bag_here", "_law_many"] spTake) (gT : mg "_law_take" = some (.ref ft)) (kT : PySem.W.keepIn K (.ref ft) = true)
    (bT : Binds K fdt ["_law_bag_here", "_law_many"] []) (ml : mg "len" = none) : FnOk P w K mg base CX0 (k + 1) f fd ["_law_bag_here", "_law_menu"] spOne := by
  refine F.ok scO (fun vs H Q E h => ?_) (fun cdv A outer s H vs Q E hr h => ?_)
  · obtain ⟨b, l, mn, xs, n, rfl, _⟩ := h
    rfl
  · obtain ⟨b, l, mn, xs, n, rfl, ne, hm, hx, hl, B, hn, q⟩ := h
    refine ⟨_, pss_one (ps_ret (pe_ix ix_list (pv 1) (pe_call GT hr rfl gT kT bT .nil pass0 (pa_cons (pv 0) (pa_cons (pe_callB call_len_seq (by rfl) ml PySem.boot_len (pa_cons (pv 1) pa_nil)) pa_nil))) (fun _ _ => rfl))), ?_⟩
    have h0 : 0 < xs.length := List.length_pos_iff.mpr hx
    refine ⟨.ref mn, rfl, .ref b, rfl, .ref mn, rfl, mn, xs, rfl, .inl (.inl (.inl hm)), b, l, (xs.length : Int), n, rfl, by omega, by omega, B, hn, fun r H' r0 r1 B' bt => ?_⟩
    have hr' : (r.toNat : Int) = r := Int.toNat_of_nonneg r0
    have hlt : r.toNat < xs.length := by omega
    have a1 := atI_nat (List.getElem?_eq_getElem hlt)
    rw [hr'] at a1
    exact ⟨mn, xs, r, _, rfl, rfl, .inl (.inl (bt mn _ ne hm)), a1, q _ _ (List.getElem_mem hlt) B' bt⟩
end
end T11
namespace T11
open PySem PySem.Spec PyProof.Rows L2 Wk
theorem small_int : ∀ n : Nat, n < 1000 → (PyData.int (n : Int)).shown.length ≤ 100 := by
  have h : ∀ n : _root_.Fin 1000, (PyData.int ((n.val : Nat) : Int)).shown.length ≤ 100 := by decide +kernel
  exact fun n hn => h ⟨n, hn⟩
/-- ways from one heap to a later one, b's own content aside -/
structure Way (b : Addr) (H H' : Hp) : Prop where
  but : But b H H'
  has : ∀ o, H b = some o → ∃ o', H' b = some o'
theorem Way.trans {b : Addr} {H H1 H2 : Hp} (x : Way b H H1) (y : Way b H1 H2) : Way b H H2 := ⟨x.but.trans y.but, fun o h => let ⟨o1, h1⟩ := x.has o h; y.has o1 h1⟩
theorem Way.new {b p : Addr} {H : Hp} {o : HO} (h : H p = none) : Way b H (upd H p o) := ⟨But.of (same_upd h), fun o' h' => ⟨o', same_upd h b o' h'⟩⟩
theorem Way.bag {b l : Addr} {H H' : Hp} {n : Nat} (h : But b H H') (B : BagAt H' b l n) : Way b H H' := ⟨h, fun _ _ => let ⟨_, _, _, _, h1, _⟩ := B.ex; ⟨_, h1⟩⟩
theorem Way.free {b l : Addr} {H H' : Hp} {n : Nat} (B : BagAt H b l n) (x : Way b H H') {p : Addr} (h : H' p = none) : p ≠ b ∧ H p = none := by
  obtain ⟨_, _, _, _, h1, _⟩ := B.ex
  have hp : p ≠ b := fun e => by
    obtain ⟨o, ho⟩ := x.has _ h1
    rw [e, ho] at h; cases h
  refine ⟨hp, ?_⟩
  cases e : H p with
  | none => rfl
  | some o => rw [x.but p o hp e] at h; cases h
theorem BagAt.way {b l p : Addr} {H : Hp} {n : Nat} {o : HO} (B : BagAt H b l n) (h : H p = none) : BagAt (upd H p o) b l n := B.same (same_upd h)
theorem step {b l p : Addr} {H Hc : Hp} {m n : Nat} (o : HO) (B0 : BagAt H b l m) (W : Way b H Hc) (Bc : BagAt Hc b l n) (np : Hc p = none) :
    ∃ Hn, upd Hc p o = Hn ∧ p ≠ b ∧ H p = none ∧ Hn p = some o ∧ Way b Hc Hn ∧ Way b H Hn ∧ BagAt Hn b l n :=
  ⟨_, rfl, (W.free B0 np).1, (W.free B0 np).2, upd_same, Way.new np, W.trans (Way.new np), Bc.way np⟩
theorem stepD {b l p7 p8 : Addr} {H H11 H12 H13 : Hp} {m n : Nat} {o1 o2 : HO} (o : HO) (B0 : BagAt H b l m) (w11 : Way b H H11) (B11 : BagAt H11 b l n) (n7 : H11 p7 = none) (e12 : upd H11 p7 o1 = H12) (n8 : H12 p8 = none) (e13 : upd H12 p8 o2 = H13) :
    ∃ H14, upd H13 p7 o = H14 ∧ p7 ≠ p8 ∧ H14 p7 = some o ∧ H14 p8 = some o2 ∧ Way b H11 H14 ∧ Way b H H14 ∧ BagAt H14 b l n := by
  subst e12
  subst e13
  have ne : p7 ≠ p8 := ne_of_none upd_same n8
  have s1 : Same H11 (upd (upd (upd H11 p7 o1) p8 o2) p7 o) := fun c u h => by
    have c7 : c ≠ p7 := ne_of_none h n7
    have c8 : c ≠ p8 := ne_of_none (same_upd n7 c u h) n8
    rw [upd_ne c7, upd_ne c8, upd_ne c7]; exact h
  have ww : Way b H11 (upd (upd (upd H11 p7 o1) p8 o2) p7 o) := ⟨But.of s1, fun u h => ⟨u, s1 b u h⟩⟩
  exact ⟨_, rfl, ne, upd_same, by rw [upd_ne ne.symm]; exact upd_same, ww, w11.trans ww, B11.same s1⟩
section
variable {P : Program} {w : World} {K : PySem.W.Frag} {mg : Str → Option Value} {base : Heap}
theorem ok_value {f ft fo : Addr} {fd fdt fdo : FuncData} {k : Nat} (F : Fun K "_law_value" "_law_value" sValue f fd) (GT : FnOk P w K mg base CX0 k ft fdt ["_law_bag_here", "_law_many"] spTake) (gT : mg "_law_take" = some (.ref ft)) (kT : PySem.W.keepIn K (.ref ft) = true)
    (bT : Binds K fdt ["_law_bag_here", "_law_many"] []) (GO : FnOk P w K mg base CX0 (k + 1) fo fdo ["_law_bag_here", "_law_menu"] spOne) (gO : mg "_law_one" = some (.ref fo)) (kO : PySem.W.keepIn K (.ref fo) = true)
    (bO : Binds K fdo ["_law_bag_here", "_law_menu"] []) : FnOk P w K mg base CX0 (k + 2) f fd ["_law_bag_here"] spValue := by
  refine F.ok scV (fun vs H Q E h => ?_) (fun cdv A outer s H vs Q E hr h => ?_)
  · obtain ⟨b, l, n, rfl, _⟩ := h
    rfl
  · obtain ⟨b, l, n, rfl, B, hn, q⟩ := h
    have hr0 : Room k _ := hr.mono (Nat.le_succ _)
    refine ⟨_, pss_cons (ps_set (i := 1) scV.nd rfl (Or.inl rfl) (pe_lst (pa_cons pe_int (pa_cons pe_int (pa_cons (pe_un un_neg pe_int) (pa_cons (pe_op op_pow pe_int pe_int)
        (pa_cons (pe_call GT hr0 rfl gT kT bT .nil pass0 (pa_cons (pv 0) (pa_cons pe_int pa_nil))) pa_nil)))))))
      (pss_cons (ps_set (i := 2) scV.nd rfl (Or.inl rfl) (pe_lst (pa_cons pe_str (pa_cons pe_str (pa_cons pe_str (pa_cons pe_str pa_nil))))))
      (pss_one (ps_ret (pe_call GO hr rfl gO kO bO .nil pass0 (pa_cons (pv 0) (pa_cons (pe_lst
        (pa_cons pe_non (pa_cons pe_bl (pa_cons pe_bl
        (pa_cons (pe_call GO hr rfl gO kO bO .nil pass0 (pa_cons (pv 0) (pa_cons (pv 1) pa_nil)))
        (pa_cons (pe_call GO hr rfl gO kO bO .nil pass0 (pa_cons (pv 0) (pa_cons (pv 2) pa_nil)))
        (pa_cons (pe_tup pa_nil)
        (pa_cons (pe_tup (pa_cons pe_int (pa_cons (pe_tup (pa_cons pe_int (pa_cons pe_int pa_nil))) pa_nil)))
        (pa_cons (pe_lst pa_nil)
        (pa_cons (pe_lst (pa_cons pe_int pa_nil))
        (pa_cons pe_dnewK
        (pa_cons (pe_disp (pps_cons pe_str (pe_lst (pa_cons pe_int pa_nil)) pps_nil) (by rfl) (by rfl) (fun z => by cases z) (by decide))
        (pa_cons (pe_tup (pa_cons (pe_tup (pa_cons pe_int pa_nil)) (pa_cons (pe_tup (pa_cons pe_int pa_nil)) pa_nil)))
        (pa_cons (pe_lst (pa_cons (pe_lst pa_nil) (pa_cons (pe_tup pa_nil) pa_nil))) pa_nil)))))))))))))) pa_nil)))))), ?_⟩
    -- xs
    refine ⟨1, rfl, 10, 30, rfl, rfl, ⟨by decide, by decide, by decide⟩, .ref b, rfl, b, l, 1000, n, rfl, by decide, by decide, B, by omega, fun r H1 r0 r1 B1 bt1 => ?_⟩
    have w1 : Way b H H1 := .bag bt1 B1
    refine ⟨(by show 5 ≤ sizeLine; decide), fun px npx => ?_⟩
    obtain ⟨H2, e2, bx, ox, gx, u2, w2, B2⟩ := step (.lst [V.int 0, V.int 1, V.int (-1), V.int (10 ^ (30 : Int).toNat), V.int r]) B w1 B1 npx
    refine ⟨(by show 4 ≤ sizeLine; decide), fun pt npt => ?_⟩
    rw [e2] at npt
    obtain ⟨H3, e3, bt, ot, gt, u3, w3, B3⟩ := step (.lst [V.str "", V.str "a", V.str "place", V.str "at 0 3"]) B w2 B2 npt
    refine ⟨.ref b, rfl, .ref b, rfl, .ref px, rfl, ?_⟩
    rw [e2, e3]
    refine ⟨b, l, px, _, n + 1, rfl, bx, u3.but px _ bx gx, (fun z => nomatch z), (by show 5 ≤ 1000; decide), B3, by omega, fun v1 H4 hv1 B4 c4 => ?_⟩
    have u4 : Way b H3 H4 := .bag c4 B4
    have w4 := w3.trans u4
    refine ⟨.ref b, rfl, .ref pt, rfl, b, l, pt, _, n + 2, rfl, bt, u4.but pt _ bt gt, (fun z => nomatch z), (by show 4 ≤ 1000; decide), B4, by omega, fun v2 H5 hv2 B5 c5 => ?_⟩
    have u5 : Way b H4 H5 := .bag c5 B5
    have w5 := w4.trans u5
    -- (), (0, (1, 2))
    refine ⟨Nat.zero_le _, fun p1 n1 => ?_⟩
    obtain ⟨H6, e6, b1, o1, g1, u6, w6, B6⟩ := step (.tup []) B w5 B5 n1
    rw [e6]
    refine ⟨(by show 2 ≤ sizeLine; decide), fun p2 n2 => ?_⟩
    obtain ⟨H7, e7, b2, o2, g2, u7, w7, B7⟩ := step (.tup [V.int 1, V.int 2]) B w6 B6 n2
    rw [e7]
    refine ⟨(by show 2 ≤ sizeLine; decide), fun p3 n3 => ?_⟩
    obtain ⟨H8, e8, b3, o3, g3, u8, w8, B8⟩ := step (.tup [V.int 0, V.ref p2]) B w7 B7 n3
    rw [e8]
    -- [], [3]
    refine ⟨Nat.zero_le _, fun p4 n4 => ?_⟩
    obtain ⟨H9, e9, b4, o4, g4, u9, w9, B9⟩ := step (.lst []) B w8 B8 n4
    rw [e9]
    refine ⟨(by show 1 ≤ sizeLine; decide), fun p5 n5 => ?_⟩
    obtain ⟨H10, e10, b5, o5, g5, u10, w10, B10⟩ := step (.lst [V.int 3]) B w9 B9 n5
    rw [e10]
    -- {}, {'a': [1]}
    intro p6 n6
    obtain ⟨H11, e11, b6, o6, g6, u11, w11, B11⟩ := step (.dK []) B w10 B10 n6
    rw [e11]
    intro p7 n7
    obtain ⟨H12, e12, b7, o7, g7, u12, w12, B12⟩ := step (.dK []) B w11 B11 n7
    rw [e12]
    refine ⟨(by show 1 ≤ sizeLine; decide), fun p8 n8 => ?_⟩
    obtain ⟨H13, e13, b8, o8, g8, u13, w13, B13⟩ := step (.lst [V.int 1]) B w12 B12 n8
    rw [e13]
    refine ⟨u13.but p7 _ b7 g7, [(Sum.inr "a", V.ref p8)], rfl, (by show 1 ≤ 15; decide), ?_⟩
    obtain ⟨H14, e14, ne78, k7, k8, u14, w14, B14⟩ := stepD (.dK [(Sum.inr "a", V.ref p8)]) B w11 B11 n7 e12 n8 e13
    rw [show mergeK [] [((Sum.inr "a" : Key), V.ref p8)] = [((Sum.inr "a" : Key), V.ref p8)] from rfl, e14]
    -- ((0,), (1,))
    refine ⟨(by show 1 ≤ sizeLine; decide), fun p9 n9 => ?_⟩
    obtain ⟨H15, e15, b9, o9, g9, u15, w15, B15⟩ := step (.tup [V.int 0]) B w14 B14 n9
    rw [e15]
    refine ⟨(by show 1 ≤ sizeLine; decide), fun p10 n10 => ?_⟩
    obtain ⟨H16, e16, b10, o10, g10, u16, w16, B16⟩ := step (.tup [V.int 1]) B w15 B15 n10
    rw [e16]
    refine ⟨(by show 2 ≤ sizeLine; decide), fun p11 n11 => ?_⟩
    obtain ⟨H17, e17, b11, o11, g11, u17, w17, B17⟩ := step (.tup [V.ref p9, V.ref p10]) B w16 B16 n11
    rw [e17]
    -- [[], ()]
    refine ⟨Nat.zero_le _, fun p12 n12 => ?_⟩
    obtain ⟨H18, e18, b12, o12, g12, u18, w18, B18⟩ := step (.lst []) B w17 B17 n12
    rw [e18]
    refine ⟨Nat.zero_le _, fun p13 n13 => ?_⟩
    obtain ⟨H19, e19, b13, o13, g13, u19, w19, B19⟩ := step (.tup []) B w18 B18 n13
    rw [e19]
    refine ⟨(by show 2 ≤ sizeLine; decide), fun p14 n14 => ?_⟩
    obtain ⟨H20, e20, b14, o14, g14, u20, w20, B20⟩ := step (.lst [V.ref p12, V.ref p13]) B w19 B19 n14
    rw [e20]
    -- the menu
    refine ⟨(by show 13 ≤ sizeLine; decide), fun pm nm => ?_⟩
    obtain ⟨H21, e21, bm, om, gm, u21, w21, B21⟩ := step (.lst [V.non, V.bl true, V.bl false, v1, v2, V.ref p1, V.ref p3, V.ref p4, V.ref p5, V.ref p6, V.ref p7, V.ref p11, V.ref p14]) B w20 B20 nm
    rw [e21]
    refine ⟨b, l, pm, _, n + 3, rfl, bm, gm, (fun z => nomatch z), (by show 13 ≤ 1000; decide), B21, by omega, fun v Hf hv Bf cf => ?_⟩
    have z21 : Way b H21 Hf := .bag cf Bf
    have z20 := u21.trans z21
    have z19 := u20.trans z20
    have z18 := u19.trans z19
    have z17 := u18.trans z18
    have z16 := u17.trans z17
    have z15 := u16.trans z16
    have z14 := u15.trans z15
    have z11 := u14.trans z14
    have z10 := u11.trans z11
    have z9 := u10.trans z10
    have z8 := u9.trans z9
    have z7 := u8.trans z8
    have z6 := u7.trans z7
    have wf : Way b H Hf := w21.trans z21
    refine q v Hf ⟨fresh H Hf, ?_, fresh_same, fun c o h => fresh_old h⟩ Bf wf.but
    have k1 : fresh H Hf p1 = some (.tup []) := by rw [fresh_new o1]; exact z6.but _ _ b1 g1
    have k2 : fresh H Hf p2 = some (.tup [V.int 1, V.int 2]) := by rw [fresh_new o2]; exact z7.but _ _ b2 g2
    have k3 : fresh H Hf p3 = some (.tup [V.int 0, V.ref p2]) := by rw [fresh_new o3]; exact z8.but _ _ b3 g3
    have k4 : fresh H Hf p4 = some (.lst []) := by rw [fresh_new o4]; exact z9.but _ _ b4 g4
    have k5 : fresh H Hf p5 = some (.lst [V.int 3]) := by rw [fresh_new o5]; exact z10.but _ _ b5 g5
    have k6 : fresh H Hf p6 = some (.dK []) := by rw [fresh_new o6]; exact z11.but _ _ b6 g6
    have k7' : fresh H Hf p7 = some (.dK [(Sum.inr "a", V.ref p8)]) := by rw [fresh_new o7]; exact z14.but _ _ b7 k7
    have k8' : fresh H Hf p8 = some (.lst [V.int 1]) := by rw [fresh_new o8]; exact z14.but _ _ b8 k8
    have k9 : fresh H Hf p9 = some (.tup [V.int 0]) := by rw [fresh_new o9]; exact z15.but _ _ b9 g9
    have k10 : fresh H Hf p10 = some (.tup [V.int 1]) := by rw [fresh_new o10]; exact z16.but _ _ b10 g10
    have k11 : fresh H Hf p11 = some (.tup [V.ref p9, V.ref p10]) := by rw [fresh_new o11]; exact z17.but _ _ b11 g11
    have k12 : fresh H Hf p12 = some (.lst []) := by rw [fresh_new o12]; exact z18.but _ _ b12 g12
    have k13 : fresh H Hf p13 = some (.tup []) := by rw [fresh_new o13]; exact z19.but _ _ b13 g13
    have k14 : fresh H Hf p14 = some (.lst [V.ref p12, V.ref p13]) := by rw [fresh_new o14]; exact z20.but _ _ b14 g14
    have ne12 : p12 ≠ p14 := ne_of_none (u19.but _ _ b12 g12) n14
    have ne13 : p13 ≠ p14 := ne_of_none g13 n14
    simp only [List.mem_cons, List.not_mem_nil, or_false] at hv
    rcases hv with rfl | rfl | rfl | rfl | rfl | rfl | rfl | rfl | rfl | rfl | rfl | rfl | rfl
    · exact .non
    · exact .bl _
    · exact .bl _
    · simp only [List.mem_cons, List.not_mem_nil, or_false] at hv1
      rcases hv1 with rfl | rfl | rfl | rfl | rfl
      · exact .int _ (by decide +kernel) (by decide +kernel)
      · exact .int _ (by decide +kernel) (by decide +kernel)
      · exact .int _ (by decide +kernel) (by decide +kernel)
      · exact .int _ (by decide +kernel) (by decide +kernel)
      · obtain ⟨m, rfl⟩ := Int.eq_ofNat_of_zero_le r0
        have hm : m < 1000 := by omega
        refine .int _ ?_ (small_int m hm)
        have h2 : (m : Int).natAbs < 2 ^ 10 := by omega
        exact Nat.lt_trans (PySem.Flt.log2_lt_of (by decide) h2) (by decide)
    · simp only [List.mem_cons, List.not_mem_nil, or_false] at hv2
      rcases hv2 with rfl | rfl | rfl | rfl
      all_goals exact .str _ (by decide +kernel)
    · exact .tup k1 .nil rfl (by decide +kernel) (by decide +kernel)
    · exact .tup k3 (.cons (.int 0) (.cons (.tup k2 (.cons (.int 1) (.cons (.int 2) .nil))) .nil)) (by decide +kernel) (by decide +kernel) (by decide +kernel)
    · exact .lst (Hm := fun _ => none) k4 rfl (fun _ _ z => nomatch z) .nil rfl (by decide +kernel) (by decide +kernel) (by decide)
    · exact .lst (Hm := fun _ => none) k5 rfl (fun _ _ z => nomatch z) (.cons (.int 3) .nil) (by decide +kernel) (by decide +kernel) (by decide +kernel) (by show 1 ≤ 10; decide)
    · exact .dic k6 .nil rfl (by decide +kernel) (by decide +kernel)
    · exact .dic k7' (.cons (.lst k8' (.cons (.int 1) .nil)) .nil) (by decide +kernel) (by decide +kernel) (by decide +kernel)
    · exact .tup k11 (.cons (.tup k9 (.cons (.int 0) .nil)) (.cons (.tup k10 (.cons (.int 1) .nil)) .nil)) (by decide +kernel) (by decide +kernel) (by decide +kernel)
    · refine .lst (Hm := fun c => if c = p14 then none else fresh H Hf c) k14 (if_pos rfl) (fun c o z => ?_) (.cons (.lst (by rw [if_neg ne12]; exact k12) .nil) (.cons (.tup (by rw [if_neg ne13]; exact k13) .nil) .nil)) (by decide +kernel) (by decide +kernel) (by decide +kernel) (by show 2 ≤ 10; decide)
      have z' : (if c = p14 then none else fresh H Hf c) = some o := z
      by_cases hc : c = p14
      · rw [if_pos hc] at z'; cases z'
      · rw [if_neg hc] at z'; exact z'
end
end T11
/-! The classes of errors, made and raised. -/
namespace T11
open PySem PySem.Spec PyProof.Rows L2 Wk
abbrev bmVE : List Value := [.type "ValueError", .type "Exception", .type "BaseException", .type "object"]
/-- the fields of an error of the k-th class, as its own dict has them -/
def flds : Nat → V → V → List (Str × V)
  | 0, x, _ => [("place", x)]
  | 1, x, _ => [("limit", x)]
  | 2, x, _ => [("at", x)]
  | 3, x, _ => [("pair", x)]
  | 4, x, y => [("other", y), ("one", x)]
  | 5, x, y => [("lots", y), ("row", x)]
  | 6, x, _ => [("index", x)]
  | 7, x, _ => [("kept", x)]
  | 8, x, _ => [("line", x)]
  | 9, x, _ => [("line", x)]
  | _, _, _ => []
/-- the values of its fields -/
def vals : Nat → V → V → List V
  | 4, x, y => [x, y]
  | 5, x, y => [x, y]
  | 10, _, _ => []
  | _, x, _ => [x]
/-- what the top has written of the classes: cs their addresses (11: the base), fi the addresses of their __init__ -/
structure Txt (K : PySem.W.Frag) (mg : Str → Option Value) (cs fi : Nat → Addr) : Prop where
  g0 : mg "Wrong" = some (.ref (cs 0))
  g1 : mg "TooMany" = some (.ref (cs 1))
  g2 : mg "BadTie" = some (.ref (cs 2))
  g3 : mg "TooFew" = some (.ref (cs 3))
  g4 : mg "Unequal" = some (.ref (cs 4))
  g5 : mg "Barred" = some (.ref (cs 5))
  g6 : mg "NoIndex" = some (.ref (cs 6))
  g7 : mg "NoChoice" = some (.ref (cs 7))
  g8 : mg "NoText" = some (.ref (cs 8))
  g9 : mg "NoCommand" = some (.ref (cs 9))
  g10 : mg "Nothing" = some (.ref (cs 10))
  g11 : mg "ContentError" = some (.ref (cs 11))
  ox : ∀ k, k < 10 → OexC K (cs k)
  xi : ∀ k, k < 10 → PySem.W.findIn K (.ref (cs k)) "__init__" = some (some (.ref (fi k)))
  ti : ∀ k, k < 10 → PySem.W.typeIn K (.ref (fi k)) = some (.type "function")
  xf : ∀ k, k < 10 → XfC K (cs k)
  xc : ∀ k, k < 12 → ExcC K (cs k)
  kp : ∀ k, k < 12 → PySem.W.keepIn K (.ref (cs k)) = true
  no : ∀ k, k < 10 → ∀ p ∈ flds k .non .non, PySem.W.findIn K (.ref (cs k)) p.1 = some none
  kit : ∀ j k, j < 11 → k < 12 → PySem.W.kitOne K (.ref (cs k)) (.ref (cs j)) = some (decide (j = k))
  kitB : ∀ k, k < 11 → PySem.W.kitOne K (.ref (cs k)) (.ref (cs 11)) = some true
  kitV : ∀ k, k < 12 → PySem.W.kitOne K (.ref (cs k)) (.type "ValueError") = some true
  e10 : PySem.W.excIn K (cs 10) bmVE "ValueError.__new__" = true
  e11 : PySem.W.excIn K (cs 11) bmVE "ValueError.__new__" = true
  exC : ∀ k, k < 12 → PySem.W.subIn K (.ref (cs k)) (.type "BaseException") = some true
  tyC : ∀ k, k < 12 → PySem.W.typeIn K (.ref (cs k)) = some (.type "type")
  exm : ∀ k, k < 12 → PySem.W.exmOne K (.ref (cs k)) (.ref (cs 11)) = some true
  mlen : mg "len" = none
  mint : mg "int" = none
  mabs : mg "abs" = none
  mrep : mg "repr" = none
  misi : mg "isinstance" = none
  mran : mg "range" = none
  mlis : mg "list" = none
  mval : mg "ValueError" = none
/-! ### the makers -/
def spI1 (C : Addr) (f : Str) : Sp := fun vs H Q _ => ∃ (a : Addr) (y : V), vs = [.ref a, y] ∧ H a = some (exo a C none) ∧ ∀ dx, H dx = none → dx ≠ a → Q .non (upd (upd H dx (exd dx [(f, y)])) a (exo a C (some dx)))
def spI2 (C : Addr) (f g : Str) : Sp := fun vs H Q _ => ∃ (a : Addr) (y z : V), vs = [.ref a, y, z] ∧ H a = some (exo a C none) ∧
  ∀ dx, H dx = none → dx ≠ a → Q .non (upd (upd (upd H dx (exd dx [(f, y)])) a (exo a C (some dx))) dx (exd dx [(g, z), (f, y)]))
section
variable {P : Program} {w : World} {K : PySem.W.Frag} {mg : Str → Option Value} {base : Heap} {cs fi : Nat → Addr}
abbrev sI0 : Stmt := inClass (top 2) 0
theorem scI0 : FnScope ["self", "place"] ["self", "place"] (defScope sI0) := ⟨rfl, rfl, rfl, by decide +kernel, rfl, by decide +kernel, by decide +kernel⟩
theorem ok_i0 {fd : FuncData} (F : Fun K "__init__" "Wrong.__init__" sI0 (fi 0) fd) (T : Txt K mg cs fi) : FnOk P w K mg base CX0 1 (fi 0) fd ["self", "place"] (spI1 (cs 0) "place") := by
  refine F.ok scI0 (fun vs H Q E h => ?_) (fun cdv A outer s H vs Q E hr h => ?_)
  · obtain ⟨a, y, rfl, _⟩ := h
    rfl
  · obtain ⟨a, y, rfl, ha, q⟩ := h
    refine ⟨_, pss_one (ps_ost (pv 0) (pv 1)), ?_⟩
    exact ⟨_, rfl, _, rfl, a, cs 0, rfl, T.ox 0 (by decide), T.no 0 (by decide) _ List.mem_cons_self, .inl ⟨ha, fun dx n ne => q dx n ne⟩⟩
abbrev sI1 : Stmt := inClass (top 3) 0
theorem scI1 : FnScope ["self", "limit"] ["self", "limit"] (defScope sI1) := ⟨rfl, rfl, rfl, by decide +kernel, rfl, by decide +kernel, by decide +kernel⟩
theorem ok_i1 {fd : FuncData} (F : Fun K "__init__" "TooMany.__init__" sI1 (fi 1) fd) (T : Txt K mg cs fi) : FnOk P w K mg base CX0 1 (fi 1) fd ["self", "limit"] (spI1 (cs 1) "limit") := by
  refine F.ok scI1 (fun vs H Q E h => ?_) (fun cdv A outer s H vs Q E hr h => ?_)
  · obtain ⟨a, y, rfl, _⟩ := h
    rfl
  · obtain ⟨a, y, rfl, ha, q⟩ := h
    refine ⟨_, pss_one (ps_ost (pv 0) (pv 1)), ?_⟩
    exact ⟨_, rfl, _, rfl, a, cs 1, rfl, T.ox 1 (by decide), T.no 1 (by decide) _ List.mem_cons_self, .inl ⟨ha, fun dx n ne => q dx n ne⟩⟩
abbrev sI2 : Stmt := inClass (top 4) 0
theorem scI2 : FnScope ["self", "at"] ["self", "at"] (defScope sI2) := ⟨rfl, rfl, rfl, by decide +kernel, rfl, by decide +kernel, by decide +kernel⟩
theorem ok_i2 {fd : FuncData} (F : Fun K "__init__" "BadTie.__init__" sI2 (fi 2) fd) (T : Txt K mg cs fi) : FnOk P w K mg base CX0 1 (fi 2) fd ["self", "at"] (spI1 (cs 2) "at") := by
  refine F.ok scI2 (fun vs H Q E h => ?_) (fun cdv A outer s H vs Q E hr h => ?_)
  · obtain ⟨a, y, rfl, _⟩ := h
    rfl
  · obtain ⟨a, y, rfl, ha, q⟩ := h
    refine ⟨_, pss_one (ps_ost (pv 0) (pv 1)), ?_⟩
    exact ⟨_, rfl, _, rfl, a, cs 2, rfl, T.ox 2 (by decide), T.no 2 (by decide) _ List.mem_cons_self, .inl ⟨ha, fun dx n ne => q dx n ne⟩⟩
abbrev sI3 : Stmt := inClass (top 5) 0
theorem scI3 : FnScope ["self", "pair"] ["self", "pair"] (defScope sI3) := ⟨rfl, rfl, rfl, by decide +kernel, rfl, by decide +kernel, by decide +kernel⟩
theorem ok_i3 {fd : FuncData} (F : Fun K "__init__" "TooFew.__init__" sI3 (fi 3) fd) (T : Txt K mg cs fi) : FnOk P w K mg base CX0 1 (fi 3) fd ["self", "pair"] (spI1 (cs 3) "pair") := by
  refine F.ok scI3 (fun vs H Q E h => ?_) (fun cdv A outer s H vs Q E hr h => ?_)
  · obtain ⟨a, y, rfl, _⟩ := h
    rfl
  · obtain ⟨a, y, rfl, ha, q⟩ := h
    refine ⟨_, pss_one (ps_ost (pv 0) (pv 1)), ?_⟩
    exact ⟨_, rfl, _, rfl, a, cs 3, rfl, T.ox 3 (by decide), T.no 3 (by decide) _ List.mem_cons_self, .inl ⟨ha, fun dx n ne => q dx n ne⟩⟩
abbrev sI4 : Stmt := inClass (top 6) 0
theorem scI4 : FnScope ["self", "one", "other"] ["self", "one", "other"] (defScope sI4) := ⟨rfl, rfl, rfl, by decide +kernel, rfl, by decide +kernel, by decide +kernel⟩
theorem ok_i4 {fd : FuncData} (F : Fun K "__init__" "Unequal.__init__" sI4 (fi 4) fd) (T : Txt K mg cs fi) : FnOk P w K mg base CX0 1 (fi 4) fd ["self", "one", "other"] (spI2 (cs 4) "one" "other") := by
  refine F.ok scI4 (fun vs H Q E h => ?_) (fun cdv A outer s H vs Q E hr h => ?_)
  · obtain ⟨a, y, z, rfl, _⟩ := h
    rfl
  · obtain ⟨a, y, z, rfl, ha, q⟩ := h
    refine ⟨_, pss_cons (ps_ost (pv 0) (pv 1)) (pss_one (ps_ost (pv 0) (pv 2))), ?_⟩
    refine ⟨_, rfl, _, rfl, a, cs 4, rfl, T.ox 4 (by decide), T.no 4 (by decide) _ (List.mem_cons_of_mem _ List.mem_cons_self), .inl ⟨ha, fun dx n ne => ?_⟩⟩
    exact ⟨_, rfl, _, rfl, a, cs 4, rfl, T.ox 4 (by decide), T.no 4 (by decide) _ List.mem_cons_self, .inr ⟨dx, _, upd_same, by rw [upd_ne ne]; exact upd_same, by show 1 ≤ 900; decide, q dx n ne⟩⟩
abbrev sI5 : Stmt := inClass (top 7) 0
theorem scI5 : FnScope ["self", "row", "lots"] ["self", "row", "lots"] (defScope sI5) := ⟨rfl, rfl, rfl, by decide +kernel, rfl, by decide +kernel, by decide +kernel⟩
theorem ok_i5 {fd : FuncData} (F : Fun K "__init__" "Barred.__init__" sI5 (fi 5) fd) (T : Txt K mg cs fi) : FnOk P w K mg base CX0 1 (fi 5) fd ["self", "row", "lots"] (spI2 (cs 5) "row" "lots") := by
  refine F.ok scI5 (fun vs H Q E h => ?_) (fun cdv A outer s H vs Q E hr h => ?_)
  · obtain ⟨a, y, z, rfl, _⟩ := h
    rfl
  · obtain ⟨a, y, z, rfl, ha, q⟩ := h
    refine ⟨_, pss_cons (ps_ost (pv 0) (pv 1)) (pss_one (ps_ost (pv 0) (pv 2))), ?_⟩
    refine ⟨_, rfl, _, rfl, a, cs 5, rfl, T.ox 5 (by decide), T.no 5 (by decide) _ (List.mem_cons_of_mem _ List.mem_cons_self), .inl ⟨ha, fun dx n ne => ?_⟩⟩
    exact ⟨_, rfl, _, rfl, a, cs 5, rfl, T.ox 5 (by decide), T.no 5 (by decide) _ List.mem_cons_self, .inr ⟨dx, _, upd_same, by rw [upd_ne ne]; exact upd_same, by show 1 ≤ 900; decide, q dx n ne⟩⟩
abbrev sI6 : Stmt := inClass (top 8) 0
theorem scI6 : FnScope ["self", "index"] ["self", "index"] (defScope sI6) := ⟨rfl, rfl, rfl, by decide +kernel, rfl, by decide +kernel, by decide +kernel⟩
theorem ok_i6 {fd : FuncData} (F : Fun K "__init__" "NoIndex.__init__" sI6 (fi 6) fd) (T : Txt K mg cs fi) : FnOk P w K mg base CX0 1 (fi 6) fd ["self", "index"] (spI1 (cs 6) "index") := by
  refine F.ok scI6 (fun vs H Q E h => ?_) (fun cdv A outer s H vs Q E hr h => ?_)
  · obtain ⟨a, y, rfl, _⟩ := h
    rfl
  · obtain ⟨a, y, rfl, ha, q⟩ := h
    refine ⟨_, pss_one (ps_ost (pv 0) (pv 1)), ?_⟩
    exact ⟨_, rfl, _, rfl, a, cs 6, rfl, T.ox 6 (by decide), T.no 6 (by decide) _ List.mem_cons_self, .inl ⟨ha, fun dx n ne => q dx n ne⟩⟩
abbrev sI7 : Stmt := inClass (top 9) 0
theorem scI7 : FnScope ["self", "kept"] ["self", "kept"] (defScope sI7) := ⟨rfl, rfl, rfl, by decide +kernel, rfl, by decide +kernel, by decide +kernel⟩
theorem ok_i7 {fd : FuncData} (F : Fun K "__init__" "NoChoice.__init__" sI7 (fi 7) fd) (T : Txt K mg cs fi) : FnOk P w K mg base CX0 1 (fi 7) fd ["self", "kept"] (spI1 (cs 7) "kept") := by
  refine F.ok scI7 (fun vs H Q E h => ?_) (fun cdv A outer s H vs Q E hr h => ?_)
  · obtain ⟨a, y, rfl, _⟩ := h
    rfl
  · obtain ⟨a, y, rfl, ha, q⟩ := h
    refine ⟨_, pss_one (ps_ost (pv 0) (pv 1)), ?_⟩
    exact ⟨_, rfl, _, rfl, a, cs 7, rfl, T.ox 7 (by decide), T.no 7 (by decide) _ List.mem_cons_self, .inl ⟨ha, fun dx n ne => q dx n ne⟩⟩
abbrev sI8 : Stmt := inClass (top 10) 0
theorem scI8 : FnScope ["self", "line"] ["self", "line"] (defScope sI8) := ⟨rfl, rfl, rfl, by decide +kernel, rfl, by decide +kernel, by decide +kernel⟩
theorem ok_i8 {fd : FuncData} (F : Fun K "__init__" "NoText.__init__" sI8 (fi 8) fd) (T : Txt K mg cs fi) : FnOk P w K mg base CX0 1 (fi 8) fd ["self", "line"] (spI1 (cs 8) "line") := by
  refine F.ok scI8 (fun vs H Q E h => ?_) (fun cdv A outer s H vs Q E hr h => ?_)
  · obtain ⟨a, y, rfl, _⟩ := h
    rfl
  · obtain ⟨a, y, rfl, ha, q⟩ := h
    refine ⟨_, pss_one (ps_ost (pv 0) (pv 1)), ?_⟩
    exact ⟨_, rfl, _, rfl, a, cs 8, rfl, T.ox 8 (by decide), T.no 8 (by decide) _ List.mem_cons_self, .inl ⟨ha, fun dx n ne => q dx n ne⟩⟩
abbrev sI9 : Stmt := inClass (top 11) 0
theorem scI9 : FnScope ["self", "line"] ["self", "line"] (defScope sI9) := ⟨rfl, rfl, rfl, by decide +kernel, rfl, by decide +kernel, by decide +kernel⟩
theorem ok_i9 {fd : FuncData} (F : Fun K "__init__" "NoCommand.__init__" sI9 (fi 9) fd) (T : Txt K mg cs fi) : FnOk P w K mg base CX0 1 (fi 9) fd ["self", "line"] (spI1 (cs 9) "line") := by
  refine F.ok scI9 (fun vs H Q E h => ?_) (fun cdv A outer s H vs Q E hr h => ?_)
  · obtain ⟨a, y, rfl, _⟩ := h
    rfl
  · obtain ⟨a, y, rfl, ha, q⟩ := h
    refine ⟨_, pss_one (ps_ost (pv 0) (pv 1)), ?_⟩
    exact ⟨_, rfl, _, rfl, a, cs 9, rfl, T.ox 9 (by decide), T.no 9 (by decide) _ List.mem_cons_self, .inl ⟨ha, fun dx n ne => q dx n ne⟩⟩
/-! ### raised -/
theorem takes0N {X : Cx} : L2N.Takes X (fun _ _ _ _ => False) := fun _ _ x => by
  obtain ⟨_, _, _, _, _, _, _, _, _, _, _, _, _, _, _, _, z⟩ := x
  exact z.elim
theorem okN {x qual : Str} {st : Stmt} {f : Addr} {fd : FuncData} {N ps : List Str} {k : Nat} {sp : Sp} (F : Fun K x qual st f fd) (S : FnScope N ps (defScope st)) (len : ∀ vs H Q E, sp vs H Q E → vs.length = ps.length)
    (hbody : ∀ (cdv : Value) (A : Around) (outer : List Env) (s : Shared) (H : Hp) (vs : List V) (Q : VK) (E : XK), Room k (A.deeper (envOfC qual (defScope st) s.heap.objs.size f cdv)) → sp vs H Q E →
      ∃ t, PSs (cxOf (L2N.CX P w) P w K mg base N qual (defScope st) f cdv A outer s H E) (defBody st) t ∧ t { nx := fun _ H' => Q .non H', rt := Q } (start N vs) H) :
    FnOk P w K mg base (L2N.CX P w) (k + 1) f fd ps sp := by
  obtain ⟨oc, od, kV, doc, pm, an, cdv, ct, osl, rfl, lk, hcd⟩ := F.ex
  exact fn_of lk hcd S len (fun A outer s H vs Q E hr hsp => hbody cdv A outer s H vs Q E hr hsp)
/-- behind the maker: the object is let go, its dict stands -/
theorem mk1 {H : Hp} {a dx C : Addr} {f : Str} {y : V} (na : H a = none) (hn : upd H a (exo a C none) dx = none) (ne : dx ≠ a) :
    H dx = none ∧ upd (upd (upd H a (exo a C none)) dx (exd dx [(f, y)])) a (exo a C (some dx)) a = some (exo a C (some dx)) ∧
    upd (upd (upd H a (exo a C none)) dx (exd dx [(f, y)])) a (exo a C (some dx)) dx = some (exd dx [(f, y)]) ∧
    upd (del (upd (upd (upd H a (exo a C none)) dx (exd dx [(f, y)])) a (exo a C (some dx))) a) dx (.xd [(f, y)]) = upd H dx (.xd [(f, y)]) := by
  refine ⟨by rw [upd_ne ne] at hn; exact hn, upd_same, by rw [upd_ne ne]; exact upd_same, ?_⟩
  funext c
  by_cases hc : c = dx
  · rw [hc, upd_same, upd_same]
  · rw [upd_ne hc, upd_ne hc]
    by_cases ha : c = a
    · rw [ha, del_same, na]
    · rw [del_ne ha, upd_ne ha, upd_ne hc, upd_ne ha]
theorem mk2 {H : Hp} {a dx C : Addr} {f g : Str} {y z : V} (na : H a = none) (hn : upd H a (exo a C none) dx = none) (ne : dx ≠ a) :
    H dx = none ∧ upd (upd (upd (upd H a (exo a C none)) dx (exd dx [(f, y)])) a (exo a C (some dx))) dx (exd dx [(g, z), (f, y)]) a = some (exo a C (some dx)) ∧
    upd (upd (upd (upd H a (exo a C none)) dx (exd dx [(f, y)])) a (exo a C (some dx))) dx (exd dx [(g, z), (f, y)]) dx = some (exd dx [(g, z), (f, y)]) ∧
    upd (del (upd (upd (upd (upd H a (exo a C none)) dx (exd dx [(f, y)])) a (exo a C (some dx))) dx (exd dx [(g, z), (f, y)])) a) dx (.xd [(g, z), (f, y)]) = upd H dx (.xd [(g, z), (f, y)]) := by
  refine ⟨by rw [upd_ne ne] at hn; exact hn, by rw [upd_ne ne.symm]; exact upd_same, upd_same, ?_⟩
  funext c
  by_cases hc : c = dx
  · rw [hc, upd_same, upd_same]
  · rw [upd_ne hc, upd_ne hc]
    by_cases ha : c = a
    · rw [ha, del_same, na]
    · rw [del_ne ha, upd_ne hc, upd_ne ha, upd_ne hc, upd_ne ha]
def spRaise (cs : Nat → Addr) : Sp := fun vs H _ E => ∃ (k : Nat) (x y : V), k < 11 ∧ vs = [.int (k : Int), x, y] ∧ (k < 10 → ∀ d, H d = none → E (.ref (cs k)) (some d) (upd H d (.xd (flds k x y)))) ∧ (k = 10 → E (.ref (cs 10)) none H)
abbrev sRaise : Stmt := top 18
theorem scR : FnScope ["_law_kind", "_law_one_here", "_law_other"] ["_law_kind", "_law_one_here", "_law_other"] (defScope sRaise) := ⟨rfl, rfl, rfl, by decide +kernel, rfl, by decide +kernel, by decide +kernel⟩
theorem ok_raise {f : Addr} {fd fd0 fd1 fd2 fd3 fd4 fd5 fd6 fd7 fd8 fd9 : FuncData} (F : Fun K "_law_raise" "_law_raise" sRaise f fd) (T : Txt K mg cs fi)
    (F0 : Fun K "__init__" "Wrong.__init__" sI0 (fi 0) fd0) (F1 : Fun K "__init__" "TooMany.__init__" sI1 (fi 1) fd1) (F2 : Fun K "__init__" "BadTie.__init__" sI2 (fi 2) fd2) (F3 : Fun K "__init__" "TooFew.__init__" sI3 (fi 3) fd3) (F4 : Fun K "__init__" "Unequal.__init__" sI4 (fi 4) fd4) (F5 : Fun K "__init__" "Barred.__init__" sI5 (fi 5) fd5) (F6 : Fun K "__init__" "NoIndex.__init__" sI6 (fi 6) fd6) (F7 : Fun K "__init__" "NoChoice.__init__" sI7 (fi 7) fd7) (F8 : Fun K "__init__" "NoText.__init__" sI8 (fi 8) fd8) (F9 : Fun K "__init__" "NoCommand.__init__" sI9 (fi 9) fd9)
    (b0 : Binds K fd0 ["self", "place"] []) (b1 : Binds K fd1 ["self", "limit"] []) (b2 : Binds K fd2 ["self", "at"] []) (b3 : Binds K fd3 ["self", "pair"] []) (b4 : Binds K fd4 ["self", "one", "other"] []) (b5 : Binds K fd5 ["self", "row", "lots"] []) (b6 : Binds K fd6 ["self", "index"] []) (b7 : Binds K fd7 ["self", "kept"] []) (b8 : Binds K fd8 ["self", "line"] []) (b9 : Binds K fd9 ["self", "line"] []) :
    FnOk P w K mg base (L2N.CX P w) 3 f fd ["_law_kind", "_law_one_here", "_law_other"] (spRaise cs) := by
  refine okN F scR (fun vs H Q E h => ?_) (fun cdv A outer s H vs Q E hr h => ?_)
  · obtain ⟨k, x, y, _, rfl, _⟩ := h
    rfl
  · obtain ⟨k, x, y, hk, rfl, q, q10⟩ := h
    refine ⟨_, pss_cons (ps_if (pt_cmpR op_eq (pv 0) pe_int (nomark _)) (pss_one (L2N.ps_raise rfl (L2N.takes_of rfl rfl rfl rfl) (pmkN_oex (T.ox 0 (by decide)) (T.xi 0 (by decide)) (T.ti 0 (by decide)) (ok_i0 F0 T) hr b0 pass0 rfl T.g0 (pa_cons (pv 1) pa_nil)))) pss_nil)
      (pss_cons (ps_if (pt_cmpR op_eq (pv 0) pe_int (nomark _)) (pss_one (L2N.ps_raise rfl (L2N.takes_of rfl rfl rfl rfl) (pmkN_oex (T.ox 1 (by decide)) (T.xi 1 (by decide)) (T.ti 1 (by decide)) (ok_i1 F1 T) hr b1 pass0 rfl T.g1 (pa_cons (pv 1) pa_nil)))) pss_nil)
      (pss_cons (ps_if (pt_cmpR op_eq (pv 0) pe_int (nomark _)) (pss_one (L2N.ps_raise rfl (L2N.takes_of rfl rfl rfl rfl) (pmkN_oex (T.ox 2 (by decide)) (T.xi 2 (by decide)) (T.ti 2 (by decide)) (ok_i2 F2 T) hr b2 pass0 rfl T.g2 (pa_cons (pv 1) pa_nil)))) pss_nil)
      (pss_cons (ps_if (pt_cmpR op_eq (pv 0) pe_int (nomark _)) (pss_one (L2N.ps_raise rfl (L2N.takes_of rfl rfl rfl rfl) (pmkN_oex (T.ox 3 (by decide)) (T.xi 3 (by decide)) (T.ti 3 (by decide)) (ok_i3 F3 T) hr b3 pass0 rfl T.g3 (pa_cons (pv 1) pa_nil)))) pss_nil)
      (pss_cons (ps_if (pt_cmpR op_eq (pv 0) pe_int (nomark _)) (pss_one (L2N.ps_raise rfl (L2N.takes_of rfl rfl rfl rfl) (pmkN_oex (T.ox 4 (by decide)) (T.xi 4 (by decide)) (T.ti 4 (by decide)) (ok_i4 F4 T) hr b4 pass0 rfl T.g4 (pa_cons (pv 1) (pa_cons (pv 2) pa_nil))))) pss_nil)
      (pss_cons (ps_if (pt_cmpR op_eq (pv 0) pe_int (nomark _)) (pss_one (L2N.ps_raise rfl (L2N.takes_of rfl rfl rfl rfl) (pmkN_oex (T.ox 5 (by decide)) (T.xi 5 (by decide)) (T.ti 5 (by decide)) (ok_i5 F5 T) hr b5 pass0 rfl T.g5 (pa_cons (pv 1) (pa_cons (pv 2) pa_nil))))) pss_nil)
      (pss_cons (ps_if (pt_cmpR op_eq (pv 0) pe_int (nomark _)) (pss_one (L2N.ps_raise rfl (L2N.takes_of rfl rfl rfl rfl) (pmkN_oex (T.ox 6 (by decide)) (T.xi 6 (by decide)) (T.ti 6 (by decide)) (ok_i6 F6 T) hr b6 pass0 rfl T.g6 (pa_cons (pv 1) pa_nil)))) pss_nil)
      (pss_cons (ps_if (pt_cmpR op_eq (pv 0) pe_int (nomark _)) (pss_one (L2N.ps_raise rfl (L2N.takes_of rfl rfl rfl rfl) (pmkN_oex (T.ox 7 (by decide)) (T.xi 7 (by decide)) (T.ti 7 (by decide)) (ok_i7 F7 T) hr b7 pass0 rfl T.g7 (pa_cons (pv 1) pa_nil)))) pss_nil)
      (pss_cons (ps_if (pt_cmpR op_eq (pv 0) pe_int (nomark _)) (pss_one (L2N.ps_raise rfl (L2N.takes_of rfl rfl rfl rfl) (pmkN_oex (T.ox 8 (by decide)) (T.xi 8 (by decide)) (T.ti 8 (by decide)) (ok_i8 F8 T) hr b8 pass0 rfl T.g8 (pa_cons (pv 1) pa_nil)))) pss_nil)
      (pss_cons (ps_if (pt_cmpR op_eq (pv 0) pe_int (nomark _)) (pss_one (L2N.ps_raise rfl (L2N.takes_of rfl rfl rfl rfl) (pmkN_oex (T.ox 9 (by decide)) (T.xi 9 (by decide)) (T.ti 9 (by decide)) (ok_i9 F9 T) hr b9 pass0 rfl T.g9 (pa_cons (pv 1) pa_nil)))) pss_nil)
      (pss_one (L2N.ps_raise rfl (L2N.takes_of rfl rfl rfl rfl) (pmkN_own0 PySem.F.excBase_ValueError T.e10 T.g10 (T.kp 10 (by decide)) (raises_own (T.exC 10 (by decide)) (T.tyC 10 (by decide))) rfl)))))))))))), ?_⟩
    match k, hk with
    | 0, _ =>
      refine ⟨_, rfl, rfl, _, rfl, iteT ?_⟩
      refine ⟨_, rfl, (by show 1 ≤ 1000; decide), fun a na => ⟨a, x, rfl, upd_same, fun dx hn ne => ⟨rfl, ?_⟩⟩⟩
      obtain ⟨z0, z1, z2, z3⟩ := mk1 na hn ne
      exact ⟨dx, _, z1, z2, z0, by rw [z3]; exact q (by decide) dx z0⟩
    | 1, _ =>
      refine ⟨_, rfl, rfl, _, rfl, iteF ?_⟩
      refine ⟨_, rfl, rfl, _, rfl, iteT ?_⟩
      refine ⟨_, rfl, (by show 1 ≤ 1000; decide), fun a na => ⟨a, x, rfl, upd_same, fun dx hn ne => ⟨rfl, ?_⟩⟩⟩
      obtain ⟨z0, z1, z2, z3⟩ := mk1 na hn ne
      exact ⟨dx, _, z1, z2, z0, by rw [z3]; exact q (by decide) dx z0⟩
    | 2, _ =>
      refine ⟨_, rfl, rfl, _, rfl, iteF ?_⟩
      refine ⟨_, rfl, rfl, _, rfl, iteF ?_⟩
      refine ⟨_, rfl, rfl, _, rfl, iteT ?_⟩
      refine ⟨_, rfl, (by show 1 ≤ 1000; decide), fun a na => ⟨a, x, rfl, upd_same, fun dx hn ne => ⟨rfl, ?_⟩⟩⟩
      obtain ⟨z0, z1, z2, z3⟩ := mk1 na hn ne
      exact ⟨dx, _, z1, z2, z0, by rw [z3]; exact q (by decide) dx z0⟩
    | 3, _ =>
      refine ⟨_, rfl, rfl, _, rfl, iteF ?_⟩
      refine ⟨_, rfl, rfl, _, rfl, iteF ?_⟩
      refine ⟨_, rfl, rfl, _, rfl, iteF ?_⟩
      refine ⟨_, rfl, rfl, _, rfl, iteT ?_⟩
      refine ⟨_, rfl, (by show 1 ≤ 1000; decide), fun a na => ⟨a, x, rfl, upd_same, fun dx hn ne => ⟨rfl, ?_⟩⟩⟩
      obtain ⟨z0, z1, z2, z3⟩ := mk1 na hn ne
      exact ⟨dx, _, z1, z2, z0, by rw [z3]; exact q (by decide) dx z0⟩
    | 4, _ =>
      refine ⟨_, rfl, rfl, _, rfl, iteF ?_⟩
      refine ⟨_, rfl, rfl, _, rfl, iteF ?_⟩
      refine ⟨_, rfl, rfl, _, rfl, iteF ?_⟩
      refine ⟨_, rfl, rfl, _, rfl, iteF ?_⟩
      refine ⟨_, rfl, rfl, _, rfl, iteT ?_⟩
      refine ⟨_, rfl, _, rfl, (by show 2 ≤ 1000; decide), fun a na => ⟨a, x, y, rfl, upd_same, fun dx hn ne => ⟨rfl, ?_⟩⟩⟩
      obtain ⟨z0, z1, z2, z3⟩ := mk2 na hn ne
      exact ⟨dx, _, z1, z2, z0, by rw [z3]; exact q (by decide) dx z0⟩
    | 5, _ =>
      refine ⟨_, rfl, rfl, _, rfl, iteF ?_⟩
      refine ⟨_, rfl, rfl, _, rfl, iteF ?_⟩
      refine ⟨_, rfl, rfl, _, rfl, iteF ?_⟩
      refine ⟨_, rfl, rfl, _, rfl, iteF ?_⟩
      refine ⟨_, rfl, rfl, _, rfl, iteF ?_⟩
      refine ⟨_, rfl, rfl, _, rfl, iteT ?_⟩
      refine ⟨_, rfl, _, rfl, (by show 2 ≤ 1000; decide), fun a na => ⟨a, x, y, rfl, upd_same, fun dx hn ne => ⟨rfl, ?_⟩⟩⟩
      obtain ⟨z0, z1, z2, z3⟩ := mk2 na hn ne
      exact ⟨dx, _, z1, z2, z0, by rw [z3]; exact q (by decide) dx z0⟩
    | 6, _ =>
      refine ⟨_, rfl, rfl, _, rfl, iteF ?_⟩
      refine ⟨_, rfl, rfl, _, rfl, iteF ?_⟩
      refine ⟨_, rfl, rfl, _, rfl, iteF ?_⟩
      refine ⟨_, rfl, rfl, _, rfl, iteF ?_⟩
      refine ⟨_, rfl, rfl, _, rfl, iteF ?_⟩
      refine ⟨_, rfl, rfl, _, rfl, iteF ?_⟩
      refine ⟨_, rfl, rfl, _, rfl, iteT ?_⟩
      refine ⟨_, rfl, (by show 1 ≤ 1000; decide), fun a na => ⟨a, x, rfl, upd_same, fun dx hn ne => ⟨rfl, ?_⟩⟩⟩
      obtain ⟨z0, z1, z2, z3⟩ := mk1 na hn ne
      exact ⟨dx, _, z1, z2, z0, by rw [z3]; exact q (by decide) dx z0⟩
    | 7, _ =>
      refine ⟨_, rfl, rfl, _, rfl, iteF ?_⟩
      refine ⟨_, rfl, rfl, _, rfl, iteF ?_⟩
      refine ⟨_, rfl, rfl, _, rfl, iteF ?_⟩
      refine ⟨_, rfl, rfl, _, rfl, iteF ?_⟩
      refine ⟨_, rfl, rfl, _, rfl, iteF ?_⟩
      refine ⟨_, rfl, rfl, _, rfl, iteF ?_⟩
      refine ⟨_, rfl, rfl, _, rfl, iteF ?_⟩
      refine ⟨_, rfl, rfl, _, rfl, iteT ?_⟩
      refine ⟨_, rfl, (by show 1 ≤ 1000; decide), fun a na => ⟨a, x, rfl, upd_same, fun dx hn ne => ⟨rfl, ?_⟩⟩⟩
      obtain ⟨z0, z1, z2, z3⟩ := mk1 na hn ne
      exact ⟨dx, _, z1, z2, z0, by rw [z3]; exact q (by decide) dx z0⟩
    | 8, _ =>
      refine ⟨_, rfl, rfl, _, rfl, iteF ?_⟩
      refine ⟨_, rfl, rfl, _, rfl, iteF ?_⟩
      refine ⟨_, rfl, rfl, _, rfl, iteF ?_⟩
      refine ⟨_, rfl, rfl, _, rfl, iteF ?_⟩
      refine ⟨_, rfl, rfl, _, rfl, iteF ?_⟩
      refine ⟨_, rfl, rfl, _, rfl, iteF ?_⟩
      refine ⟨_, rfl, rfl, _, rfl, iteF ?_⟩
      refine ⟨_, rfl, rfl, _, rfl, iteF ?_⟩
      refine ⟨_, rfl, rfl, _, rfl, iteT ?_⟩
      refine ⟨_, rfl, (by show 1 ≤ 1000; decide), fun a na => ⟨a, x, rfl, upd_same, fun dx hn ne => ⟨rfl, ?_⟩⟩⟩
      obtain ⟨z0, z1, z2, z3⟩ := mk1 na hn ne
      exact ⟨dx, _, z1, z2, z0, by rw [z3]; exact q (by decide) dx z0⟩
    | 9, _ =>
      refine ⟨_, rfl, rfl, _, rfl, iteF ?_⟩
      refine ⟨_, rfl, rfl, _, rfl, iteF ?_⟩
      refine ⟨_, rfl, rfl, _, rfl, iteF ?_⟩
      refine ⟨_, rfl, rfl, _, rfl, iteF ?_⟩
      refine ⟨_, rfl, rfl, _, rfl, iteF ?_⟩
      refine ⟨_, rfl, rfl, _, rfl, iteF ?_⟩
      refine ⟨_, rfl, rfl, _, rfl, iteF ?_⟩
      refine ⟨_, rfl, rfl, _, rfl, iteF ?_⟩
      refine ⟨_, rfl, rfl, _, rfl, iteF ?_⟩
      refine ⟨_, rfl, rfl, _, rfl, iteT ?_⟩
      refine ⟨_, rfl, (by show 1 ≤ 1000; decide), fun a na => ⟨a, x, rfl, upd_same, fun dx hn ne => ⟨rfl, ?_⟩⟩⟩
      obtain ⟨z0, z1, z2, z3⟩ := mk1 na hn ne
      exact ⟨dx, _, z1, z2, z0, by rw [z3]; exact q (by decide) dx z0⟩
    | 10, _ =>
      refine ⟨_, rfl, rfl, _, rfl, iteF ?_⟩
      refine ⟨_, rfl, rfl, _, rfl, iteF ?_⟩
      refine ⟨_, rfl, rfl, _, rfl, iteF ?_⟩
      refine ⟨_, rfl, rfl, _, rfl, iteF ?_⟩
      refine ⟨_, rfl, rfl, _, rfl, iteF ?_⟩
      refine ⟨_, rfl, rfl, _, rfl, iteF ?_⟩
      refine ⟨_, rfl, rfl, _, rfl, iteF ?_⟩
      refine ⟨_, rfl, rfl, _, rfl, iteF ?_⟩
      refine ⟨_, rfl, rfl, _, rfl, iteF ?_⟩
      refine ⟨_, rfl, rfl, _, rfl, iteF ?_⟩
      exact q10 rfl
end
end T11
/-! What is asked of an error: its fields, its classes. -/
namespace T11
open PySem PySem.Spec PyProof.Rows L2 Wk
abbrev sFlags : Stmt := top 17
abbrev sFields : Stmt := top 19
theorem stepS {H Hc : Hp} {p : Addr} (o : HO) (S : Same H Hc) (np : Hc p = none) : ∃ Hn, upd Hc p o = Hn ∧ H p = none ∧ Hn p = some o ∧ Same Hc Hn ∧ Same H Hn :=
  ⟨_, rfl, S.free np, upd_same, same_upd np, S.trans (same_upd np)⟩
theorem _root_.Wk.DictOk.same {d : Option Addr} {H H' : Hp} (h : DictOk d H) (S : Same H H') : DictOk d H' := by
  rcases h with h | ⟨dd, fs, h1, h2⟩
  · exact .inl h
  · exact .inr ⟨dd, fs, h1, S _ _ h2⟩
/-- the flags of the k-th class -/
def fl (k : Nat) : List V := (List.range 11).map fun j => V.bl (decide (j = k))
/-- the handled error at a is of the k-th class, its fields those of x and y -/
structure Hand (cs : Nat → Addr) (k : Nat) (x y : V) (cls : Value) (d : Option Addr) (H : Hp) : Prop where
  lt : k < 11
  cl : cls = .ref (cs k)
  dk : k < 10 → ∃ dd, d = some dd ∧ H dd = some (.xd (flds k x y))
  d0 : k = 10 → d = none
theorem Hand.same {cs : Nat → Addr} {k : Nat} {x y : V} {cls : Value} {d : Option Addr} {H H' : Hp} (h : Hand cs k x y cls d H) (S : Same H H') : Hand cs k x y cls d H' :=
  ⟨h.lt, h.cl, fun hk => let ⟨dd, h1, h2⟩ := h.dk hk; ⟨dd, h1, S _ _ h2⟩, h.d0⟩
theorem Hand.ok {cs : Nat → Addr} {k : Nat} {x y : V} {cls : Value} {d : Option Addr} {H : Hp} (h : Hand cs k x y cls d H) : DictOk d H := by
  by_cases hk : k < 10
  · obtain ⟨dd, h1, h2⟩ := h.dk hk
    exact .inr ⟨dd, _, h1, h2⟩
  · exact .inl (h.d0 (by have := h.lt; omega))
def spFields (cs : Nat → Addr) : SpE := fun a cls d vs H Q _ => ∃ (k : Nat) (x y : V), vs = [.int (k : Int), .ref a] ∧ Hand cs k x y cls d H ∧ ∀ (p : Addr) (H' : Hp), Same H H' → H p = none → H' p = some (.lst (vals k x y)) → Q (.ref p) H'
def spFlags (cs : Nat → Addr) : SpE := fun a cls d vs H Q _ => ∃ (k : Nat) (x y : V), vs = [.ref a] ∧ Hand cs k x y cls d H ∧ ∀ (p : Addr) (H' : Hp), Same H H' → H p = none → H' p = some (.lst (fl k)) → Q (.ref p) H'
def spFlagsV (cs : Nat → Addr) : Sp := fun vs H Q _ => ∃ (a : Addr), vs = [.ref a] ∧ H a = some (ExO (.ref (cs 11)) a) ∧ ∀ (p : Addr) (H' : Hp), Same H H' → H p = none → H' p = some (.lst (fl 11)) → Q (.ref p) H'
theorem lk1 (f : Str) (x : V) : List.lookup f [(f, x)] = some x := by simp [List.lookup]
theorem lk2a (f g : Str) (x y : V) : List.lookup g [(g, y), (f, x)] = some y := by simp [List.lookup]
theorem lk2b (f g : Str) (x y : V) (h : (f == g) = false) : List.lookup f [(g, y), (f, x)] = some x := by simp [List.lookup, h]
theorem scF : FnScope ["_law_thing", "_law_found"] ["_law_thing"] (defScope sFlags) := ⟨rfl, rfl, rfl, by decide +kernel, rfl, by decide +kernel, by decide +kernel⟩
theorem scX : FnScope ["_law_kind", "_law_thing"] ["_law_kind", "_law_thing"] (defScope sFields) := ⟨rfl, rfl, rfl, by decide +kernel, rfl, by decide +kernel, by decide +kernel⟩
section
variable {P : Program} {w : World} {K : PySem.W.Frag} {mg : Str → Option Value} {base : Heap} {cs fi : Nat → Addr}
theorem ok_flags {f : Addr} {fd : FuncData} {n : Nat} (F : Fun K "_law_flags" "_law_flags" sFlags f fd) (T : Txt K mg cs fi) : FnE P w K mg base (n + 1) f fd ["_law_thing"] (spFlags cs) := by
  refine okE F scF (fun a cls d vs H Q E h => ?_) (fun cdv A outer s H vs Q E a oe cls d hr hgd hot hz h => ?_)
  · obtain ⟨k, x, y, rfl, _⟩ := h
    rfl
  · obtain ⟨k, x, y, rfl, hh, q⟩ := h
    have hk : k < 12 := Nat.lt_succ_of_lt hh.lt
    have hf : ∃ ws, oe.data = .fields ws := let ⟨_, v1, e1, _⟩ := hot; ⟨v1, e1⟩
    refine ⟨_, pss_cons (ps_set (i := 1) scF.nd rfl (Or.inl rfl) (pe_lst (pa_cons (pe_callB (call_isP List.mem_cons_self hz hf) (by rfl) T.misi (by decide +kernel) (pa_cons (pv 0) (pa_cons (pe_glob (v := .ref (cs 0)) rfl T.g0 rfl) pa_nil))) (pa_cons (pe_callB (call_isP List.mem_cons_self hz hf) (by rfl) T.misi (by decide +kernel) (pa_cons (pv 0) (pa_cons (pe_glob (v := .ref (cs 1)) rfl T.g1 rfl) pa_nil))) (pa_cons (pe_callB (call_isP List.mem_cons_self hz hf) (by rfl) T.misi (by decide +kernel) (pa_cons (pv 0) (pa_cons (pe_glob (v := .ref (cs 2)) rfl T.g2 rfl) pa_nil))) pa_nil)))))
      (pss_cons (ps_set (i := 1) scF.nd rfl (Or.inl rfl) (pe_op op_cat (pv 1) (pe_lst (pa_cons (pe_callB (call_isP List.mem_cons_self hz hf) (by rfl) T.misi (by decide +kernel) (pa_cons (pv 0) (pa_cons (pe_glob (v := .ref (cs 3)) rfl T.g3 rfl) pa_nil))) (pa_cons (pe_callB (call_isP List.mem_cons_self hz hf) (by rfl) T.misi (by decide +kernel) (pa_cons (pv 0) (pa_cons (pe_glob (v := .ref (cs 4)) rfl T.g4 rfl) pa_nil))) (pa_cons (pe_callB (call_isP List.mem_cons_self hz hf) (by rfl) T.misi (by decide +kernel) (pa_cons (pv 0) (pa_cons (pe_glob (v := .ref (cs 5)) rfl T.g5 rfl) pa_nil))) pa_nil))))))
      (pss_cons (ps_set (i := 1) scF.nd rfl (Or.inl rfl) (pe_op op_cat (pv 1) (pe_lst (pa_cons (pe_callB (call_isP List.mem_cons_self hz hf) (by rfl) T.misi (by decide +kernel) (pa_cons (pv 0) (pa_cons (pe_glob (v := .ref (cs 6)) rfl T.g6 rfl) pa_nil))) (pa_cons (pe_callB (call_isP List.mem_cons_self hz hf) (by rfl) T.misi (by decide +kernel) (pa_cons (pv 0) (pa_cons (pe_glob (v := .ref (cs 7)) rfl T.g7 rfl) pa_nil))) (pa_cons (pe_callB (call_isP List.mem_cons_self hz hf) (by rfl) T.misi (by decide +kernel) (pa_cons (pv 0) (pa_cons (pe_glob (v := .ref (cs 8)) rfl T.g8 rfl) pa_nil))) pa_nil))))))
      (pss_one (ps_ret (pe_op op_cat (pv 1) (pe_lst (pa_cons (pe_callB (call_isP List.mem_cons_self hz hf) (by rfl) T.misi (by decide +kernel) (pa_cons (pv 0) (pa_cons (pe_glob (v := .ref (cs 9)) rfl T.g9 rfl) pa_nil))) (pa_cons (pe_callB (call_isP List.mem_cons_self hz hf) (by rfl) T.misi (by decide +kernel) (pa_cons (pv 0) (pa_cons (pe_glob (v := .ref (cs 10)) rfl T.g10 rfl) pa_nil))) pa_nil)))))))), ?_⟩
    have S0 : Same H H := Same.refl H
    refine ⟨.ref a, rfl, .ref (cs 0), .ref (cs 0), _, cs k, rfl, .own _, hh.cl, T.xc k hk, hh.ok.same S0, T.kit 0 k (by decide) hk, .ref a, rfl, .ref (cs 1), .ref (cs 1), _, cs k, rfl, .own _, hh.cl, T.xc k hk, hh.ok.same S0, T.kit 1 k (by decide) hk, .ref a, rfl, .ref (cs 2), .ref (cs 2), _, cs k, rfl, .own _, hh.cl, T.xc k hk, hh.ok.same S0, T.kit 2 k (by decide) hk, (by show 3 ≤ sizeLine; decide), fun p1 n1 => ?_⟩
    obtain ⟨H1, e1, o1, g1, u1, S1⟩ := stepS (.lst [V.bl (decide (0 = k)), V.bl (decide (1 = k)), V.bl (decide (2 = k))]) S0 n1
    rw [e1]
    refine ⟨_, rfl, .ref a, rfl, .ref (cs 3), .ref (cs 3), _, cs k, rfl, .own _, hh.cl, T.xc k hk, hh.ok.same S1, T.kit 3 k (by decide) hk, .ref a, rfl, .ref (cs 4), .ref (cs 4), _, cs k, rfl, .own _, hh.cl, T.xc k hk, hh.ok.same S1, T.kit 4 k (by decide) hk, .ref a, rfl, .ref (cs 5), .ref (cs 5), _, cs k, rfl, .own _, hh.cl, T.xc k hk, hh.ok.same S1, T.kit 5 k (by decide) hk, (by show 3 ≤ sizeLine; decide), fun p2 n2 => ?_⟩
    obtain ⟨H2, e2, o2, g2, u2, S2⟩ := stepS (.lst [V.bl (decide (3 = k)), V.bl (decide (4 = k)), V.bl (decide (5 = k))]) S1 n2
    rw [e2]
    refine ⟨p1, p2, [V.bl (decide (0 = k)), V.bl (decide (1 = k)), V.bl (decide (2 = k))], [V.bl (decide (3 = k)), V.bl (decide (4 = k)), V.bl (decide (5 = k))], rfl, rfl, u2 _ _ g1, g2, (by show 3 + 3 ≤ sizeLine; decide), fun p3 n3 => ?_⟩
    obtain ⟨H3, e3, o3, g3, u3, S3⟩ := stepS (.lst [V.bl (decide (0 = k)), V.bl (decide (1 = k)), V.bl (decide (2 = k)), V.bl (decide (3 = k)), V.bl (decide (4 = k)), V.bl (decide (5 = k))]) S2 n3
    rw [show (upd H2 p3 (.lst ([V.bl (decide (0 = k)), V.bl (decide (1 = k)), V.bl (decide (2 = k))] ++ [V.bl (decide (3 = k)), V.bl (decide (4 = k)), V.bl (decide (5 = k))]))) = H3 from e3]
    refine ⟨_, rfl, .ref a, rfl, .ref (cs 6), .ref (cs 6), _, cs k, rfl, .own _, hh.cl, T.xc k hk, hh.ok.same S3, T.kit 6 k (by decide) hk, .ref a, rfl, .ref (cs 7), .ref (cs 7), _, cs k, rfl, .own _, hh.cl, T.xc k hk, hh.ok.same S3, T.kit 7 k (by decide) hk, .ref a, rfl, .ref (cs 8), .ref (cs 8), _, cs k, rfl, .own _, hh.cl, T.xc k hk, hh.ok.same S3, T.kit 8 k (by decide) hk, (by show 3 ≤ sizeLine; decide), fun p4 n4 => ?_⟩
    obtain ⟨H4, e4, o4, g4, u4, S4⟩ := stepS (.lst [V.bl (decide (6 = k)), V.bl (decide (7 = k)), V.bl (decide (8 = k))]) S3 n4
    rw [e4]
    refine ⟨p3, p4, [V.bl (decide (0 = k)), V.bl (decide (1 = k)), V.bl (decide (2 = k)), V.bl (decide (3 = k)), V.bl (decide (4 = k)), V.bl (decide (5 = k))], [V.bl (decide (6 = k)), V.bl (decide (7 = k)), V.bl (decide (8 = k))], rfl, rfl, u4 _ _ g3, g4, (by show 6 + 3 ≤ sizeLine; decide), fun p5 n5 => ?_⟩
    obtain ⟨H5, e5, o5, g5, u5, S5⟩ := stepS (.lst [V.bl (decide (0 = k)), V.bl (decide (1 = k)), V.bl (decide (2 = k)), V.bl (decide (3 = k)), V.bl (decide (4 = k)), V.bl (decide (5 = k)), V.bl (decide (6 = k)), V.bl (decide (7 = k)), V.bl (decide (8 = k))]) S4 n5
    rw [show (upd H4 p5 (.lst ([V.bl (decide (0 = k)), V.bl (decide (1 = k)), V.bl (decide (2 = k)), V.bl (decide (3 = k)), V.bl (decide (4 = k)), V.bl (decide (5 = k))] ++ [V.bl (decide (6 = k)), V.bl (decide (7 = k)), V.bl (decide (8 = k))]))) = H5 from e5]
    refine ⟨_, rfl, .ref a, rfl, .ref (cs 9), .ref (cs 9), _, cs k, rfl, .own _, hh.cl, T.xc k hk, hh.ok.same S5, T.kit 9 k (by decide) hk, .ref a, rfl, .ref (cs 10), .ref (cs 10), _, cs k, rfl, .own _, hh.cl, T.xc k hk, hh.ok.same S5, T.kit 10 k (by decide) hk, (by show 2 ≤ sizeLine; decide), fun p6 n6 => ?_⟩
    obtain ⟨H6, e6, o6, g6, u6, S6⟩ := stepS (.lst [V.bl (decide (9 = k)), V.bl (decide (10 = k))]) S5 n6
    rw [e6]
    refine ⟨p5, p6, [V.bl (decide (0 = k)), V.bl (decide (1 = k)), V.bl (decide (2 = k)), V.bl (decide (3 = k)), V.bl (decide (4 = k)), V.bl (decide (5 = k)), V.bl (decide (6 = k)), V.bl (decide (7 = k)), V.bl (decide (8 = k))], [V.bl (decide (9 = k)), V.bl (decide (10 = k))], rfl, rfl, u6 _ _ g5, g6, (by show 9 + 2 ≤ sizeLine; decide), fun p7 n7 => ?_⟩
    exact q p7 _ (S6.trans (same_upd n7)) (S6.free n7) upd_same
theorem ok_flagsV {f : Addr} {fd : FuncData} {n : Nat} (F : Fun K "_law_flags" "_law_flags" sFlags f fd) (T : Txt K mg cs fi) : FnOk P w K mg base CX0 (n + 1) f fd ["_law_thing"] (spFlagsV cs) := by
  refine F.ok scF (fun vs H Q E h => ?_) (fun cdv A outer s H vs Q E hr h => ?_)
  · obtain ⟨a, rfl, _⟩ := h
    rfl
  · obtain ⟨a, rfl, hx, q⟩ := h
    refine ⟨_, pss_cons (ps_set (i := 1) scF.nd rfl (Or.inl rfl) (pe_lst (pa_cons (pe_callB call_isV (by rfl) T.misi (by decide +kernel) (pa_cons (pv 0) (pa_cons (pe_glob (v := .ref (cs 0)) rfl T.g0 rfl) pa_nil))) (pa_cons (pe_callB call_isV (by rfl) T.misi (by decide +kernel) (pa_cons (pv 0) (pa_cons (pe_glob (v := .ref (cs 1)) rfl T.g1 rfl) pa_nil))) (pa_cons (pe_callB call_isV (by rfl) T.misi (by decide +kernel) (pa_cons (pv 0) (pa_cons (pe_glob (v := .ref (cs 2)) rfl T.g2 rfl) pa_nil))) pa_nil)))))
      (pss_cons (ps_set (i := 1) scF.nd rfl (Or.inl rfl) (pe_op op_cat (pv 1) (pe_lst (pa_cons (pe_callB call_isV (by rfl) T.misi (by decide +kernel) (pa_cons (pv 0) (pa_cons (pe_glob (v := .ref (cs 3)) rfl T.g3 rfl) pa_nil))) (pa_cons (pe_callB call_isV (by rfl) T.misi (by decide +kernel) (pa_cons (pv 0) (pa_cons (pe_glob (v := .ref (cs 4)) rfl T.g4 rfl) pa_nil))) (pa_cons (pe_callB call_isV (by rfl) T.misi (by decide +kernel) (pa_cons (pv 0) (pa_cons (pe_glob (v := .ref (cs 5)) rfl T.g5 rfl) pa_nil))) pa_nil))))))
      (pss_cons (ps_set (i := 1) scF.nd rfl (Or.inl rfl) (pe_op op_cat (pv 1) (pe_lst (pa_cons (pe_callB call_isV (by rfl) T.misi (by decide +kernel) (pa_cons (pv 0) (pa_cons (pe_glob (v := .ref (cs 6)) rfl T.g6 rfl) pa_nil))) (pa_cons (pe_callB call_isV (by rfl) T.misi (by decide +kernel) (pa_cons (pv 0) (pa_cons (pe_glob (v := .ref (cs 7)) rfl T.g7 rfl) pa_nil))) (pa_cons (pe_callB call_isV (by rfl) T.misi (by decide +kernel) (pa_cons (pv 0) (pa_cons (pe_glob (v := .ref (cs 8)) rfl T.g8 rfl) pa_nil))) pa_nil))))))
      (pss_one (ps_ret (pe_op op_cat (pv 1) (pe_lst (pa_cons (pe_callB call_isV (by rfl) T.misi (by decide +kernel) (pa_cons (pv 0) (pa_cons (pe_glob (v := .ref (cs 9)) rfl T.g9 rfl) pa_nil))) (pa_cons (pe_callB call_isV (by rfl) T.misi (by decide +kernel) (pa_cons (pv 0) (pa_cons (pe_glob (v := .ref (cs 10)) rfl T.g10 rfl) pa_nil))) pa_nil)))))))), ?_⟩
    have S0 : Same H H := Same.refl H
    refine ⟨.ref a, rfl, a, cs 11, .ref (cs 0), .ref (cs 0), _, rfl, S0 _ _ hx, .own _, T.xc 11 (by decide), T.kit 0 11 (by decide) (by decide), .ref a, rfl, a, cs 11, .ref (cs 1), .ref (cs 1), _, rfl, S0 _ _ hx, .own _, T.xc 11 (by decide), T.kit 1 11 (by decide) (by decide), .ref a, rfl, a, cs 11, .ref (cs 2), .ref (cs 2), _, rfl, S0 _ _ hx, .own _, T.xc 11 (by decide), T.kit 2 11 (by decide) (by decide), (by show 3 ≤ sizeLine; decide), fun p1 n1 => ?_⟩
    obtain ⟨H1, e1, o1, g1, u1, S1⟩ := stepS (.lst [V.bl (decide (0 = 11)), V.bl (decide (1 = 11)), V.bl (decide (2 = 11))]) S0 n1
    rw [e1]
    refine ⟨_, rfl, .ref a, rfl, a, cs 11, .ref (cs 3), .ref (cs 3), _, rfl, S1 _ _ hx, .own _, T.xc 11 (by decide), T.kit 3 11 (by decide) (by decide), .ref a, rfl, a, cs 11, .ref (cs 4), .ref (cs 4), _, rfl, S1 _ _ hx, .own _, T.xc 11 (by decide), T.kit 4 11 (by decide) (by decide), .ref a, rfl, a, cs 11, .ref (cs 5), .ref (cs 5), _, rfl, S1 _ _ hx, .own _, T.xc 11 (by decide), T.kit 5 11 (by decide) (by decide), (by show 3 ≤ sizeLine; decide), fun p2 n2 => ?_⟩
    obtain ⟨H2, e2, o2, g2, u2, S2⟩ := stepS (.lst [V.bl (decide (3 = 11)), V.bl (decide (4 = 11)), V.bl (decide (5 = 11))]) S1 n2
    rw [e2]
    refine ⟨p1, p2, [V.bl (decide (0 = 11)), V.bl (decide (1 = 11)), V.bl (decide (2 = 11))], [V.bl (decide (3 = 11)), V.bl (decide (4 = 11)), V.bl (decide (5 = 11))], rfl, rfl, u2 _ _ g1, g2, (by show 3 + 3 ≤ sizeLine; decide), fun p3 n3 => ?_⟩
    obtain ⟨H3, e3, o3, g3, u3, S3⟩ := stepS (.lst [V.bl (decide (0 = 11)), V.bl (decide (1 = 11)), V.bl (decide (2 = 11)), V.bl (decide (3 = 11)), V.bl (decide (4 = 11)), V.bl (decide (5 = 11))]) S2 n3
    rw [show (upd H2 p3 (.lst ([V.bl (decide (0 = 11)), V.bl (decide (1 = 11)), V.bl (decide (2 = 11))] ++ [V.bl (decide (3 = 11)), V.bl (decide (4 = 11)), V.bl (decide (5 = 11))]))) = H3 from e3]
    refine ⟨_, rfl, .ref a, rfl, a, cs 11, .ref (cs 6), .ref (cs 6), _, rfl, S3 _ _ hx, .own _, T.xc 11 (by decide), T.kit 6 11 (by decide) (by decide), .ref a, rfl, a, cs 11, .ref (cs 7), .ref (cs 7), _, rfl, S3 _ _ hx, .own _, T.xc 11 (by decide), T.kit 7 11 (by decide) (by decide), .ref a, rfl, a, cs 11, .ref (cs 8), .ref (cs 8), _, rfl, S3 _ _ hx, .own _, T.xc 11 (by decide), T.kit 8 11 (by decide) (by decide), (by show 3 ≤ sizeLine; decide), fun p4 n4 => ?_⟩
    obtain ⟨H4, e4, o4, g4, u4, S4⟩ := stepS (.lst [V.bl (decide (6 = 11)), V.bl (decide (7 = 11)), V.bl (decide (8 = 11))]) S3 n4
    rw [e4]
    refine ⟨p3, p4, [V.bl (decide (0 = 11)), V.bl (decide (1 = 11)), V.bl (decide (2 = 11)), V.bl (decide (3 = 11)), V.bl (decide (4 = 11)), V.bl (decide (5 = 11))], [V.bl (decide (6 = 11)), V.bl (decide (7 = 11)), V.bl (decide (8 = 11))], rfl, rfl, u4 _ _ g3, g4, (by show 6 + 3 ≤ sizeLine; decide), fun p5 n5 => ?_⟩
    obtain ⟨H5, e5, o5, g5, u5, S5⟩ := stepS (.lst [V.bl (decide (0 = 11)), V.bl (decide (1 = 11)), V.bl (decide (2 = 11)), V.bl (decide (3 = 11)), V.bl (decide (4 = 11)), V.bl (decide (5 = 11)), V.bl (decide (6 = 11)), V.bl (decide (7 = 11)), V.bl (decide (8 = 11))]) S4 n5
    rw [show (upd H4 p5 (.lst ([V.bl (decide (0 = 11)), V.bl (decide (1 = 11)), V.bl (decide (2 = 11)), V.bl (decide (3 = 11)), V.bl (decide (4 = 11)), V.bl (decide (5 = 11))] ++ [V.bl (decide (6 = 11)), V.bl (decide (7 = 11)), V.bl (decide (8 = 11))]))) = H5 from e5]
    refine ⟨_, rfl, .ref a, rfl, a, cs 11, .ref (cs 9), .ref (cs 9), _, rfl, S5 _ _ hx, .own _, T.xc 11 (by decide), T.kit 9 11 (by decide) (by decide), .ref a, rfl, a, cs 11, .ref (cs 10), .ref (cs 10), _, rfl, S5 _ _ hx, .own _, T.xc 11 (by decide), T.kit 10 11 (by decide) (by decide), (by show 2 ≤ sizeLine; decide), fun p6 n6 => ?_⟩
    obtain ⟨H6, e6, o6, g6, u6, S6⟩ := stepS (.lst [V.bl (decide (9 = 11)), V.bl (decide (10 = 11))]) S5 n6
    rw [e6]
    refine ⟨p5, p6, [V.bl (decide (0 = 11)), V.bl (decide (1 = 11)), V.bl (decide (2 = 11)), V.bl (decide (3 = 11)), V.bl (decide (4 = 11)), V.bl (decide (5 = 11)), V.bl (decide (6 = 11)), V.bl (decide (7 = 11)), V.bl (decide (8 = 11))], [V.bl (decide (9 = 11)), V.bl (decide (10 = 11))], rfl, rfl, u6 _ _ g5, g6, (by show 9 + 2 ≤ sizeLine; decide), fun p7 n7 => ?_⟩
    exact q p7 _ (S6.trans (same_upd n7)) (S6.free n7) upd_same
theorem ok_fields {f : Addr} {fd : FuncData} {n : Nat} (F : Fun K "_law_fields" "_law_fields" sFields f fd) (T : Txt K mg cs fi) : FnE P w K mg base (n + 1) f fd ["_law_kind", "_law_thing"] (spFields cs) := by
  refine okE F scX (fun a cls d vs H Q E h => ?_) (fun cdv A outer s H vs Q E a oe cls d hr hgd hot hz h => ?_)
  · obtain ⟨k, x, y, rfl, _⟩ := h
    rfl
  · obtain ⟨k, x, y, rfl, hh, q⟩ := h
    have hf : ∃ ws, oe.data = .fields ws := let ⟨_, v1, e1, _⟩ := hot; ⟨v1, e1⟩
    have hl := hh.lt
    refine ⟨_, pss_cons (ps_if (pt_cmpR op_eq (pv 0) pe_int (nomark _)) (pss_one (ps_ret (pe_lst (pa_cons (pe_xfP List.mem_cons_self hz hf (pv 1)) pa_nil)))) pss_nil)
      (pss_cons (ps_if (pt_cmpR op_eq (pv 0) pe_int (nomark _)) (pss_one (ps_ret (pe_lst (pa_cons (pe_xfP List.mem_cons_self hz hf (pv 1)) pa_nil)))) pss_nil)
      (pss_cons (ps_if (pt_cmpR op_eq (pv 0) pe_int (nomark _)) (pss_one (ps_ret (pe_lst (pa_cons (pe_xfP List.mem_cons_self hz hf (pv 1)) pa_nil)))) pss_nil)
      (pss_cons (ps_if (pt_cmpR op_eq (pv 0) pe_int (nomark _)) (pss_one (ps_ret (pe_lst (pa_cons (pe_xfP List.mem_cons_self hz hf (pv 1)) pa_nil)))) pss_nil)
      (pss_cons (ps_if (pt_cmpR op_eq (pv 0) pe_int (nomark _)) (pss_one (ps_ret (pe_lst (pa_cons (pe_xfP List.mem_cons_self hz hf (pv 1)) (pa_cons (pe_xfP List.mem_cons_self hz hf (pv 1)) pa_nil))))) pss_nil)
      (pss_cons (ps_if (pt_cmpR op_eq (pv 0) pe_int (nomark _)) (pss_one (ps_ret (pe_lst (pa_cons (pe_xfP List.mem_cons_self hz hf (pv 1)) (pa_cons (pe_xfP List.mem_cons_self hz hf (pv 1)) pa_nil))))) pss_nil)
      (pss_cons (ps_if (pt_cmpR op_eq (pv 0) pe_int (nomark _)) (pss_one (ps_ret (pe_lst (pa_cons (pe_xfP List.mem_cons_self hz hf (pv 1)) pa_nil)))) pss_nil)
      (pss_cons (ps_if (pt_cmpR op_eq (pv 0) pe_int (nomark _)) (pss_one (ps_ret (pe_lst (pa_cons (pe_xfP List.mem_cons_self hz hf (pv 1)) pa_nil)))) pss_nil)
      (pss_cons (ps_if (pt_cmpR op_in_seq (pv 0) (pe_tup (pa_cons pe_int (pa_cons pe_int pa_nil))) rfl) (pss_one (ps_ret (pe_lst (pa_cons (pe_xfP List.mem_cons_self hz hf (pv 1)) pa_nil)))) pss_nil)
      (pss_one (ps_ret (pe_lst pa_nil))))))))))), ?_⟩
    match k, hl, hh, q with
    | 0, _, hh, q =>
      obtain ⟨dd, rfl, hd⟩ := hh.dk (by decide)
      refine ⟨_, rfl, rfl, _, rfl, iteT ?_⟩
      refine ⟨_, rfl, rfl, cs 0, dd, _, x, hh.cl, T.xf 0 (by decide), T.no 0 (by decide) ("place", .non) (by first | exact List.mem_cons_self | exact List.mem_cons_of_mem _ List.mem_cons_self), rfl, hd, lk1 _ _, (by show 1 ≤ sizeLine; decide), fun p np => ?_⟩
      exact q p _ (same_upd np) np upd_same
    | 1, _, hh, q =>
      obtain ⟨dd, rfl, hd⟩ := hh.dk (by decide)
      refine ⟨_, rfl, rfl, _, rfl, iteF ?_⟩
      refine ⟨_, rfl, rfl, _, rfl, iteT ?_⟩
      refine ⟨_, rfl, rfl, cs 1, dd, _, x, hh.cl, T.xf 1 (by decide), T.no 1 (by decide) ("limit", .non) (by first | exact List.mem_cons_self | exact List.mem_cons_of_mem _ List.mem_cons_self), rfl, hd, lk1 _ _, (by show 1 ≤ sizeLine; decide), fun p np => ?_⟩
      exact q p _ (same_upd np) np upd_same
    | 2, _, hh, q =>
      obtain ⟨dd, rfl, hd⟩ := hh.dk (by decide)
      refine ⟨_, rfl, rfl, _, rfl, iteF ?_⟩
      refine ⟨_, rfl, rfl, _, rfl, iteF ?_⟩
      refine ⟨_, rfl, rfl, _, rfl, iteT ?_⟩
      refine ⟨_, rfl, rfl, cs 2, dd, _, x, hh.cl, T.xf 2 (by decide), T.no 2 (by decide) ("at", .non) (by first | exact List.mem_cons_self | exact List.mem_cons_of_mem _ List.mem_cons_self), rfl, hd, lk1 _ _, (by show 1 ≤ sizeLine; decide), fun p np => ?_⟩
      exact q p _ (same_upd np) np upd_same
    | 3, _, hh, q =>
      obtain ⟨dd, rfl, hd⟩ := hh.dk (by decide)
      refine ⟨_, rfl, rfl, _, rfl, iteF ?_⟩
      refine ⟨_, rfl, rfl, _, rfl, iteF ?_⟩
      refine ⟨_, rfl, rfl, _, rfl, iteF ?_⟩
      refine ⟨_, rfl, rfl, _, rfl, iteT ?_⟩
      refine ⟨_, rfl, rfl, cs 3, dd, _, x, hh.cl, T.xf 3 (by decide), T.no 3 (by decide) ("pair", .non) (by first | exact List.mem_cons_self | exact List.mem_cons_of_mem _ List.mem_cons_self), rfl, hd, lk1 _ _, (by show 1 ≤ sizeLine; decide), fun p np => ?_⟩
      exact q p _ (same_upd np) np upd_same
    | 4, _, hh, q =>
      obtain ⟨dd, rfl, hd⟩ := hh.dk (by decide)
      refine ⟨_, rfl, rfl, _, rfl, iteF ?_⟩
      refine ⟨_, rfl, rfl, _, rfl, iteF ?_⟩
      refine ⟨_, rfl, rfl, _, rfl, iteF ?_⟩
      refine ⟨_, rfl, rfl, _, rfl, iteF ?_⟩
      refine ⟨_, rfl, rfl, _, rfl, iteT ?_⟩
      refine ⟨_, rfl, rfl, cs 4, dd, _, x, hh.cl, T.xf 4 (by decide), T.no 4 (by decide) ("one", .non) (by first | exact List.mem_cons_self | exact List.mem_cons_of_mem _ List.mem_cons_self), rfl, hd, lk2b _ _ _ _ (by decide +kernel), _, rfl, rfl, cs 4, dd, _, y, hh.cl, T.xf 4 (by decide), T.no 4 (by decide) ("other", .non) (by first | exact List.mem_cons_self | exact List.mem_cons_of_mem _ List.mem_cons_self), rfl, hd, lk2a _ _ _ _, (by show 2 ≤ sizeLine; decide), fun p np => ?_⟩
      exact q p _ (same_upd np) np upd_same
    | 5, _, hh, q =>
      obtain ⟨dd, rfl, hd⟩ := hh.dk (by decide)
      refine ⟨_, rfl, rfl, _, rfl, iteF ?_⟩
      refine ⟨_, rfl, rfl, _, rfl, iteF ?_⟩
      refine ⟨_, rfl, rfl, _, rfl, iteF ?_⟩
      refine ⟨_, rfl, rfl, _, rfl, iteF ?_⟩
      refine ⟨_, rfl, rfl, _, rfl, iteF ?_⟩
      refine ⟨_, rfl, rfl, _, rfl, iteT ?_⟩
      refine ⟨_, rfl, rfl, cs 5, dd, _, x, hh.cl, T.xf 5 (by decide), T.no 5 (by decide) ("row", .non) (by first | exact List.mem_cons_self | exact List.mem_cons_of_mem _ List.mem_cons_self), rfl, hd, lk2b _ _ _ _ (by decide +kernel), _, rfl, rfl, cs 5, dd, _, y, hh.cl, T.xf 5 (by decide), T.no 5 (by decide) ("lots", .non) (by first | exact List.mem_cons_self | exact List.mem_cons_of_mem _ List.mem_cons_self), rfl, hd, lk2a _ _ _ _, (by show 2 ≤ sizeLine; decide), fun p np => ?_⟩
      exact q p _ (same_upd np) np upd_same
    | 6, _, hh, q =>
      obtain ⟨dd, rfl, hd⟩ := hh.dk (by decide)
      refine ⟨_, rfl, rfl, _, rfl, iteF ?_⟩
      refine ⟨_, rfl, rfl, _, rfl, iteF ?_⟩
      refine ⟨_, rfl, rfl, _, rfl, iteF ?_⟩
      refine ⟨_, rfl, rfl, _, rfl, iteF ?_⟩
      refine ⟨_, rfl, rfl, _, rfl, iteF ?_⟩
      refine ⟨_, rfl, rfl, _, rfl, iteF ?_⟩
      refine ⟨_, rfl, rfl, _, rfl, iteT ?_⟩
      refine ⟨_, rfl, rfl, cs 6, dd, _, x, hh.cl, T.xf 6 (by decide), T.no 6 (by decide) ("index", .non) (by first | exact List.mem_cons_self | exact List.mem_cons_of_mem _ List.mem_cons_self), rfl, hd, lk1 _ _, (by show 1 ≤ sizeLine; decide), fun p np => ?_⟩
      exact q p _ (same_upd np) np upd_same
    | 7, _, hh, q =>
      obtain ⟨dd, rfl, hd⟩ := hh.dk (by decide)
      refine ⟨_, rfl, rfl, _, rfl, iteF ?_⟩
      refine ⟨_, rfl, rfl, _, rfl, iteF ?_⟩
      refine ⟨_, rfl, rfl, _, rfl, iteF ?_⟩
      refine ⟨_, rfl, rfl, _, rfl, iteF ?_⟩
      refine ⟨_, rfl, rfl, _, rfl, iteF ?_⟩
      refine ⟨_, rfl, rfl, _, rfl, iteF ?_⟩
      refine ⟨_, rfl, rfl, _, rfl, iteF ?_⟩
      refine ⟨_, rfl, rfl, _, rfl, iteT ?_⟩
      refine ⟨_, rfl, rfl, cs 7, dd, _, x, hh.cl, T.xf 7 (by decide), T.no 7 (by decide) ("kept", .non) (by first | exact List.mem_cons_self | exact List.mem_cons_of_mem _ List.mem_cons_self), rfl, hd, lk1 _ _, (by show 1 ≤ sizeLine; decide), fun p np => ?_⟩
      exact q p _ (same_upd np) np upd_same
    | 8, _, hh, q =>
      obtain ⟨dd, rfl, hd⟩ := hh.dk (by decide)
      refine ⟨_, rfl, rfl, _, rfl, iteF ?_⟩
      refine ⟨_, rfl, rfl, _, rfl, iteF ?_⟩
      refine ⟨_, rfl, rfl, _, rfl, iteF ?_⟩
      refine ⟨_, rfl, rfl, _, rfl, iteF ?_⟩
      refine ⟨_, rfl, rfl, _, rfl, iteF ?_⟩
      refine ⟨_, rfl, rfl, _, rfl, iteF ?_⟩
      refine ⟨_, rfl, rfl, _, rfl, iteF ?_⟩
      refine ⟨_, rfl, rfl, _, rfl, iteF ?_⟩
      refine ⟨_, rfl, (by show 2 ≤ sizeLine; decide), fun t nt => ?_⟩
      refine ⟨t, _, rfl, .inr (SqT.of upd_same), rfl, ?fl, _, rfl, ?_⟩
      case fl => rfl
      refine iteT ?_
      refine ⟨_, rfl, rfl, cs 8, dd, _, x, hh.cl, T.xf 8 (by decide), T.no 8 (by decide) ("line", .non) (by first | exact List.mem_cons_self | exact List.mem_cons_of_mem _ List.mem_cons_self), rfl, (same_upd nt _ _ hd), lk1 _ _, (by show 1 ≤ sizeLine; decide), fun p np => ?_⟩
      exact q p _ ((same_upd nt).trans (same_upd np)) ((same_upd nt).free np) upd_same
    | 9, _, hh, q =>
      obtain ⟨dd, rfl, hd⟩ := hh.dk (by decide)
      refine ⟨_, rfl, rfl, _, rfl, iteF ?_⟩
      refine ⟨_, rfl, rfl, _, rfl, iteF ?_⟩
      refine ⟨_, rfl, rfl, _, rfl, iteF ?_⟩
      refine ⟨_, rfl, rfl, _, rfl, iteF ?_⟩
      refine ⟨_, rfl, rfl, _, rfl, iteF ?_⟩
      refine ⟨_, rfl, rfl, _, rfl, iteF ?_⟩
      refine ⟨_, rfl, rfl, _, rfl, iteF ?_⟩
      refine ⟨_, rfl, rfl, _, rfl, iteF ?_⟩
      refine ⟨_, rfl, (by show 2 ≤ sizeLine; decide), fun t nt => ?_⟩
      refine ⟨t, _, rfl, .inr (SqT.of upd_same), rfl, ?fl, _, rfl, ?_⟩
      case fl => rfl
      refine iteT ?_
      refine ⟨_, rfl, rfl, cs 9, dd, _, x, hh.cl, T.xf 9 (by decide), T.no 9 (by decide) ("line", .non) (by first | exact List.mem_cons_self | exact List.mem_cons_of_mem _ List.mem_cons_self), rfl, (same_upd nt _ _ hd), lk1 _ _, (by show 1 ≤ sizeLine; decide), fun p np => ?_⟩
      exact q p _ ((same_upd nt).trans (same_upd np)) ((same_upd nt).free np) upd_same
    | 10, _, hh, q =>
      refine ⟨_, rfl, rfl, _, rfl, iteF ?_⟩
      refine ⟨_, rfl, rfl, _, rfl, iteF ?_⟩
      refine ⟨_, rfl, rfl, _, rfl, iteF ?_⟩
      refine ⟨_, rfl, rfl, _, rfl, iteF ?_⟩
      refine ⟨_, rfl, rfl, _, rfl, iteF ?_⟩
      refine ⟨_, rfl, rfl, _, rfl, iteF ?_⟩
      refine ⟨_, rfl, rfl, _, rfl, iteF ?_⟩
      refine ⟨_, rfl, rfl, _, rfl, iteF ?_⟩
      refine ⟨_, rfl, (by show 2 ≤ sizeLine; decide), fun t nt => ?_⟩
      refine ⟨t, _, rfl, .inr (SqT.of upd_same), rfl, ?fl, _, rfl, ?_⟩
      case fl => rfl
      refine iteF ?_
      refine ⟨Nat.zero_le _, fun p np => ?_⟩
      exact q p _ ((same_upd nt).trans (same_upd np)) ((same_upd nt).free np) upd_same
end
end T11
/-! What must be right of a caught error. -/
namespace T11
open PySem PySem.Spec PyProof.Rows L2 Wk
/-! ### data -/
mutual
theorem Rp.same {H H' : Hp} (S : Same H H') : ∀ {d : PyData} {v : V}, Rp H v d → Rp H' v d
  | _, _, .non => .non
  | _, _, .bl b => .bl b
  | _, _, .int i => .int i
  | _, _, .str x => .str x
  | _, _, .lst h a => .lst (S _ _ h) (RpAll.same S a)
  | _, _, .tup h a => .tup (S _ _ h) (RpAll.same S a)
  | _, _, .dic h a => .dic (S _ _ h) (RpKv.same S a)
theorem RpAll.same {H H' : Hp} (S : Same H H') : ∀ {ds : List PyData} {vs : List V}, RpAll H vs ds → RpAll H' vs ds
  | _, _, .nil => .nil
  | _, _, .cons h a => .cons (Rp.same S h) (RpAll.same S a)
theorem RpKv.same {H H' : Hp} (S : Same H H') : ∀ {ps : List (PyData × PyData)} {es : List (Key × V)}, RpKv H es ps → RpKv H' es ps
  | _, _, .nil => .nil
  | _, _, .cons h a => .cons (Rp.same S h) (RpKv.same S a)
end
theorem RpAll.snoc {H : Hp} {v : V} {d : PyData} (h : Rp H v d) : ∀ {vs : List V} {ds : List PyData}, RpAll H vs ds → RpAll H (vs ++ [v]) (ds ++ [d])
  | _, _, .nil => .cons h .nil
  | _, _, .cons a b => .cons a (RpAll.snoc h b)
theorem showable_snoc : ∀ {ds : List PyData} {d : PyData}, PyData.showableAll ds = true → d.showable = true → PyData.showableAll (ds ++ [d]) = true
  | [], d, _, h => by show PyData.showableAll [d] = true; simp [PyData.showableAll, h]
  | e :: ds, d, h1, h2 => by
    have h1' : e.showable = true ∧ PyData.showableAll ds = true := by simpa [PyData.showableAll] using h1
    show PyData.showableAll (e :: (ds ++ [d])) = true
    simp [PyData.showableAll, h1'.1, showable_snoc h1'.2 h2]
theorem depth_snoc : ∀ {ds : List PyData} {d : PyData}, PyData.depthAll ds ≤ 8 → d.depth ≤ 8 → PyData.depthAll (ds ++ [d]) ≤ 8
  | [], d, _, h => by show PyData.depthAll [d] ≤ 8; simp only [PyData.depthAll]; omega
  | e :: ds, d, h1, h2 => by
    simp only [PyData.depthAll] at h1
    show PyData.depthAll (e :: (ds ++ [d])) ≤ 8
    have := depth_snoc (ds := ds) (d := d) (by omega) h2
    simp only [PyData.depthAll]; omega
theorem cost_snoc : ∀ (ds : List PyData) (d : PyData), cost (ds ++ [d]) = cost ds + (d.shown.length + 2)
  | [], d => by show d.shown.length + 2 + 0 = 0 + (d.shown.length + 2); omega
  | e :: ds, d => by
    show e.shown.length + 2 + cost (ds ++ [d]) = e.shown.length + 2 + cost ds + (d.shown.length + 2)
    rw [cost_snoc ds d]; omega
/-- it can be shown -/
def Dat (H : Hp) (v : V) : Prop := ∃ d, Rp H v d ∧ d.showable = true ∧ d.depth ≤ 9 ∧ d.shown.length ≤ 150
theorem Dat.same {H H' : Hp} {v : V} (h : Dat H v) (S : Same H H') : Dat H' v := let ⟨d, h1, h2⟩ := h; ⟨d, Rp.same S h1, h2⟩
theorem lst_dat {H : Hp} {a : Addr} {vs : List V} {ds : List PyData} (ha : H a = some (.lst vs)) (hd : RpAll H vs ds) (h1 : PyData.showableAll ds = true) (h2 : PyData.depthAll ds ≤ 8) (h3 : cost ds ≤ 148) : Dat H (.ref a) := by
  refine ⟨.list ds, .lst ha hd, by simpa [PyData.showable] using h1, by simp only [PyData.depth]; omega, ?_⟩
  have := listText_le ds
  simp only [PyData.shown]; omega
theorem VOk.dat {H : Hp} {v : V} (h : VOk H v) : Dat H v := by
  cases h with
  | non => exact ⟨_, .non, by decide +kernel, by decide +kernel, by decide +kernel⟩
  | bl b => exact ⟨_, .bl b, by cases b <;> decide +kernel, by cases b <;> decide +kernel, by cases b <;> decide +kernel⟩
  | int i h1 h2 => exact ⟨_, .int i, by simp [PyData.showable, h1], by simp only [PyData.depth]; omega, by omega⟩
  | str x h1 => exact ⟨_, .str x, by simp only [PyData.showable], by simp only [PyData.depth]; omega, by omega⟩
  | tup ha hd h1 h2 h3 => exact ⟨_, .tup ha hd, by simpa [PyData.showable] using h1, by simp only [PyData.depth]; omega, by omega⟩
  | dic ha hd h1 h2 h3 => exact ⟨_, .dic ha hd, by simpa [PyData.showable] using h1, by simp only [PyData.depth]; omega, by omega⟩
  | lst ha hm hs hd h1 h2 h3 h4 => exact lst_dat ha (RpAll.same hs hd) h1 h2 (by omega)
/-- a list or not -/
theorem VOk.kind {H H' : Hp} {v : V} (h : VOk H v) (S : Same H H') : ∃ (t : Value) (b : Bool), (∀ K, TyOf K H' v t) ∧ (∀ K, PySem.W.kitOne K t (.type "list") = some b) ∧
    (b = true → ∃ (a : Addr) (vs : List V), v = .ref a ∧ H a = some (.lst vs) ∧ vs.length ≤ 10 ∧ ∀ x : Str, (PyData.str x).shown.length ≤ 40 → Dat (upd H a (.lst (vs ++ [.str x]))) (.ref a)) := by
  cases h with
  | non => exact ⟨_, false, fun _ => .non, fun K => kit_ty (by decide +kernel), fun z => nomatch z⟩
  | bl b => exact ⟨_, false, fun _ => .bl b, fun K => kit_ty (by decide +kernel), fun z => nomatch z⟩
  | int i h1 h2 => exact ⟨_, false, fun _ => .int i, fun K => kit_ty (by decide +kernel), fun z => nomatch z⟩
  | str x h1 => exact ⟨_, false, fun _ => .str x, fun K => kit_ty (by decide +kernel), fun z => nomatch z⟩
  | tup ha hd h1 h2 h3 => exact ⟨_, false, fun _ => .tup (S _ _ ha), fun K => kit_ty (by decide +kernel), fun z => nomatch z⟩
  | dic ha hd h1 h2 h3 => exact ⟨_, false, fun _ => .dK (S _ _ ha), fun K => kit_ty (by decide +kernel), fun z => nomatch z⟩
  | @lst a vs ds Hm ha hm hs hd h1 h2 h3 h4 =>
    refine ⟨_, true, fun _ => .lst (S _ _ ha), fun K => kit_ty (by decide +kernel), fun _ => ⟨a, vs, rfl, ha, h4, fun x hx => ?_⟩⟩
    have sm : Same Hm (upd H a (.lst (vs ++ [.str x]))) := fun c o z => by
      rw [upd_ne (ne_of_none z hm)]; exact hs _ _ z
    refine lst_dat upd_same (RpAll.snoc (.str x) (RpAll.same sm hd)) (showable_snoc h1 (by simp only [PyData.showable])) (depth_snoc h2 (by simp only [PyData.depth]; omega)) ?_
    rw [cost_snoc]; omega
/-- the data of an error's fields -/
def datas : Nat → PyData → PyData → List PyData
  | 4, x, y => [x, y]
  | 5, x, y => [x, y]
  | 10, _, _ => []
  | _, x, _ => [x]
theorem vals_all {H : Hp} {x y : V} {dx dy : PyData} (hx : Rp H x dx) (hy : Rp H y dy) (sx : dx.showable = true) (sy : dy.showable = true) (ex : dx.depth ≤ 9) (ey : dy.depth ≤ 9) (lx : dx.shown.length ≤ 150) (ly : dy.shown.length ≤ 150) (k : Nat) :
    RpAll H (vals k x y) (datas k dx dy) ∧ PyData.showableAll (datas k dx dy) = true ∧ PyData.depthAll (datas k dx dy) ≤ 40 ∧ (listText (PyData.shownAll (datas k dx dy))).length ≤ sizeLine := by
  have two : RpAll H [x, y] [dx, dy] ∧ PyData.showableAll [dx, dy] = true ∧ PyData.depthAll [dx, dy] ≤ 40 ∧ (listText (PyData.shownAll [dx, dy])).length ≤ sizeLine := by
    refine ⟨.cons hx (.cons hy .nil), by simp [PyData.showableAll, sx, sy], by simp only [PyData.depthAll]; omega, ?_⟩
    have h := listText_le [dx, dy]
    have e : cost [dx, dy] = dx.shown.length + 2 + (dy.shown.length + 2 + 0) := rfl
    rw [sizeLine_eq]; omega
  have one : RpAll H [x] [dx] ∧ PyData.showableAll [dx] = true ∧ PyData.depthAll [dx] ≤ 40 ∧ (listText (PyData.shownAll [dx])).length ≤ sizeLine := by
    refine ⟨.cons hx .nil, by simp [PyData.showableAll, sx], by simp only [PyData.depthAll]; omega, ?_⟩
    have h := listText_le [dx]
    have e : cost [dx] = dx.shown.length + 2 + 0 := rfl
    rw [sizeLine_eq]; omega
  have nul : RpAll H [] [] ∧ PyData.showableAll [] = true ∧ PyData.depthAll [] ≤ 40 ∧ (listText (PyData.shownAll [])).length ≤ sizeLine := ⟨.nil, by decide +kernel, by decide +kernel, by decide +kernel⟩
  match k with
  | 0 => exact one
  | 1 => exact one
  | 2 => exact one
  | 3 => exact one
  | 4 => exact two
  | 5 => exact two
  | 6 => exact one
  | 7 => exact one
  | 8 => exact one
  | 9 => exact one
  | 10 => exact nul
  | _ + 11 => exact one
/-- how many of the two values are fields -/
theorem due_cut (x y : V) : ∀ k, k < 11 → ∃ c : Int, ([V.int 1, V.int 1, V.int 1, V.int 1, V.int 2, V.int 2, V.int 1, V.int 1, V.int 1, V.int 1, V.int 0] : List V)[k]? = some (.int c) ∧ cutV [x, y] none (some c) = vals k x y
  | 0, _ => ⟨_, rfl, rfl⟩
  | 1, _ => ⟨_, rfl, rfl⟩
  | 2, _ => ⟨_, rfl, rfl⟩
  | 3, _ => ⟨_, rfl, rfl⟩
  | 4, _ => ⟨_, rfl, rfl⟩
  | 5, _ => ⟨_, rfl, rfl⟩
  | 6, _ => ⟨_, rfl, rfl⟩
  | 7, _ => ⟨_, rfl, rfl⟩
  | 8, _ => ⟨_, rfl, rfl⟩
  | 9, _ => ⟨_, rfl, rfl⟩
  | 10, _ => ⟨_, rfl, rfl⟩
end T11
namespace T11
open PySem PySem.Spec PyProof.Rows L2 Wk
abbrev sRight : Stmt := top 20
/-- all stands but the two lists that are handed on -/
def But2 (x y : V) (H H' : Hp) : Prop := ∀ c o, H c = some o → V.ref c ≠ x → V.ref c ≠ y → H' c = some o
def spRight (cs : Nat → Addr) : SpE := fun a cls d vs H Q _ => ∃ (k : Nat) (x y : V) (Hx Hy : Hp), vs = [.int (k : Int), .ref a, x, y] ∧ Hand cs k x y cls d H ∧ VOk Hx x ∧ Same Hx H ∧ VOk Hy y ∧ Same Hy H ∧
  (∀ c o, Hx c = some o → Hy c = none) ∧ ∀ H', But2 x y H H' → Q (.bl true) H'
theorem scG : FnScope ["_law_kind", "_law_thing", "_law_one_here", "_law_other", "_law_due", "_law_k"] ["_law_kind", "_law_thing", "_law_one_here", "_law_other"] (defScope sRight) := ⟨rfl, rfl, rfl, by decide +kernel, rfl, by decide +kernel, by decide +kernel⟩
theorem But2.same {x y : V} {H H1 H' : Hp} (S : Same H H1) (h : But2 x y H1 H') : But2 x y H H' := fun c o z n1 n2 => h c o (S _ _ z) n1 n2
theorem But2.then {x y : V} {H H1 H' : Hp} (h : But2 x y H H1) (S : Same H1 H') : But2 x y H H' := fun c o z n1 n2 => S _ _ (h c o z n1 n2)
/-- flags as data -/
def flD (k : Nat) : List PyData := (List.range 11).map fun j => PyData.bool (decide (j = k))
theorem bools_dp {K : PySem.W.Frag} {H : Hp} (g : Nat → Bool) : ∀ l : List Nat, DpAll K H (l.map fun j => V.bl (g j)) (l.map fun j => PyData.bool (g j))
  | [] => .nil
  | j :: l => .cons (.bl _) (bools_dp g l)
theorem shaped_fl (k : Nat) : SeqAt.shaped (.list (flD k)) = true := by
  have h : ∀ l : List Nat, PyData.canLayAll0 (l.map fun j => PyData.bool (decide (j = k))) = true ∧ PyData.depthAll (l.map fun j => PyData.bool (decide (j = k))) ≤ 1 := by
    intro l
    induction l with
    | nil => exact ⟨by simp [PyData.canLayAll0], by simp [PyData.depthAll]⟩
    | cons j l ih =>
      refine ⟨by simp [PyData.canLayAll0, PyData.canLay0, ih.1], ?_⟩
      have := ih.2
      simp only [List.map_cons, PyData.depthAll, PyData.depth]; omega
  obtain ⟨h1, h2⟩ := h (List.range 11)
  unfold SeqAt.shaped
  rw [Bool.and_eq_true]
  refine ⟨by simp only [PyData.canLay0]; exact h1, decide_eq_true ?_⟩
  show PyData.depth (.list (flD k)) ≤ 64
  simp only [PyData.depth]
  have : PyData.depthAll (flD k) ≤ 1 := h2
  omega
theorem Hand.put {cs : Nat → Addr} {k : Nat} {x y : V} {cls : Value} {d : Option Addr} {H : Hp} {l : Addr} {vs ws : List V} (h : Hand cs k x y cls d H) (hl : H l = some (.lst vs)) : Hand cs k x y cls d (upd H l (.lst ws)) :=
  ⟨h.lt, h.cl, fun hk => let ⟨dd, h1, h2⟩ := h.dk hk; ⟨dd, h1, by rw [upd_ne (ne_of h2 hl (by intro z; cases z))]; exact h2⟩, h.d0⟩
theorem same_put {H G : Hp} {l : Addr} {o : HO} (S : Same H G) : Same (upd H l o) (upd G l o) := fun c u z => by
  by_cases hc : c = l
  · rw [hc, upd_same] at z; rw [hc, upd_same]; exact z
  · rw [upd_ne hc] at z; rw [upd_ne hc]; exact S _ _ z
theorem same_past {H G : Hp} {l : Addr} {o : HO} (S : Same H G) (h : H l = none) : Same H (upd G l o) := fun c u z => by
  rw [upd_ne (ne_of_none z h)]; exact S _ _ z
theorem But2.put {x y : V} {H G : Hp} {l : Addr} {o : HO} (h : But2 x y H G) (hl : V.ref l = x ∨ V.ref l = y) : But2 x y H (upd G l o) := fun c u z n1 n2 => by
  have hc : c ≠ l := fun e => by
    subst e
    rcases hl with e | e
    · exact n1 e
    · exact n2 e
  rw [upd_ne hc]; exact h c u z n1 n2
section
variable {P : Program} {w : World} {K : PySem.W.Frag} {mg : Str → Option Value} {base : Heap} {cs fi : Nat → Addr}
theorem ok_right {f fF fX : Addr} {fd fdF fdX : FuncData} {n : Nat} (F : Fun K "_law_right" "_law_right" sRight f fd) (T : Txt K mg cs fi)
    (GF : FnE P w K mg base n fF fdF ["_law_thing"] (spFlags cs)) (gF : mg "_law_flags" = some (.ref fF)) (kF : PySem.W.keepIn K (.ref fF) = true) (bF : Binds K fdF ["_law_thing"] [])
    (GX : FnE P w K mg base n fX fdX ["_law_kind", "_law_thing"] (spFields cs)) (gX : mg "_law_fields" = some (.ref fX)) (kX : PySem.W.keepIn K (.ref fX) = true) (bX : Binds K fdX ["_law_kind", "_law_thing"] []) :
    FnE P w K mg base (n + 1) f fd ["_law_kind", "_law_thing", "_law_one_here", "_law_other"] (spRight cs) := by
  refine okE F scG (fun a cls d vs H Q E h => ?_) (fun cdv A outer s H vs Q E a oe cls d hr hgd hot hz h => ?_)
  · obtain ⟨k, x, y, Hx, Hy, rfl, _⟩ := h
    rfl
  · obtain ⟨k, x, y, Hx, Hy, rfl, hh, vx, sx, vy, sy, dis, q⟩ := h
    have hf : ∃ ws, oe.data = .fields ws := let ⟨_, v1, e1, _⟩ := hot; ⟨v1, e1⟩
    have hu : A.units + 3 + 64 < cLine := by have z : A.units + 3 + 16 * n + 200 < cLine := hr.un; omega
    refine ⟨_, pss_cons (ps_set (i := 4) scG.nd rfl (Or.inl rfl) (pe_slice sl_list (pe_lst (pa_cons (pv 2) (pa_cons (pv 3) pa_nil))) po_none (po_some (pe_ix ix_list
        (pe_lst (pa_cons pe_int (pa_cons pe_int (pa_cons pe_int (pa_cons pe_int (pa_cons pe_int (pa_cons pe_int (pa_cons pe_int (pa_cons pe_int (pa_cons pe_int (pa_cons pe_int (pa_cons pe_int pa_nil)))))))))))) (pv 0) (fun _ _ => rfl)))))
      (C8.pss_cut (ps_if (pt_val (pe_callB call_isi (by rfl) T.misi (by decide +kernel) (pa_cons (pv 3) (pa_cons (pe_bltn (v := .ty "list") (by rfl) T.mlis (by decide +kernel) rfl) pa_nil))))
        (pss_one (ps_expr (pe_bm PySem.F.plainAttrs_list PySem.F.slot_list_append PySem.F.type_list_append mt_append (pv 3) (pa_cons pe_str pa_nil)))) pss_nil)
      (C8.pss_cut (ps_if (pt_val (pe_callB call_isi (by rfl) T.misi (by decide +kernel) (pa_cons (pv 2) (pa_cons (pe_bltn (v := .ty "list") (by rfl) T.mlis (by decide +kernel) rfl) pa_nil))))
        (pss_one (ps_expr (pe_bm PySem.F.plainAttrs_list PySem.F.slot_list_append PySem.F.type_list_append mt_append (pv 2) (pa_cons pe_str pa_nil)))) pss_nil)
      (pss_cons (ps_if (pt_cmpR op_ne (pe_callB (call_reprL hgd hu) (by rfl) T.mrep (by decide +kernel) (pa_cons (pe_callE GX hr hgd hot hz List.mem_cons_self rfl gX kX bX (pa_cons (pv 0) (pa_cons (pv 1) pa_nil))) pa_nil))
          (pe_callB (call_reprL hgd hu) (by rfl) T.mrep (by decide +kernel) (pa_cons (pv 4) pa_nil)) (nomark _)) (pss_one (ps_ret pe_bl)) pss_nil)
      (pss_cons (ps_if (pt_cmpR (op_neD hu) (pe_callE GF hr hgd hot hz List.mem_cons_self rfl gF kF bF (pa_cons (pv 1) pa_nil))
          (pe_lcH (own := [("_law_k", 5)]) (g := gName 5) (tt := tYes) ⟨(a, oe), hot, List.mem_cons_self⟩ scG.nd (L2H.pi_range1H rfl T.mran (pa_cons pe_int pa_nil)) (blkOk_by (N := ["_law_kind", "_law_thing", "_law_one_here", "_law_other", "_law_due", "_law_k"]) (sc := defScope sRight) (by decide +kernel))
            (fun _ _ _ _ _ => pg_name (i := 5) scG.nd rfl (Or.inl rfl)) (fun _ _ _ _ _ => pts_nil) (fun _ _ _ _ _ => pe_cmpR op_eq (pv 5) (pv 0) (nomark _))) (nomark _)) (pss_one (ps_ret pe_bl)) pss_nil)
      (pss_one (ps_ret (pe_and (pe_callB (call_isP List.mem_cons_self hz hf) (by rfl) T.misi (by decide +kernel) (pa_cons (pv 1) (pa_cons (pe_glob (v := .ref (cs 11)) rfl T.g11 rfl) pa_nil)))
        (pe_one (pe_callB (call_isP List.mem_cons_self hz hf) (by rfl) T.misi (by decide +kernel) (pa_cons (pv 1) (pa_cons (pe_bltn (v := .ty "ValueError") (by rfl) T.mval (by decide +kernel) rfl) pa_nil))))))))))), ?_⟩
    have hk : k < 11 := hh.lt
    obtain ⟨c, hc1, hc2⟩ := due_cut x y k hk
    -- due
    refine ⟨_, rfl, _, rfl, (by show 2 ≤ sizeLine; decide), fun p0 n0 => ⟨(by show 11 ≤ sizeLine; decide), fun p1 n1 => ?_⟩⟩
    refine ⟨_, rfl, p1, _, (k : Int), .int c, rfl, rfl, .inl (.inl upd_same), atI_nat hc1, c, rfl, p0, _, rfl, .inl (.inl (same_upd n1 _ _ upd_same)), fun p2 n2 => ?_⟩
    rw [hc2]
    have S0 : Same H (upd (upd (upd H p0 (.lst [x, y])) p1 (.lst [V.int 1, V.int 1, V.int 1, V.int 1, V.int 2, V.int 2, V.int 1, V.int 1, V.int 1, V.int 1, V.int 0])) p2 (.lst (vals k x y))) := (same_upd n0).trans ((same_upd n1).trans (same_upd n2))
    have np2 : H p2 = none := ((same_upd n0).trans (same_upd n1)).free n2
    have g2 : (upd (upd (upd H p0 (.lst [x, y])) p1 (.lst [V.int 1, V.int 1, V.int 1, V.int 1, V.int 2, V.int 2, V.int 1, V.int 1, V.int 1, V.int 1, V.int 0])) p2 (.lst (vals k x y))) p2 = some (.lst (vals k x y)) := upd_same
    generalize (upd (upd (upd H p0 (.lst [x, y])) p1 (.lst [V.int 1, V.int 1, V.int 1, V.int 1, V.int 2, V.int 2, V.int 1, V.int 1, V.int 1, V.int 1, V.int 0])) p2 (.lst (vals k x y))) = G0 at S0 g2 ⊢
    -- if isinstance(other, list): other.append('late')
    refine ⟨fun σ H2 => σ = [some (.int (k : Int)), some (.ref a), some x, some y, some (.ref p2), none] ∧ (∃ Hy', Dat Hy' y ∧ Same Hy' H2 ∧ ∀ c o, Hx c = some o → Hy' c = none) ∧ Same Hx H2 ∧ H2 p2 = some (.lst (vals k x y)) ∧ Hand cs k x y cls d H2 ∧ But2 x y H H2, ?_, ?_⟩
    · obtain ⟨t, b, ty, kt, hb⟩ := vy.kind (sy.trans S0)
      refine ⟨_, rfl, y, .ty "list", t, .type "list", b, rfl, .ty _, .base (ty K), kt K, b, rfl, ?_⟩
      cases b with
      | false => exact iteF ⟨rfl, ⟨Hy, vy.dat, sy.trans S0, dis⟩, sx.trans S0, g2, hh.same S0, fun c o z _ _ => S0 _ _ z⟩
      | true =>
        obtain ⟨l, vs, rfl, hl, hz10, hd⟩ := hb rfl
        have gl : G0 l = some (.lst vs) := S0 _ _ (sy _ _ hl)
        have nl : Hx l = none := by
          cases e : Hx l with
          | none => rfl
          | some o => have z := dis l o e; rw [hl] at z; cases z
        refine iteT ⟨_, rfl, .inl ⟨rfl, _, .inl (.inl gl)⟩, l, vs, _, rfl, rfl, gl, small1000 (by omega), ?_⟩
        refine ⟨rfl, ⟨upd Hy l (.lst (vs ++ [.str "late"])), hd "late" (by decide +kernel), same_put (sy.trans S0), fun c o z => ?_⟩, same_past (sx.trans S0) nl, ?_, (hh.same S0).put gl, But2.put (fun c o z _ _ => S0 _ _ z) (.inr rfl)⟩
        · rw [upd_ne (ne_of_none z nl)]; exact dis c o z
        · rw [upd_ne (ne_of_none (sy _ _ hl) np2).symm]; exact g2
    · rintro σ H2 ⟨rfl, ⟨Hy', dy, sy', dis'⟩, sx', g2', hh', bt'⟩
      -- if isinstance(one, list): one.append('later')
      refine ⟨fun σ H3 => σ = [some (.int (k : Int)), some (.ref a), some x, some y, some (.ref p2), none] ∧ Dat H3 x ∧ Dat H3 y ∧ H3 p2 = some (.lst (vals k x y)) ∧ Hand cs k x y cls d H3 ∧ But2 x y H H3, ?_, ?_⟩
      · obtain ⟨t, b, ty, kt, hb⟩ := vx.kind sx'
        refine ⟨_, rfl, x, .ty "list", t, .type "list", b, rfl, .ty _, .base (ty K), kt K, b, rfl, ?_⟩
        cases b with
        | false => exact iteF ⟨rfl, vx.dat.same sx', dy.same sy', g2', hh', bt'⟩
        | true =>
          obtain ⟨l, vs, rfl, hl, hz10, hd⟩ := hb rfl
          have gl : H2 l = some (.lst vs) := sx' _ _ hl
          refine iteT ⟨_, rfl, .inl ⟨rfl, _, .inl (.inl gl)⟩, l, vs, _, rfl, rfl, gl, small1000 (by omega), ?_⟩
          refine ⟨rfl, (hd "later" (by decide +kernel)).same (same_put sx'), dy.same (same_past sy' (dis' _ _ hl)), ?_, hh'.put gl, bt'.put (.inl rfl)⟩
          rw [upd_ne (ne_of_none (sx _ _ hl) np2).symm]; exact g2'
      · rintro σ H3 ⟨rfl, ⟨dx, rx, x1, x2, x3⟩, ⟨dy2, ry, y1, y2, y3⟩, g3, hh3, bt3⟩
        -- repr of the fields, repr of what is due
        refine ⟨_, rfl, _, rfl, k, x, y, rfl, hh3, fun pf H4 S4 nf gf => ?_⟩
        obtain ⟨r1, r2, r3, r4⟩ := vals_all (H := H4) (Rp.same S4 rx) (Rp.same S4 ry) x1 y1 x2 y2 x3 y3 k
        refine ⟨pf, _, _, rfl, gf, r1, r2, r3, r4, _, rfl, p2, _, _, rfl, S4 _ _ g3, r1, r2, r3, r4, rfl, _, rfl, iteNS rfl ?_⟩
        refine ⟨_, rfl, k, x, y, rfl, hh3.same S4, fun pg H5 S5 ng gg => ?_⟩
        refine ⟨11, rfl, by decide, by decide, fun D nD => ?_⟩
        refine lc_range (lo := 0) (n := 11) (fun i H6 => Same H5 H6 ∧ H6 D = some (.lst ((List.range i).map fun j : Nat => V.bl (decide (V.int (0 + (j : Int)) = V.int (k : Int)))))) ⟨same_upd nD, by rw [upd_same]; rfl⟩ ?_ ?_
        · rintro i H6 hi ⟨S6, g6⟩
          refine ⟨rfl, _, rfl, _, rfl, rfl, _, g6, ?_, ?_, ?_⟩
          · rw [List.length_map, List.length_range]
            exact small1000 (by omega)
          · exact same_past S6 nD
          · rw [upd_same, List.range_succ, List.map_append]
            rfl
        · rintro H6 ⟨S6, g6⟩
          have e : ((List.range 11).map fun j : Nat => V.bl (decide (V.int (0 + (j : Int)) = V.int (k : Int)))) = fl k := by
            refine List.map_congr_left (fun j _ => ?_)
            have e1 : (V.int (0 + (j : Int)) = V.int (k : Int)) ↔ j = k := ⟨fun z => by have := V.int.inj z; omega, fun z => by rw [z]; congr 1; omega⟩
            exact congrArg V.bl (decide_eq_decide.mpr e1)
          rw [e] at g6
          refine ⟨.list (flD k), .list (flD k), .lst (.inl (.inl (S6 _ _ gg))) (bools_dp (fun j => decide (j = k)) (List.range 11)), .lst (.inl (.inl g6)) (bools_dp (fun j => decide (j = k)) (List.range 11)), shaped_fl k, shaped_fl k, _, rfl, ?_⟩
          rw [SeqAt.eqv_refl _ (SeqAt.canLay_of_shaped (shaped_fl k))]
          refine iteF ?_
          have S36 : Same H3 H6 := S4.trans (S5.trans S6)
          refine ⟨_, rfl, .ref (cs 11), .ref (cs 11), true, cs k, rfl, .own _, hh.cl, T.xc k (by omega), (hh3.same S36).ok, T.kitB k hk, true, rfl, iteT ?_⟩
          exact ⟨_, rfl, .ty "ValueError", .type "ValueError", true, cs k, rfl, .ty _, hh.cl, T.xc k (by omega), (hh3.same S36).ok, T.kitV k (by omega), q H6 (bt3.then S36)⟩
end
end T11
namespace T11
open PySem PySem.Spec PyProof.Rows L2 Wk
abbrev sBase : Stmt := top 21
abbrev sBare : Stmt := top 22
def spBase : Sp := fun vs H Q _ => ∃ (k : Nat) (x y : V) (Hx Hy : Hp), k < 11 ∧ vs = [.int (k : Int), x, y] ∧ VOk Hx x ∧ Same Hx H ∧ VOk Hy y ∧ Same Hy H ∧ (∀ c o, Hx c = some o → Hy c = none) ∧ ∀ H', But2 x y H H' → Q (.bl true) H'
def spBare : Sp := fun vs H Q _ => vs = [] ∧ Q (.str "told") H
theorem scE : FnScope ["_law_kind", "_law_one_here", "_law_other", "e"] ["_law_kind", "_law_one_here", "_law_other"] (defScope sBase) := ⟨rfl, rfl, rfl, by decide +kernel, rfl, by decide +kernel, by decide +kernel⟩
theorem scN : FnScope ["e"] [] (defScope sBare) := ⟨rfl, rfl, rfl, by decide +kernel, rfl, by decide +kernel, by decide +kernel⟩
theorem roomM {A : Around} {v : Option Value} (hr : Room 3 A) : L2H.RoomH 2 (A.mark v) := ⟨by have := hr.dp; show A.depth + 3 * 2 + 5 < recursionLimit; omega, by have := hr.un; show A.units + 16 * 2 + 200 < cLine; omega⟩
theorem call_isPK {X : Cx} {K : PySem.W.Frag} {a : Addr} {oe : Obj} {cls : Value} {d : Option Addr} (hK : X.K = K) (hp : (a, oe) ∈ X.pn) (hz : Zc cls d oe) (hf : ∃ ws, oe.data = .fields ws) : CallR X (.builtin "isinstance") (rIsP K a cls d) := by
  subst hK
  exact call_isP hp hz hf
section
variable {P : Program} {w : World} {K : PySem.W.Frag} {mg : Str → Option Value} {base : Heap} {cs fi : Nat → Addr}
theorem ok_base {f fR fE : Addr} {fd fdR fdE : FuncData} (F : Fun K "_law_base" "_law_base" sBase f fd) (T : Txt K mg cs fi)
    (GR : FnOk P w K mg base (L2N.CX P w) 3 fR fdR ["_law_kind", "_law_one_here", "_law_other"] (spRaise cs)) (gR : mg "_law_raise" = some (.ref fR)) (kR : PySem.W.keepIn K (.ref fR) = true) (bR : Binds K fdR ["_law_kind", "_law_one_here", "_law_other"] [])
    (GE : FnE P w K mg base 2 fE fdE ["_law_kind", "_law_thing", "_law_one_here", "_law_other"] (spRight cs)) (gE : mg "_law_right" = some (.ref fE)) (kE : PySem.W.keepIn K (.ref fE) = true) (bE : Binds K fdE ["_law_kind", "_law_thing", "_law_one_here", "_law_other"] []) :
    FnC P w K mg base CX0 4 f fd ["_law_kind", "_law_one_here", "_law_other"] spBase := by
  refine okC F scE (fun vs H Q E h => ?_) (fun cdv A outer s H vs Q E hr hgd h => ?_)
  · obtain ⟨k, x, y, Hx, Hy, _, rfl, _⟩ := h
    rfl
  · obtain ⟨k, x, y, Hx, Hy, hk, rfl, vx, sx, vy, sy, dis, q⟩ := h
    refine ⟨_, pss_one (L2N.ps_try_as (i := 3) (Wout := fun _ _ _ _ => False) rfl rfl scE.nd rfl rfl ⟨rfl, by decide, Or.inl T.g11⟩ takes0N
      (fun W pn xe tk _ => pss_one (ps_expr (by exact (pe_callS GR hr rfl gR kR bR (fun σ => L2N.passAt tk σ) (by exact (pa_cons (pv 0) (pa_cons (pv 1) (pa_cons (pv 2) pa_nil))))))))
      (fun a oe cls d pn hz hf => pss_one (ps_ret (by exact (pe_callE GE (roomM hr) hgd ⟨rfl, let ⟨ws, hw⟩ := hf; ⟨ws, hw, hz.2.2 ws hw⟩⟩ (L2N.Zn.zc hz) List.mem_cons_self rfl gE kE bE
        (by exact (pa_cons (pv 0) (pa_cons (pv 3) (pa_cons (pv 1) (pa_cons (pv 2) pa_nil)))))))))), ?_⟩
    refine ⟨_, rfl, _, rfl, _, rfl, k, x, y, hk, rfl, fun hk10 d nd => ⟨true, T.exm k (by omega), fun _ a na => ?_, fun z => Bool.noConfusion z⟩, fun hk10 => ⟨true, T.exm 10 (by decide), fun _ a na => ?_, fun z => Bool.noConfusion z⟩⟩
    · exact ⟨_, rfl, _, rfl, _, rfl, _, rfl, k, x, y, Hx, Hy, rfl, ⟨hk, rfl, fun _ => ⟨d, rfl, upd_same⟩, fun z => by omega⟩, vx, sx.trans (same_upd nd), vy, sy.trans (same_upd nd), dis, fun H' b => q H' (b.same (same_upd nd))⟩
    · subst hk10
      exact ⟨_, rfl, _, rfl, _, rfl, _, rfl, 10, x, y, Hx, Hy, rfl, ⟨hk, rfl, fun z => absurd z (by decide), fun _ => rfl⟩, vx, sx, vy, sy, dis, fun H' b => q H' b⟩
theorem ok_bare {f : Addr} {fd : FuncData} (F : Fun K "_law_bare" "_law_bare" sBare f fd) (T : Txt K mg cs fi) : FnOk P w K mg base CX0 2 f fd [] spBare := by
  refine F.ok scN (fun vs H Q E h => ?_) (fun cdv A outer s H vs Q E hr h => ?_)
  · obtain ⟨rfl, _⟩ := h
    rfl
  · obtain ⟨rfl, q⟩ := h
    refine ⟨_, pss_one (L2N.ps_try_as (i := 0) (Wout := fun _ _ _ _ => False) rfl rfl scN.nd rfl rfl ⟨rfl, by decide, Or.inl T.g11⟩ takes0N
      (fun W pn xe tk _ => pss_one (L2N.ps_raise rfl tk (by exact (pmkN_ownA PySem.F.excBase_ValueError T.e11 T.g11 (T.kp 11 (by decide)) (raises_own (T.exC 11 (by decide)) (T.tyC 11 (by decide))) rfl (by exact (pa_cons pe_str (pa_cons pe_int pa_nil)))))))
      (fun a oe cls d pn hz hf => pss_one (ps_ret (by exact (pe_ifExp (pt_val (pe_callB (call_isPK (K := K) rfl List.mem_cons_self (L2N.Zn.zc hz) hf) (by rfl) T.misi (by decide +kernel)
        (by exact (pa_cons (pv 0) (pa_cons (pe_bltn (v := .ty "ValueError") (by rfl) T.mval (by decide +kernel) rfl) pa_nil))))) pe_str pe_str))))), ?_⟩
    refine ⟨(by show 2 ≤ sizeLine; decide), true, T.exm 11 (by decide), fun _ a na => ?_, fun z => Bool.noConfusion z⟩
    exact ⟨_, rfl, .ty "ValueError", .type "ValueError", true, cs 11, rfl, .ty _, rfl, T.xc 11 (by decide), .inl rfl, T.kitV 11 (by decide), true, rfl, iteT q⟩
end
end T11
namespace T11
open PySem PySem.Spec PyProof.Rows L2 Wk
abbrev sLaw : Stmt := top 24
def spLaw (K : PySem.W.Frag) : Sp := fun vs H Q _ => ∃ (a : Addr) (ns : List Int), vs = [.ref a] ∧ SqL K H a (ns.map V.int) ∧ ns.length ≤ 63 ∧ ∀ H', Q (.bl true) H'
theorem scL : FnScope ["_law_script", "_law_bag_here", "_law_kind", "_law_trip", "_law_one_here", "_law_other", "_law_many", "_law_bare_here"] ["_law_script"] (defScope sLaw) := ⟨rfl, rfl, rfl, by decide +kernel, rfl, by decide +kernel, by decide +kernel⟩
theorem VOk.at {H : Hp} {a : Addr} (h : VOk H (.ref a)) : ∃ o, H a = some o := by
  cases h with
  | tup ha _ _ _ _ => exact ⟨_, ha⟩
  | dic ha _ _ _ _ => exact ⟨_, ha⟩
  | lst ha _ _ _ _ _ _ _ => exact ⟨_, ha⟩
theorem VOk.off {H : Hp} {a : Addr} {v : V} (h : VOk H v) (n : H a = none) : V.ref a ≠ v := fun e => by
  subst e
  obtain ⟨o, ho⟩ := h.at
  rw [n] at ho; cases ho
theorem BagAt.but2 {H H' : Hp} {b l : Addr} {n : Nat} {x y : V} (B : BagAt H b l n) (h : But2 x y H H') (b1 : V.ref b ≠ x) (b2 : V.ref b ≠ y) (l1 : V.ref l ≠ x) (l2 : V.ref l ≠ y) : BagAt H' b l n := by
  obtain ⟨x0, x1, x2, cs, h1, h2, h3⟩ := B.ex
  exact ⟨x0, x1, x2, cs, h _ _ h1 b1 b2, h _ _ h2 l1 l2, h3⟩
section
variable {P : Program} {w : World} {K : PySem.W.Frag} {mg : Str → Option Value} {base : Heap} {cs fi : Nat → Addr}
theorem ok_law {f fB fV fA fG fN : Addr} {fd fdB fdV fdA fdG fdN : FuncData} (F : Fun K "law" "law" sLaw f fd) (T : Txt K mg cs fi)
    (GB : FnOk P w K mg base CX0 4 fB fdB ["_law_script"] (spBag K)) (gB : mg "_law_bag" = some (.ref fB)) (kB : PySem.W.keepIn K (.ref fB) = true) (bB : Binds K fdB ["_law_script"] [])
    (GV : FnOk P w K mg base CX0 4 fV fdV ["_law_bag_here"] spValue) (gV : mg "_law_value" = some (.ref fV)) (kV : PySem.W.keepIn K (.ref fV) = true) (bV : Binds K fdV ["_law_bag_here"] [])
    (GA : FnC P w K mg base CX0 4 fA fdA ["_law_kind", "_law_one_here", "_law_other"] spBase) (gA : mg "_law_base" = some (.ref fA)) (kA : PySem.W.keepIn K (.ref fA) = true) (bA : Binds K fdA ["_law_kind", "_law_one_here", "_law_other"] [])
    (GG : FnOk P w K mg base CX0 4 fG fdG ["_law_thing"] (spFlagsV cs)) (gG : mg "_law_flags" = some (.ref fG)) (kG : PySem.W.keepIn K (.ref fG) = true) (bG : Binds K fdG ["_law_thing"] [])
    (GN : FnOk P w K mg base CX0 4 fN fdN [] spBare) (gN : mg "_law_bare" = some (.ref fN)) (kN : PySem.W.keepIn K (.ref fN) = true) (bN : Binds K fdN [] []) :
    FnC P w K mg base CX0 5 f fd ["_law_script"] (spLaw K) := by
  refine okC F scL (fun vs H Q E h => ?_) (fun cdv A outer s H vs Q E hr hgd h => ?_)
  · obtain ⟨a, ns, rfl, _⟩ := h
    rfl
  · obtain ⟨a, ns, rfl, hS, hlen, q⟩ := h
    refine ⟨_, pss_cons (ps_set (i := 1) scL.nd rfl (Or.inl rfl) (pe_call GB hr rfl gB kB bB .nil pass0 (pa_cons (pv 0) pa_nil)))
      (pss_cons (ps_for PassesOwn.never rfl (pi_range1 rfl T.mran (pa_cons pe_int pa_nil)) (pg_name (i := 2) scL.nd rfl (Or.inl rfl))
        (pss_one (ps_for PassesOwn.never rfl (pi_range1 rfl T.mran (pa_cons pe_int pa_nil)) (pg_name (i := 3) scL.nd rfl (Or.inl rfl))
          (pss_cons (ps_par (i := 4) (j := 5) rfl scL.nd rfl rfl (by decide) rfl rfl (pa_cons (pe_call GV hr rfl gV kV bV .nil pass0 (pa_cons (pv 1) pa_nil)) (pa_cons (pe_call GV hr rfl gV kV bV .nil pass0 (pa_cons (pv 1) pa_nil)) pa_nil)) (by rfl))
          (pss_one (ps_if (pt_cmpR op_isnot_bl (pe_callC GA hr hgd rfl gA kA bA (pa_cons (pv 2) (pa_cons (pv 4) (pa_cons (pv 5) pa_nil)))) pe_bl (nomark _)) (pss_one (ps_ret pe_bl)) pss_nil))))))
      (pss_cons (ps_set (i := 6) scL.nd rfl (Or.inl rfl) (pe_excVA PySem.F.excBase_ValueError T.e11 T.g11 (T.kp 11 (by decide)) rfl (pa_cons pe_int (pa_cons pe_str (pa_cons pe_non (pa_cons (pe_tup pa_nil) (pa_cons (pe_lst (pa_cons pe_int pa_nil)) pa_nil)))))))
      (pss_cons (ps_for PassesOwn.never rfl (pi_tup (pe_tup (pa_cons (pe_excV0 PySem.F.excBase_ValueError T.e11 T.g11 (T.kp 11 (by decide)) rfl)
          (pa_cons (pe_excVA PySem.F.excBase_ValueError T.e11 T.g11 (T.kp 11 (by decide)) rfl (pa_cons (pe_call GV hr rfl gV kV bV .nil pass0 (pa_cons (pv 1) pa_nil)) pa_nil))
          (pa_cons (pe_excVA PySem.F.excBase_ValueError T.e11 T.g11 (T.kp 11 (by decide)) rfl (pa_cons (pe_call GV hr rfl gV kV bV .nil pass0 (pa_cons (pv 1) pa_nil)) (pa_cons pe_int pa_nil)))
          (pa_cons (pv 6) pa_nil)))))) (pg_name (i := 7) scL.nd rfl (Or.inl rfl))
        (pss_one (ps_if (PW.pt (pw_or (pt_cmpR op_in_seq pe_bl (pe_call GG hr rfl gG kG bG .nil pass0 (pa_cons (pv 7) pa_nil)) rfl)
          (pw_or1 (pt_not (pt_val (pe_callB call_isV (by rfl) T.misi (by decide +kernel) (pa_cons (pv 7) (pa_cons (pe_bltn (v := .ty "ValueError") (by rfl) T.mval (by decide +kernel) rfl) pa_nil)))))))) (pss_one (ps_ret pe_bl)) pss_nil)))
      (pss_one (ps_ret (pe_cmpR op_eq (pe_call0 GN hr rfl gN kN bN .nil pass0) pe_str (nomark _))))))), ?_⟩
    -- the bag
    refine ⟨_, rfl, a, ns, rfl, hS, hlen, fun H1 b l S1 nb B => ?_⟩
    -- the errors with fields
    refine ⟨11, rfl, by decide, by decide, for_range (lo := 0) (n := 11) (fun i σ H2 => ∃ v2 v3 v4 v5 : Option V, σ = [some (.ref a), some (.ref b), v2, v3, v4, v5, none, none] ∧ BagAt H2 b l (16 * i)) ⟨_, _, _, _, rfl, B⟩ ?_ ?_⟩
    · rintro i σ H2 hi ⟨v2, v3, v4, v5, rfl, B2⟩
      rw [Int.zero_add]
      refine ⟨2, rfl, by decide, by decide, for_range (lo := 0) (n := 2) (fun j σ H3 => ∃ v3 v4 v5 : Option V, σ = [some (.ref a), some (.ref b), some (.int (i : Int)), v3, v4, v5, none, none] ∧ BagAt H3 b l (16 * i + 8 * j)) ⟨_, _, _, rfl, B2⟩ ?_ ?_⟩
      · rintro j σ H3 hj ⟨w3, w4, w5, rfl, B3⟩
        refine ⟨_, rfl, b, l, _, rfl, B3, by omega, fun x H4 ox B4 bt4 => ?_⟩
        refine ⟨_, rfl, b, l, _, rfl, B4, by omega, fun y H5 oy B5 bt5 => ⟨x, y, rfl, ?_⟩⟩
        obtain ⟨Hx, vx, sx, nx⟩ := ox
        obtain ⟨Hy, vy, sy, ny⟩ := oy
        obtain ⟨_, _, _, _, hb3, hl3, _⟩ := B3.ex
        obtain ⟨_, _, _, _, hb4, hl4, _⟩ := B4.ex
        have sx5 : Same Hx H5 := fun c o z => by
          have hc : c ≠ b := fun e => by rw [e, nx _ _ hb3] at z; cases z
          exact bt5 c o hc (sx c o z)
        refine ⟨_, rfl, _, rfl, _, rfl, i, x, y, Hx, Hy, hi, rfl, vx, sx5, vy, sy, fun c o z => ny c o (sx c o z), fun H6 bt6 => ?_⟩
        refine ⟨true, true, rfl, rfl, _, rfl, iteNS rfl ?_⟩
        refine ⟨_, _, _, rfl, (B5.but2 bt6 (vx.off (nx _ _ hb3)) (vy.off (ny _ _ hb4)) (vx.off (nx _ _ hl3)) (vy.off (ny _ _ hl4))).mono (by omega)⟩
      · rintro σ H3 ⟨w3, w4, w5, rfl, B3⟩
        exact ⟨_, _, _, _, rfl, B3.mono (by omega)⟩
    · rintro σ H2 ⟨v2, v3, v4, v5, rfl, B2⟩
      -- the base
      refine ⟨Nat.zero_le _, fun t1 nt1 => ⟨(by show 1 ≤ sizeLine; decide), fun t2 nt2 => ⟨(by show 5 ≤ sizeLine; decide), fun am nam => ?_⟩⟩⟩
      have B3 : BagAt (upd (upd (upd H2 t1 (.tup [])) t2 (.lst [V.int 2])) am (ExO (.ref (cs 11)) am)) b l (16 * 11) := B2.same ((same_upd nt1).trans ((same_upd nt2).trans (same_upd nam)))
      have gm : (upd (upd (upd H2 t1 (.tup [])) t2 (.lst [V.int 2])) am (ExO (.ref (cs 11)) am)) am = some (ExO (.ref (cs 11)) am) := upd_same
      generalize (upd (upd (upd H2 t1 (.tup [])) t2 (.lst [V.int 2])) am (ExO (.ref (cs 11)) am)) = H3 at B3 gm ⊢
      obtain ⟨_, _, _, _, hb3, _⟩ := B3.ex
      have amb : am ≠ b := ne_of gm hb3 (by intro z; cases z)
      -- the tuple
      intro a1 n1
      obtain ⟨H4, e4, b1, o1, g1, u4, w4, B4⟩ := step (ExO (.ref (cs 11)) a1) B3 ⟨But.refl b H3, fun o h => ⟨o, h⟩⟩ B3 n1
      rw [e4]
      refine ⟨_, rfl, b, l, _, rfl, B4, by omega, fun v H5 ov B5 bt5 => ⟨(by show 1 ≤ sizeLine; decide), fun a2 n2 => ?_⟩⟩
      have w5 : Way b H3 H5 := w4.trans (.bag bt5 B5)
      obtain ⟨H6, e6, b2, o2, g2, u6, w6, B6⟩ := step (ExO (.ref (cs 11)) a2) B3 w5 B5 n2
      rw [e6]
      refine ⟨_, rfl, b, l, _, rfl, B6, by omega, fun v' H7 ov' B7 bt7 => ⟨(by show 2 ≤ sizeLine; decide), fun a3 n3 => ?_⟩⟩
      have u7 : Way b H6 H7 := .bag bt7 B7
      obtain ⟨H8, e8, b3, o3, g3, u8, w8, B8⟩ := step (ExO (.ref (cs 11)) a3) B3 (w6.trans u7) B7 n3
      rw [e8]
      refine ⟨_, rfl, (by show 4 ≤ sizeLine; decide), fun t nt => ?_⟩
      obtain ⟨H9, e9, bt, ot, gt, u9, w9, B9⟩ := step (.tup [V.ref a1, V.ref a2, V.ref a3, V.ref am]) B3 w8 B8 nt
      rw [e9]
      have k1 : H9 a1 = some (ExO (.ref (cs 11)) a1) := u9.but _ _ b1 (u8.but _ _ b1 (u7.but _ _ b1 (u6.but _ _ b1 (bt5 _ _ b1 g1))))
      have k2 : H9 a2 = some (ExO (.ref (cs 11)) a2) := u9.but _ _ b2 (u8.but _ _ b2 (u7.but _ _ b2 g2))
      have k3 : H9 a3 = some (ExO (.ref (cs 11)) a3) := u9.but _ _ b3 g3
      have km : H9 am = some (ExO (.ref (cs 11)) am) := w9.but _ _ amb gm
      have all : ∀ x ∈ [V.ref a1, V.ref a2, V.ref a3, V.ref am], ∃ e, x = V.ref e ∧ H9 e = some (ExO (.ref (cs 11)) e) := by
        intro x hx
        simp only [List.mem_cons, List.not_mem_nil, or_false] at hx
        rcases hx with rfl | rfl | rfl | rfl
        · exact ⟨_, rfl, k1⟩
        · exact ⟨_, rfl, k2⟩
        · exact ⟨_, rfl, k3⟩
        · exact ⟨_, rfl, km⟩
      refine ⟨t, rfl, ⟨_, SqT.of gt⟩, for_tup (K := K) (a := t) (xs := [V.ref a1, V.ref a2, V.ref a3, V.ref am]) (fun _ σ Hc => ∃ v2 v3 v4 v5 v7 : Option V, σ = [some (.ref a), some (.ref b), v2, v3, v4, v5, some (.ref am), v7] ∧ Same H9 Hc)
        ⟨_, _, _, _, _, rfl, Same.refl _⟩ (fun i σ Hc _ hh => let ⟨_, _, _, _, _, _, sc⟩ := hh; SqT.of (sc _ _ gt)) ?_ ?_⟩
      · rintro i x σ Hc hx ⟨v2, v3, v4, v5, v7, rfl, sc⟩
        obtain ⟨e, rfl, ke⟩ := all x (List.mem_of_getElem? hx)
        refine ⟨_, rfl, e, rfl, sc _ _ ke, fun p Hd sd np gp => ?_⟩
        refine ⟨p, _, rfl, .inl (.inl (.inl gp)), rfl, rfl, _, rfl, iteF ?_⟩
        refine ⟨_, rfl, e, cs 11, .ty "ValueError", .type "ValueError", true, rfl, sd _ _ (sc _ _ ke), .ty _, T.xc 11 (by decide), T.kitV 11 (by decide), true, rfl, iteF ?_⟩
        exact ⟨_, _, _, _, _, rfl, sc.trans sd⟩
      · rintro σ Hc ⟨v2, v3, v4, v5, v7, rfl, sc⟩
        refine ⟨rfl, rfl, ?_⟩
        have e : decide (V.str "told" = V.str "told") = true := decide_eq_true rfl
        rw [e]
        exact q _
end
end T11
namespace T11
open PySem PySem.Spec PyProof.Rows L2 Wk
/-- what must be seen of the classes (cl: their addresses, the base's last; il: those of their makers) -/
def okB (K : PySem.W.Frag) (cl il : List Addr) : Bool :=
  ((List.range 12).all fun k =>
    decide (PySem.W.findIn K (.ref (cl.getD k 0)) "__getattribute__" = some (some (.builtin "BaseException.__getattribute__"))) &&
    (decide (PySem.W.findIn K (.ref (cl.getD k 0)) "__getattr__" = some none) &&
    (decide (PySem.W.findIn K (.ref (cl.getD k 0)) "__class__" = some (some (.builtin "object.__class__"))) &&
    (decide (PySem.W.subIn K (.ref (cl.getD k 0)) (.type "BaseException") = some true) &&
    (decide (PySem.W.typeIn K (.ref (cl.getD k 0)) = some (.type "type")) &&
    (PySem.W.keepIn K (.ref (cl.getD k 0)) &&
    (PySem.W.hasDictIn K (cl.getD k 0) &&
    (decide (PySem.W.mroIn K (cl.getD k 0) (.type "object") = some true) &&
    (decide (PySem.W.exmOne K (.ref (cl.getD k 0)) (.ref (cl.getD 11 0)) = some true) &&
    decide (PySem.W.kitOne K (.ref (cl.getD k 0)) (.type "ValueError") = some true)))))))))) &&
  (((List.range 10).all fun k =>
    decide (PySem.W.findIn K (.ref (cl.getD k 0)) "__setattr__" = some (some (.builtin "object.__setattr__"))) &&
    (decide (PySem.W.findIn K (.ref (cl.getD k 0)) "__init__" = some (some (.ref (il.getD k 0)))) &&
    (decide (PySem.W.typeIn K (.ref (il.getD k 0)) = some (.type "function")) &&
    (flds k .non .non).all fun p => decide (PySem.W.findIn K (.ref (cl.getD k 0)) p.1 = some none)))) &&
  (((List.range 11).all fun k => decide (PySem.W.kitOne K (.ref (cl.getD k 0)) (.ref (cl.getD 11 0)) = some true)) &&
  (((List.range 11).all fun j => (List.range 12).all fun k => decide (PySem.W.kitOne K (.ref (cl.getD k 0)) (.ref (cl.getD j 0)) = some (decide (j = k)))) &&
  (PySem.W.excIn K (cl.getD 10 0) bmVE "ValueError.__new__" && (PySem.W.excIn K (cl.getD 11 0) bmVE "ValueError.__new__" &&
  (decide (PySem.W.specialIn K (.builtin "object.__class__") "__get__" = some (some (.builtin "getset_descriptor.__get__"))) && decide (PySem.W.takesIn K (.builtin "object.__class__") = some true)))))))
theorem and2 {a b : Bool} (h : (a && b) = true) : a = true ∧ b = true := Bool.and_eq_true_iff.mp h
theorem all_at {n k : Nat} {p : Nat → Bool} (h : (List.range n).all p = true) (hk : k < n) : p k = true := List.all_eq_true.mp h k (List.mem_range.mpr hk)
theorem all_mk {l : PySem.W.OpenLaw} {w : World} {K : PySem.W.Frag} {h : Heap} {mg : Str → Option Value} {fa : Addr} (X : K.In h) (G : h.Ns mainGlobals mg) (hfa : mg "law" = some (.ref fa))
    {c0 c1 c2 c3 c4 c5 c6 c7 c8 c9 c10 c11 i0 i1 i2 i3 i4 i5 i6 i7 i8 i9 : Addr}
    {nm0 q0 : Str} {N0 : Addr} {bs0 sub0 : List Value} {sn0 : List Str} {ab0 : Bool} {col0 : Option Bool} {dd0 : Option Addr} {x0 y0 z0 u0 v0 : Option Value} {bm0 : List Value}
    {oi0 kV0 dc0 pm0 cd0 ct0 : Value} {od0 an0 : Option Addr} {sl0 : Array (Option Value)}
    {nm1 q1 : Str} {N1 : Addr} {bs1 sub1 : List Value} {sn1 : List Str} {ab1 : Bool} {col1 : Option Bool} {dd1 : Option Addr} {x1 y1 z1 u1 v1 : Option Value} {bm1 : List Value}
    {oi1 kV1 dc1 pm1 cd1 ct1 : Value} {od1 an1 : Option Addr} {sl1 : Array (Option Value)}
    {nm2 q2 : Str} {N2 : Addr} {bs2 sub2 : List Value} {sn2 : List Str} {ab2 : Bool} {col2 : Option Bool} {dd2 : Option Addr} {x2 y2 z2 u2 v2 : Option Value} {bm2 : List Value}
    {oi2 kV2 dc2 pm2 cd2 ct2 : Value} {od2 an2 : Option Addr} {sl2 : Array (Option Value)}
    {nm3 q3 : Str} {N3 : Addr} {bs3 sub3 : List Value} {sn3 : List Str} {ab3 : Bool} {col3 : Option Bool} {dd3 : Option Addr} {x3 y3 z3 u3 v3 : Option Value} {bm3 : List Value}
    {oi3 kV3 dc3 pm3 cd3 ct3 : Value} {od3 an3 : Option Addr} {sl3 : Array (Option Value)}
    {nm4 q4 : Str} {N4 : Addr} {bs4 sub4 : List Value} {sn4 : List Str} {ab4 : Bool} {col4 : Option Bool} {dd4 : Option Addr} {x4 y4 z4 u4 v4 : Option Value} {bm4 : List Value}
    {oi4 kV4 dc4 pm4 cd4 ct4 : Value} {od4 an4 : Option Addr} {sl4 : Array (Option Value)}
    {nm5 q5 : Str} {N5 : Addr} {bs5 sub5 : List Value} {sn5 : List Str} {ab5 : Bool} {col5 : Option Bool} {dd5 : Option Addr} {x5 y5 z5 u5 v5 : Option Value} {bm5 : List Value}
    {oi5 kV5 dc5 pm5 cd5 ct5 : Value} {od5 an5 : Option Addr} {sl5 : Array (Option Value)}
    {nm6 q6 : Str} {N6 : Addr} {bs6 sub6 : List Value} {sn6 : List Str} {ab6 : Bool} {col6 : Option Bool} {dd6 : Option Addr} {x6 y6 z6 u6 v6 : Option Value} {bm6 : List Value}
    {oi6 kV6 dc6 pm6 cd6 ct6 : Value} {od6 an6 : Option Addr} {sl6 : Array (Option Value)}
    {nm7 q7 : Str} {N7 : Addr} {bs7 sub7 : List Value} {sn7 : List Str} {ab7 : Bool} {col7 : Option Bool} {dd7 : Option Addr} {x7 y7 z7 u7 v7 : Option Value} {bm7 : List Value}
    {oi7 kV7 dc7 pm7 cd7 ct7 : Value} {od7 an7 : Option Addr} {sl7 : Array (Option Value)}
    {nm8 q8 : Str} {N8 : Addr} {bs8 sub8 : List Value} {sn8 : List Str} {ab8 : Bool} {col8 : Option Bool} {dd8 : Option Addr} {x8 y8 z8 u8 v8 : Option Value} {bm8 : List Value}
    {oi8 kV8 dc8 pm8 cd8 ct8 : Value} {od8 an8 : Option Addr} {sl8 : Array (Option Value)}
    {nm9 q9 : Str} {N9 : Addr} {bs9 sub9 : List Value} {sn9 : List Str} {ab9 : Bool} {col9 : Option Bool} {dd9 : Option Addr} {x9 y9 z9 u9 v9 : Option Value} {bm9 : List Value}
    {oi9 kV9 dc9 pm9 cd9 ct9 : Value} {od9 an9 : Option Addr} {sl9 : Array (Option Value)}
    {f_bag : Addr} {oc_bag kV_bag dc_bag pm_bag cd_bag ct_bag : Value} {od_bag an_bag : Option Addr} {sl_bag : Array (Option Value)}
    {f_take : Addr} {oc_take kV_take dc_take pm_take cd_take ct_take : Value} {od_take an_take : Option Addr} {sl_take : Array (Option Value)}
    {f_one : Addr} {oc_one kV_one dc_one pm_one cd_one ct_one : Value} {od_one an_one : Option Addr} {sl_one : Array (Option Value)}
    {f_flags : Addr} {oc_flags kV_flags dc_flags pm_flags cd_flags ct_flags : Value} {od_flags an_flags : Option Addr} {sl_flags : Array (Option Value)}
    {f_raise : Addr} {oc_raise kV_raise dc_raise pm_raise cd_raise ct_raise : Value} {od_raise an_raise : Option Addr} {sl_raise : Array (Option Value)}
    {f_fields : Addr} {oc_fields kV_fields dc_fields pm_fields cd_fields ct_fields : Value} {od_fields an_fields : Option Addr} {sl_fields : Array (Option Value)}
    {f_right : Addr} {oc_right kV_right dc_right pm_right cd_right ct_right : Value} {od_right an_right : Option Addr} {sl_right : Array (Option Value)}
    {f_base : Addr} {oc_base kV_base dc_base pm_base cd_base ct_base : Value} {od_base an_base : Option Addr} {sl_base : Array (Option Value)}
    {f_bare : Addr} {oc_bare kV_bare dc_bare pm_bare cd_bare ct_bare : Value} {od_bare an_bare : Option Addr} {sl_bare : Array (Option Value)}
    {f_value : Addr} {oc_value kV_value dc_value pm_value cd_value ct_value : Value} {od_value an_value : Option Addr} {sl_value : Array (Option Value)}
    {f_law : Addr} {oc_law kV_law dc_law pm_law cd_law ct_law : Value} {od_law an_law : Option Addr} {sl_law : Array (Option Value)}
    (aC0 : PySem.W.nsIn K mainGlobals "Wrong" = some (some (.ref c0)))
    (aC1 : PySem.W.nsIn K mainGlobals "TooMany" = some (some (.ref c1)))
    (aC2 : PySem.W.nsIn K mainGlobals "BadTie" = some (some (.ref c2)))
    (aC3 : PySem.W.nsIn K mainGlobals "TooFew" = some (some (.ref c3)))
    (aC4 : PySem.W.nsIn K mainGlobals "Unequal" = some (some (.ref c4)))
    (aC5 : PySem.W.nsIn K mainGlobals "Barred" = some (some (.ref c5)))
    (aC6 : PySem.W.nsIn K mainGlobals "NoIndex" = some (some (.ref c6)))
    (aC7 : PySem.W.nsIn K mainGlobals "NoChoice" = some (some (.ref c7)))
    (aC8 : PySem.W.nsIn K mainGlobals "NoText" = some (some (.ref c8)))
    (aC9 : PySem.W.nsIn K mainGlobals "NoCommand" = some (some (.ref c9)))
    (aC10 : PySem.W.nsIn K mainGlobals "Nothing" = some (some (.ref c10)))
    (aC11 : PySem.W.nsIn K mainGlobals "ContentError" = some (some (.ref c11)))
    (xL0 : K.lookup c0 = some (excClassObj nm0 q0 c0 N0 bs0 bm0 true sn0 sub0 ab0 col0 dd0 x0 y0 z0 u0 v0 "ValueError.__new__"))
    (bV0 : PySem.HandSPX.refsVE bm0 = true)
    (aI0 : PySem.W.findIn K (.ref c0) "__init__" = some (some (.ref i0)))
    (lI0 : K.lookup i0 = some ⟨oi0, od0, .func (PySem.W.fnOf "__init__" "Wrong.__init__" (defArgs sI0) (defBody sI0) (defScope sI0) .none kV0 dc0 pm0 an0 cd0 ct0), sl0⟩)
    (cI0 : PySem.W.codeIn K cd0 "Wrong.__init__" = true)
    (kI0 : PySem.W.keepIn K (.ref i0) = true)
    (xL1 : K.lookup c1 = some (excClassObj nm1 q1 c1 N1 bs1 bm1 true sn1 sub1 ab1 col1 dd1 x1 y1 z1 u1 v1 "ValueError.__new__"))
    (bV1 : PySem.HandSPX.refsVE bm1 = true)
    (aI1 : PySem.W.findIn K (.ref c1) "__init__" = some (some (.ref i1)))
    (lI1 : K.lookup i1 = some ⟨oi1, od1, .func (PySem.W.fnOf "__init__" "TooMany.__init__" (defArgs sI1) (defBody sI1) (defScope sI1) .none kV1 dc1 pm1 an1 cd1 ct1), sl1⟩)
    (cI1 : PySem.W.codeIn K cd1 "TooMany.__init__" = true)
    (kI1 : PySem.W.keepIn K (.ref i1) = true)
    (xL2 : K.lookup c2 = some (excClassObj nm2 q2 c2 N2 bs2 bm2 true sn2 sub2 ab2 col2 dd2 x2 y2 z2 u2 v2 "ValueError.__new__"))
    (bV2 : PySem.HandSPX.refsVE bm2 = true)
    (aI2 : PySem.W.findIn K (.ref c2) "__init__" = some (some (.ref i2)))
    (lI2 : K.lookup i2 = some ⟨oi2, od2, .func (PySem.W.fnOf "__init__" "BadTie.__init__" (defArgs sI2) (defBody sI2) (defScope sI2) .none kV2 dc2 pm2 an2 cd2 ct2), sl2⟩)
    (cI2 : PySem.W.codeIn K cd2 "BadTie.__init__" = true)
    (kI2 : PySem.W.keepIn K (.ref i2) = true)
    (xL3 : K.lookup c3 = some (excClassObj nm3 q3 c3 N3 bs3 bm3 true sn3 sub3 ab3 col3 dd3 x3 y3 z3 u3 v3 "ValueError.__new__"))
    (bV3 : PySem.HandSPX.refsVE bm3 = true)
    (aI3 : PySem.W.findIn K (.ref c3) "__init__" = some (some (.ref i3)))
    (lI3 : K.lookup i3 = some ⟨oi3, od3, .func (PySem.W.fnOf "__init__" "TooFew.__init__" (defArgs sI3) (defBody sI3) (defScope sI3) .none kV3 dc3 pm3 an3 cd3 ct3), sl3⟩)
    (cI3 : PySem.W.codeIn K cd3 "TooFew.__init__" = true)
    (kI3 : PySem.W.keepIn K (.ref i3) = true)
    (xL4 : K.lookup c4 = some (excClassObj nm4 q4 c4 N4 bs4 bm4 true sn4 sub4 ab4 col4 dd4 x4 y4 z4 u4 v4 "ValueError.__new__"))
    (bV4 : PySem.HandSPX.refsVE bm4 = true)
    (aI4 : PySem.W.findIn K (.ref c4) "__init__" = some (some (.ref i4)))
    (lI4 : K.lookup i4 = some ⟨oi4, od4, .func (PySem.W.fnOf "__init__" "Unequal.__init__" (defArgs sI4) (defBody sI4) (defScope sI4) .none kV4 dc4 pm4 an4 cd4 ct4), sl4⟩)
    (cI4 : PySem.W.codeIn K cd4 "Unequal.__init__" = true)
    (kI4 : PySem.W.keepIn K (.ref i4) = true)
    (xL5 : K.lookup c5 = some (excClassObj nm5 q5 c5 N5 bs5 bm5 true sn5 sub5 ab5 col5 dd5 x5 y5 z5 u5 v5 "ValueError.__new__"))
    (bV5 : PySem.HandSPX.refsVE bm5 = true)
    (aI5 : PySem.W.findIn K (.ref c5) "__init__" = some (some (.ref i5)))
    (lI5 : K.lookup i5 = some ⟨oi5, od5, .func (PySem.W.fnOf "__init__" "Barred.__init__" (defArgs sI5) (defBody sI5) (defScope sI5) .none kV5 dc5 pm5 an5 cd5 ct5), sl5⟩)
    (cI5 : PySem.W.codeIn K cd5 "Barred.__init__" = true)
    (kI5 : PySem.W.keepIn K (.ref i5) = true)
    (xL6 : K.lookup c6 = some (excClassObj nm6 q6 c6 N6 bs6 bm6 true sn6 sub6 ab6 col6 dd6 x6 y6 z6 u6 v6 "ValueError.__new__"))
    (bV6 : PySem.HandSPX.refsVE bm6 = true)
    (aI6 : PySem.W.findIn K (.ref c6) "__init__" = some (some (.ref i6)))
    (lI6 : K.lookup i6 = some ⟨oi6, od6, .func (PySem.W.fnOf "__init__" "NoIndex.__init__" (defArgs sI6) (defBody sI6) (defScope sI6) .none kV6 dc6 pm6 an6 cd6 ct6), sl6⟩)
    (cI6 : PySem.W.codeIn K cd6 "NoIndex.__init__" = true)
    (kI6 : PySem.W.keepIn K (.ref i6) = true)
    (xL7 : K.lookup c7 = some (excClassObj nm7 q7 c7 N7 bs7 bm7 true sn7 sub7 ab7 col7 dd7 x7 y7 z7 u7 v7 "ValueError.__new__"))
    (bV7 : PySem.HandSPX.refsVE bm7 = true)
    (aI7 : PySem.W.findIn K (.ref c7) "__init__" = some (some (.ref i7)))
    (lI7 : K.lookup i7 = some ⟨oi7, od7, .func (PySem.W.fnOf "__init__" "NoChoice.__init__" (defArgs sI7) (defBody sI7) (defScope sI7) .none kV7 dc7 pm7 an7 cd7 ct7), sl7⟩)
    (cI7 : PySem.W.codeIn K cd7 "NoChoice.__init__" = true)
    (kI7 : PySem.W.keepIn K (.ref i7) = true)
    (xL8 : K.lookup c8 = some (excClassObj nm8 q8 c8 N8 bs8 bm8 true sn8 sub8 ab8 col8 dd8 x8 y8 z8 u8 v8 "ValueError.__new__"))
    (bV8 : PySem.HandSPX.refsVE bm8 = true)
    (aI8 : PySem.W.findIn K (.ref c8) "__init__" = some (some (.ref i8)))
    (lI8 : K.lookup i8 = some ⟨oi8, od8, .func (PySem.W.fnOf "__init__" "NoText.__init__" (defArgs sI8) (defBody sI8) (defScope sI8) .none kV8 dc8 pm8 an8 cd8 ct8), sl8⟩)
    (cI8 : PySem.W.codeIn K cd8 "NoText.__init__" = true)
    (kI8 : PySem.W.keepIn K (.ref i8) = true)
    (xL9 : K.lookup c9 = some (excClassObj nm9 q9 c9 N9 bs9 bm9 true sn9 sub9 ab9 col9 dd9 x9 y9 z9 u9 v9 "ValueError.__new__"))
    (bV9 : PySem.HandSPX.refsVE bm9 = true)
    (aI9 : PySem.W.findIn K (.ref c9) "__init__" = some (some (.ref i9)))
    (lI9 : K.lookup i9 = some ⟨oi9, od9, .func (PySem.W.fnOf "__init__" "NoCommand.__init__" (defArgs sI9) (defBody sI9) (defScope sI9) .none kV9 dc9 pm9 an9 cd9 ct9), sl9⟩)
    (cI9 : PySem.W.codeIn K cd9 "NoCommand.__init__" = true)
    (kI9 : PySem.W.keepIn K (.ref i9) = true)
    (a_bag : PySem.W.nsIn K mainGlobals "_law_bag" = some (some (.ref f_bag)))
    (l_bag : K.lookup f_bag = some ⟨oc_bag, od_bag, .func (PySem.W.fnOf "_law_bag" "_law_bag" (defArgs sBag) (defBody sBag) (defScope sBag) .none kV_bag dc_bag pm_bag an_bag cd_bag ct_bag), sl_bag⟩)
    (e_bag : PySem.W.codeIn K cd_bag "_law_bag" = true)
    (k_bag : PySem.W.keepIn K (.ref f_bag) = true)
    (a_take : PySem.W.nsIn K mainGlobals "_law_take" = some (some (.ref f_take)))
    (l_take : K.lookup f_take = some ⟨oc_take, od_take, .func (PySem.W.fnOf "_law_take" "_law_take" (defArgs sTake) (defBody sTake) (defScope sTake) .none kV_take dc_take pm_take an_take cd_take ct_take), sl_take⟩)
    (e_take : PySem.W.codeIn K cd_take "_law_take" = true)
    (k_take : PySem.W.keepIn K (.ref f_take) = true)
    (a_one : PySem.W.nsIn K mainGlobals "_law_one" = some (some (.ref f_one)))
    (l_one : K.lookup f_one = some ⟨oc_one, od_one, .func (PySem.W.fnOf "_law_one" "_law_one" (defArgs sOne) (defBody sOne) (defScope sOne) .none kV_one dc_one pm_one an_one cd_one ct_one), sl_one⟩)
    (e_one : PySem.W.codeIn K cd_one "_law_one" = true)
    (k_one : PySem.W.keepIn K (.ref f_one) = true)
    (a_flags : PySem.W.nsIn K mainGlobals "_law_flags" = some (some (.ref f_flags)))
    (l_flags : K.lookup f_flags = some ⟨oc_flags, od_flags, .func (PySem.W.fnOf "_law_flags" "_law_flags" (defArgs sFlags) (defBody sFlags) (defScope sFlags) .none kV_flags dc_flags pm_flags an_flags cd_flags ct_flags), sl_flags⟩)
    (e_flags : PySem.W.codeIn K cd_flags "_law_flags" = true)
    (k_flags : PySem.W.keepIn K (.ref f_flags) = true)
    (a_raise : PySem.W.nsIn K mainGlobals "_law_raise" = some (some (.ref f_raise)))
    (l_raise : K.lookup f_raise = some ⟨oc_raise, od_raise, .func (PySem.W.fnOf "_law_raise" "_law_raise" (defArgs sRaise) (defBody sRaise) (defScope sRaise) .none kV_raise dc_raise pm_raise an_raise cd_raise ct_raise), sl_raise⟩)
    (e_raise : PySem.W.codeIn K cd_raise "_law_raise" = true)
    (k_raise : PySem.W.keepIn K (.ref f_raise) = true)
    (a_fields : PySem.W.nsIn K mainGlobals "_law_fields" = some (some (.ref f_fields)))
    (l_fields : K.lookup f_fields = some ⟨oc_fields, od_fields, .func (PySem.W.fnOf "_law_fields" "_law_fields" (defArgs sFields) (defBody sFields) (defScope sFields) .none kV_fields dc_fields pm_fields an_fields cd_fields ct_fields), sl_fields⟩)
    (e_fields : PySem.W.codeIn K cd_fields "_law_fields" = true)
    (k_fields : PySem.W.keepIn K (.ref f_fields) = true)
    (a_right : PySem.W.nsIn K mainGlobals "_law_right" = some (some (.ref f_right)))
    (l_right : K.lookup f_right = some ⟨oc_right, od_right, .func (PySem.W.fnOf "_law_right" "_law_right" (defArgs sRight) (defBody sRight) (defScope sRight) .none kV_right dc_right pm_right an_right cd_right ct_right), sl_right⟩)
    (e_right : PySem.W.codeIn K cd_right "_law_right" = true)
    (k_right : PySem.W.keepIn K (.ref f_right) = true)
    (a_base : PySem.W.nsIn K mainGlobals "_law_base" = some (some (.ref f_base)))
    (l_base : K.lookup f_base = some ⟨oc_base, od_base, .func (PySem.W.fnOf "_law_base" "_law_base" (defArgs sBase) (defBody sBase) (defScope sBase) .none kV_base dc_base pm_base an_base cd_base ct_base), sl_base⟩)
    (e_base : PySem.W.codeIn K cd_base "_law_base" = true)
    (k_base : PySem.W.keepIn K (.ref f_base) = true)
    (a_bare : PySem.W.nsIn K mainGlobals "_law_bare" = some (some (.ref f_bare)))
    (l_bare : K.lookup f_bare = some ⟨oc_bare, od_bare, .func (PySem.W.fnOf "_law_bare" "_law_bare" (defArgs sBare) (defBody sBare) (defScope sBare) .none kV_bare dc_bare pm_bare an_bare cd_bare ct_bare), sl_bare⟩)
    (e_bare : PySem.W.codeIn K cd_bare "_law_bare" = true)
    (k_bare : PySem.W.keepIn K (.ref f_bare) = true)
    (a_value : PySem.W.nsIn K mainGlobals "_law_value" = some (some (.ref f_value)))
    (l_value : K.lookup f_value = some ⟨oc_value, od_value, .func (PySem.W.fnOf "_law_value" "_law_value" (defArgs sValue) (defBody sValue) (defScope sValue) .none kV_value dc_value pm_value an_value cd_value ct_value), sl_value⟩)
    (e_value : PySem.W.codeIn K cd_value "_law_value" = true)
    (k_value : PySem.W.keepIn K (.ref f_value) = true)
    (a_law : PySem.W.nsIn K mainGlobals "law" = some (some (.ref f_law)))
    (l_law : K.lookup f_law = some ⟨oc_law, od_law, .func (PySem.W.fnOf "law" "law" (defArgs sLaw) (defBody sLaw) (defScope sLaw) .none kV_law dc_law pm_law an_law cd_law ct_law), sl_law⟩)
    (e_law : PySem.W.codeIn K cd_law "law" = true)
    (k_law : PySem.W.keepIn K (.ref f_law) = true)
    (z0 : PySem.W.nsIn K mainGlobals "len" = some none)
    (z1 : PySem.W.nsIn K mainGlobals "int" = some none)
    (z2 : PySem.W.nsIn K mainGlobals "abs" = some none)
    (z3 : PySem.W.nsIn K mainGlobals "repr" = some none)
    (z4 : PySem.W.nsIn K mainGlobals "isinstance" = some none)
    (z5 : PySem.W.nsIn K mainGlobals "range" = some none)
    (z6 : PySem.W.nsIn K mainGlobals "list" = some none)
    (z7 : PySem.W.nsIn K mainGlobals "ValueError" = some none)
    (B : okB K [c0, c1, c2, c3, c4, c5, c6, c7, c8, c9, c10, c11] [i0, i1, i2, i3, i4, i5, i6, i7, i8, i9] = true) :
    ∃ fd : FuncData, (∀ (s : Shared) (u : Value), BindsTo s fd ⟨[u], []⟩ [("_law_script", u)]) ∧ ∀ base : Heap, K.In base → base.Ns mainGlobals mg → FnC l.prog w K mg base CX0 5 fa fd ["_law_script"] (spLaw K) := by
  have e := hfa.symm.trans (PySem.W.mg_of X G a_law)
  cases e
  obtain ⟨B1, B⟩ := and2 B
  obtain ⟨B2, B⟩ := and2 B
  obtain ⟨B3, B⟩ := and2 B
  obtain ⟨B4, B⟩ := and2 B
  obtain ⟨B5, B⟩ := and2 B
  obtain ⟨B6, B⟩ := and2 B
  obtain ⟨B7, B8⟩ := and2 B
  let cs : Nat → Addr := fun k => ([c0, c1, c2, c3, c4, c5, c6, c7, c8, c9, c10, c11] : List Addr).getD k 0
  let fi : Nat → Addr := fun k => ([i0, i1, i2, i3, i4, i5, i6, i7, i8, i9] : List Addr).getD k 0
  have b1 : ∀ k, k < 12 → PySem.W.findIn K (.ref (cs k)) "__getattribute__" = some (some (.builtin "BaseException.__getattribute__")) ∧ PySem.W.findIn K (.ref (cs k)) "__getattr__" = some none ∧
      PySem.W.findIn K (.ref (cs k)) "__class__" = some (some (.builtin "object.__class__")) ∧ PySem.W.subIn K (.ref (cs k)) (.type "BaseException") = some true ∧ PySem.W.typeIn K (.ref (cs k)) = some (.type "type") ∧
      PySem.W.keepIn K (.ref (cs k)) = true ∧ PySem.W.hasDictIn K (cs k) = true ∧ PySem.W.mroIn K (cs k) (.type "object") = some true ∧ PySem.W.exmOne K (.ref (cs k)) (.ref (cs 11)) = some true ∧
      PySem.W.kitOne K (.ref (cs k)) (.type "ValueError") = some true := by
    intro k hk
    obtain ⟨h1, h⟩ := and2 (all_at B1 hk)
    obtain ⟨h2, h⟩ := and2 h
    obtain ⟨h3, h⟩ := and2 h
    obtain ⟨h4, h⟩ := and2 h
    obtain ⟨h5, h⟩ := and2 h
    obtain ⟨h6, h⟩ := and2 h
    obtain ⟨h7, h⟩ := and2 h
    obtain ⟨h8, h⟩ := and2 h
    obtain ⟨h9, h10⟩ := and2 h
    exact ⟨of_decide_eq_true h1, of_decide_eq_true h2, of_decide_eq_true h3, of_decide_eq_true h4, of_decide_eq_true h5, h6, h7, of_decide_eq_true h8, of_decide_eq_true h9, of_decide_eq_true h10⟩
  have b2 : ∀ k, k < 10 → PySem.W.findIn K (.ref (cs k)) "__setattr__" = some (some (.builtin "object.__setattr__")) ∧ PySem.W.findIn K (.ref (cs k)) "__init__" = some (some (.ref (fi k))) ∧
      PySem.W.typeIn K (.ref (fi k)) = some (.type "function") ∧ ∀ p ∈ flds k .non .non, PySem.W.findIn K (.ref (cs k)) p.1 = some none := by
    intro k hk
    obtain ⟨h1, h⟩ := and2 (all_at B2 hk)
    obtain ⟨h2, h⟩ := and2 h
    obtain ⟨h3, h4⟩ := and2 h
    exact ⟨of_decide_eq_true h1, of_decide_eq_true h2, of_decide_eq_true h3, fun p hp => of_decide_eq_true (List.all_eq_true.mp h4 p hp)⟩
  have cls : ∀ k, k < 10 → ∃ nm q N bs bm sn sub ab col dd k0 k1 k2 k3 k5, K.lookup (cs k) = some (excClassObj nm q (cs k) N bs bm true sn sub ab col dd k0 k1 k2 k3 k5 "ValueError.__new__") ∧ PySem.HandSPX.refsVE bm = true := by
    intro k hk
    match k, hk with
    | 0, _ => exact ⟨_, _, _, _, _, _, _, _, _, _, _, _, _, _, _, xL0, bV0⟩
    | 1, _ => exact ⟨_, _, _, _, _, _, _, _, _, _, _, _, _, _, _, xL1, bV1⟩
    | 2, _ => exact ⟨_, _, _, _, _, _, _, _, _, _, _, _, _, _, _, xL2, bV2⟩
    | 3, _ => exact ⟨_, _, _, _, _, _, _, _, _, _, _, _, _, _, _, xL3, bV3⟩
    | 4, _ => exact ⟨_, _, _, _, _, _, _, _, _, _, _, _, _, _, _, xL4, bV4⟩
    | 5, _ => exact ⟨_, _, _, _, _, _, _, _, _, _, _, _, _, _, _, xL5, bV5⟩
    | 6, _ => exact ⟨_, _, _, _, _, _, _, _, _, _, _, _, _, _, _, xL6, bV6⟩
    | 7, _ => exact ⟨_, _, _, _, _, _, _, _, _, _, _, _, _, _, _, xL7, bV7⟩
    | 8, _ => exact ⟨_, _, _, _, _, _, _, _, _, _, _, _, _, _, _, xL8, bV8⟩
    | 9, _ => exact ⟨_, _, _, _, _, _, _, _, _, _, _, _, _, _, _, xL9, bV9⟩
  have T : Txt K mg cs fi :=
    { g0 := PySem.W.mg_of X G aC0, g1 := PySem.W.mg_of X G aC1, g2 := PySem.W.mg_of X G aC2, g3 := PySem.W.mg_of X G aC3, g4 := PySem.W.mg_of X G aC4, g5 := PySem.W.mg_of X G aC5, g6 := PySem.W.mg_of X G aC6, g7 := PySem.W.mg_of X G aC7, g8 := PySem.W.mg_of X G aC8, g9 := PySem.W.mg_of X G aC9, g10 := PySem.W.mg_of X G aC10, g11 := PySem.W.mg_of X G aC11,
      ox := fun k hk => ⟨cls k hk, (b2 k hk).1, (b1 k (by omega)).2.2.2.1, (b1 k (by omega)).2.2.2.2.1, (b1 k (by omega)).2.2.2.2.2.1⟩,
      xi := fun k hk => (b2 k hk).2.1, ti := fun k hk => (b2 k hk).2.2.1,
      xf := fun k hk => ⟨(b1 k (by omega)).1, (b1 k (by omega)).2.1, (b1 k (by omega)).2.2.2.1, (b1 k (by omega)).2.2.2.2.2.2.1⟩,
      xc := fun k hk => ⟨(b1 k hk).1, (b1 k hk).2.1, (b1 k hk).2.2.2.1, (b1 k hk).2.2.2.2.2.2.1, (b1 k hk).2.2.1, of_decide_eq_true B7, of_decide_eq_true B8, (b1 k hk).2.2.2.2.2.2.2.1⟩,
      kp := fun k hk => (b1 k hk).2.2.2.2.2.1, no := fun k hk => (b2 k hk).2.2.2,
      kit := fun j k hj hk => of_decide_eq_true (all_at (all_at B4 hj) hk), kitB := fun k hk => of_decide_eq_true (all_at B3 hk), kitV := fun k hk => (b1 k hk).2.2.2.2.2.2.2.2.2,
      e10 := B5, e11 := B6, exC := fun k hk => (b1 k hk).2.2.2.1, tyC := fun k hk => (b1 k hk).2.2.2.2.1, exm := fun k hk => (b1 k hk).2.2.2.2.2.2.2.2.1,
      mlen := PySem.W.mg_none_of X G z0, mint := PySem.W.mg_none_of X G z1, mabs := PySem.W.mg_none_of X G z2, mrep := PySem.W.mg_none_of X G z3, misi := PySem.W.mg_none_of X G z4, mran := PySem.W.mg_none_of X G z5, mlis := PySem.W.mg_none_of X G z6, mval := PySem.W.mg_none_of X G z7 }
  have FI0 := fun_mk (st := sI0) lI0 cI0 kI0
  have BI0 := FI0.binds (ps := ["self", "place"]) (fun _ _ _ _ _ _ us hl => match us, hl with | [_, _], _ => rfl)
  have FI1 := fun_mk (st := sI1) lI1 cI1 kI1
  have BI1 := FI1.binds (ps := ["self", "limit"]) (fun _ _ _ _ _ _ us hl => match us, hl with | [_, _], _ => rfl)
  have FI2 := fun_mk (st := sI2) lI2 cI2 kI2
  have BI2 := FI2.binds (ps := ["self", "at"]) (fun _ _ _ _ _ _ us hl => match us, hl with | [_, _], _ => rfl)
  have FI3 := fun_mk (st := sI3) lI3 cI3 kI3
  have BI3 := FI3.binds (ps := ["self", "pair"]) (fun _ _ _ _ _ _ us hl => match us, hl with | [_, _], _ => rfl)
  have FI4 := fun_mk (st := sI4) lI4 cI4 kI4
  have BI4 := FI4.binds (ps := ["self", "one", "other"]) (fun _ _ _ _ _ _ us hl => match us, hl with | [_, _, _], _ => rfl)
  have FI5 := fun_mk (st := sI5) lI5 cI5 kI5
  have BI5 := FI5.binds (ps := ["self", "row", "lots"]) (fun _ _ _ _ _ _ us hl => match us, hl with | [_, _, _], _ => rfl)
  have FI6 := fun_mk (st := sI6) lI6 cI6 kI6
  have BI6 := FI6.binds (ps := ["self", "index"]) (fun _ _ _ _ _ _ us hl => match us, hl with | [_, _], _ => rfl)
  have FI7 := fun_mk (st := sI7) lI7 cI7 kI7
  have BI7 := FI7.binds (ps := ["self", "kept"]) (fun _ _ _ _ _ _ us hl => match us, hl with | [_, _], _ => rfl)
  have FI8 := fun_mk (st := sI8) lI8 cI8 kI8
  have BI8 := FI8.binds (ps := ["self", "line"]) (fun _ _ _ _ _ _ us hl => match us, hl with | [_, _], _ => rfl)
  have FI9 := fun_mk (st := sI9) lI9 cI9 kI9
  have BI9 := FI9.binds (ps := ["self", "line"]) (fun _ _ _ _ _ _ us hl => match us, hl with | [_, _], _ => rfl)
  have F_bag := fun_mk (st := sBag) l_bag e_bag k_bag
  have B_bag := F_bag.binds (ps := ["_law_script"]) (fun _ _ _ _ _ _ us hl => match us, hl with | [_], _ => rfl)
  have m_bag := PySem.W.mg_of X G a_bag
  have F_take := fun_mk (st := sTake) l_take e_take k_take
  have B_take := F_take.binds (ps := ["_law_bag_here", "_law_many"]) (fun _ _ _ _ _ _ us hl => match us, hl with | [_, _], _ => rfl)
  have m_take := PySem.W.mg_of X G a_take
  have F_one := fun_mk (st := sOne) l_one e_one k_one
  have B_one := F_one.binds (ps := ["_law_bag_here", "_law_menu"]) (fun _ _ _ _ _ _ us hl => match us, hl with | [_, _], _ => rfl)
  have m_one := PySem.W.mg_of X G a_one
  have F_flags := fun_mk (st := sFlags) l_flags e_flags k_flags
  have B_flags := F_flags.binds (ps := ["_law_thing"]) (fun _ _ _ _ _ _ us hl => match us, hl with | [_], _ => rfl)
  have m_flags := PySem.W.mg_of X G a_flags
  have F_raise := fun_mk (st := sRaise) l_raise e_raise k_raise
  have B_raise := F_raise.binds (ps := ["_law_kind", "_law_one_here", "_law_other"]) (fun _ _ _ _ _ _ us hl => match us, hl with | [_, _, _], _ => rfl)
  have m_raise := PySem.W.mg_of X G a_raise
  have F_fields := fun_mk (st := sFields) l_fields e_fields k_fields
  have B_fields := F_fields.binds (ps := ["_law_kind", "_law_thing"]) (fun _ _ _ _ _ _ us hl => match us, hl with | [_, _], _ => rfl)
  have m_fields := PySem.W.mg_of X G a_fields
  have F_right := fun_mk (st := sRight) l_right e_right k_right
  have B_right := F_right.binds (ps := ["_law_kind", "_law_thing", "_law_one_here", "_law_other"]) (fun _ _ _ _ _ _ us hl => match us, hl with | [_, _, _, _], _ => rfl)
  have m_right := PySem.W.mg_of X G a_right
  have F_base := fun_mk (st := sBase) l_base e_base k_base
  have B_base := F_base.binds (ps := ["_law_kind", "_law_one_here", "_law_other"]) (fun _ _ _ _ _ _ us hl => match us, hl with | [_, _, _], _ => rfl)
  have m_base := PySem.W.mg_of X G a_base
  have F_bare := fun_mk (st := sBare) l_bare e_bare k_bare
  have B_bare := F_bare.binds (ps := []) (fun _ _ _ _ _ _ us hl => match us, hl with | [], _ => rfl)
  have m_bare := PySem.W.mg_of X G a_bare
  have F_value := fun_mk (st := sValue) l_value e_value k_value
  have B_value := F_value.binds (ps := ["_law_bag_here"]) (fun _ _ _ _ _ _ us hl => match us, hl with | [_], _ => rfl)
  have m_value := PySem.W.mg_of X G a_value
  have F_law := fun_mk (st := sLaw) l_law e_law k_law
  refine ⟨PySem.W.fnOf "law" "law" (defArgs sLaw) (defBody sLaw) (defScope sLaw) .none kV_law dc_law pm_law an_law cd_law ct_law, fun s u => .of_eq rfl, fun base _ _ => ?_⟩
  have GT : FnOk l.prog w K mg base CX0 1 f_take _ ["_law_bag_here", "_law_many"] spTake := ok_take (k := 0) F_take T.mlen T.mint
  have GO : FnOk l.prog w K mg base CX0 2 f_one _ ["_law_bag_here", "_law_menu"] spOne := ok_one F_one GT m_take k_take B_take T.mlen
  have GV : FnOk l.prog w K mg base CX0 3 f_value _ ["_law_bag_here"] spValue := ok_value F_value GT m_take k_take B_take GO m_one k_one B_one
  have GB : FnOk l.prog w K mg base CX0 1 f_bag _ ["_law_script"] (spBag K) := ok_bag (k := 0) F_bag T.mabs
  have GG : FnOk l.prog w K mg base CX0 1 f_flags _ ["_law_thing"] (spFlagsV cs) := ok_flagsV (n := 0) F_flags T
  have GF : FnE l.prog w K mg base 1 f_flags _ ["_law_thing"] (spFlags cs) := ok_flags (n := 0) F_flags T
  have GX : FnE l.prog w K mg base 1 f_fields _ ["_law_kind", "_law_thing"] (spFields cs) := ok_fields (n := 0) F_fields T
  have GE : FnE l.prog w K mg base 2 f_right _ ["_law_kind", "_law_thing", "_law_one_here", "_law_other"] (spRight cs) := ok_right F_right T GF m_flags k_flags B_flags GX m_fields k_fields B_fields
  have GR : FnOk l.prog w K mg base (L2N.CX l.prog w) 3 f_raise _ ["_law_kind", "_law_one_here", "_law_other"] (spRaise cs) :=
    ok_raise F_raise T FI0 FI1 FI2 FI3 FI4 FI5 FI6 FI7 FI8 FI9 BI0 BI1 BI2 BI3 BI4 BI5 BI6 BI7 BI8 BI9
  have GA : FnC l.prog w K mg base CX0 4 f_base _ ["_law_kind", "_law_one_here", "_law_other"] spBase := ok_base F_base T GR m_raise k_raise B_raise GE m_right k_right B_right
  have GN : FnOk l.prog w K mg base CX0 2 f_bare _ [] spBare := ok_bare F_bare T
  exact ok_law F_law T (GB.mono (by decide)) m_bag k_bag B_bag (GV.mono (by decide)) m_value k_value B_value GA m_base k_base B_base (GG.mono (by decide)) m_flags k_flags B_flags (GN.mono (by decide)) m_bare k_bare B_bare
end T11
open PySem PySem.W PyProof.Rows
set_option maxRecDepth 100000 in
set_option maxHeartbeats 0 in
theorem PySem.Challenge.cw_contentties_k11_errors_apart_holds : PySem.Challenge.rw_contentties_k11_errors_apart.Holds := by
  w_on; o_law; k_head; (case hw => w_witness2)
  k_fill
  refine Wk.walk_ofC (l := PySem.Challenge.rw_contentties_k11_errors_apart) (n := 63) (k := 5) (x := "_law_script") rfl (by decide) rfl ⟨rfl, by decide, by decide⟩ (fun w h Y => PySem.W.kIn_of Y) ?F (sp := fun w => T11.spLaw _) (fun _ _ a ns hl _ hS => ⟨a, ns, rfl, hS, hl, fun _ => rfl⟩)
  case F =>
    intro w mg fa h KX G hmg
    refine' T11.all_mk KX G hmg ?aC0 ?aC1 ?aC2 ?aC3 ?aC4 ?aC5 ?aC6 ?aC7 ?aC8 ?aC9 ?aC10 ?aC11 ?xL0 ?bV0 ?aI0 ?lI0 ?cI0 ?kI0 ?xL1 ?bV1 ?aI1 ?lI1 ?cI1 ?kI1 ?xL2 ?bV2 ?aI2 ?lI2 ?cI2 ?kI2 ?xL3 ?bV3 ?aI3 ?lI3 ?cI3 ?kI3 ?xL4 ?bV4 ?aI4 ?lI4 ?cI4 ?kI4 ?xL5 ?bV5 ?aI5 ?lI5 ?cI5 ?kI5 ?xL6 ?bV6 ?aI6 ?lI6 ?cI6 ?kI6 ?xL7 ?bV7 ?aI7 ?lI7 ?cI7 ?kI7 ?xL8 ?bV8 ?aI8 ?lI8 ?cI8 ?kI8 ?xL9 ?bV9 ?aI9 ?lI9 ?cI9 ?kI9 ?a_bag ?l_bag ?e_bag ?k_bag ?a_take ?l_take ?e_take ?k_take ?a_one ?l_one ?e_one ?k_one ?a_flags ?l_flags ?e_flags ?k_flags ?a_raise ?l_raise ?e_raise ?k_raise ?a_fields ?l_fields ?e_fields ?k_fields ?a_right ?l_right ?e_right ?k_right ?a_base ?l_base ?e_base ?k_base ?a_bare ?l_bare ?e_bare ?k_bare ?a_value ?l_value ?e_value ?k_value ?a_law ?l_law ?e_law ?k_law ?z0 ?z1 ?z2 ?z3 ?z4 ?z5 ?z6 ?z7 ?B
    (case aC0 => k_is)
    (case aC1 => k_is)
    (case aC2 => k_is)
    (case aC3 => k_is)
    (case aC4 => k_is)
    (case aC5 => k_is)
    (case aC6 => k_is)
    (case aC7 => k_is)
    (case aC8 => k_is)
    (case aC9 => k_is)
    (case aC10 => k_is)
    (case aC11 => k_is)
    (case xL0 => k_is)
    (case bV0 => rfl)
    (case aI0 => k_is)
    (case lI0 => k_is)
    (case cI0 => k_is)
    (case kI0 => k_is)
    (case xL1 => k_is)
    (case bV1 => rfl)
    (case aI1 => k_is)
    (case lI1 => k_is)
    (case cI1 => k_is)
    (case kI1 => k_is)
    (case xL2 => k_is)
    (case bV2 => rfl)
    (case aI2 => k_is)
    (case lI2 => k_is)
    (case cI2 => k_is)
    (case kI2 => k_is)
    (case xL3 => k_is)
    (case bV3 => rfl)
    (case aI3 => k_is)
    (case lI3 => k_is)
    (case cI3 => k_is)
    (case kI3 => k_is)
    (case xL4 => k_is)
    (case bV4 => rfl)
    (case aI4 => k_is)
    (case lI4 => k_is)
    (case cI4 => k_is)
    (case kI4 => k_is)
    (case xL5 => k_is)
    (case bV5 => rfl)
    (case aI5 => k_is)
    (case lI5 => k_is)
    (case cI5 => k_is)
    (case kI5 => k_is)
    (case xL6 => k_is)
    (case bV6 => rfl)
    (case aI6 => k_is)
    (case lI6 => k_is)
    (case cI6 => k_is)
    (case kI6 => k_is)
    (case xL7 => k_is)
    (case bV7 => rfl)
    (case aI7 => k_is)
    (case lI7 => k_is)
    (case cI7 => k_is)
    (case kI7 => k_is)
    (case xL8 => k_is)
    (case bV8 => rfl)
    (case aI8 => k_is)
    (case lI8 => k_is)
    (case cI8 => k_is)
    (case kI8 => k_is)
    (case xL9 => k_is)
    (case bV9 => rfl)
    (case aI9 => k_is)
    (case lI9 => k_is)
    (case cI9 => k_is)
    (case kI9 => k_is)
    (case a_bag => k_is)
    (case l_bag => k_is)
    (case e_bag => k_is)
    (case k_bag => k_is)
    (case a_take => k_is)
    (case l_take => k_is)
    (case e_take => k_is)
    (case k_take => k_is)
    (case a_one => k_is)
    (case l_one => k_is)
    (case e_one => k_is)
    (case k_one => k_is)
    (case a_flags => k_is)
    (case l_flags => k_is)
    (case e_flags => k_is)
    (case k_flags => k_is)
    (case a_raise => k_is)
    (case l_raise => k_is)
    (case e_raise => k_is)
    (case k_raise => k_is)
    (case a_fields => k_is)
    (case l_fields => k_is)
    (case e_fields => k_is)
    (case k_fields => k_is)
    (case a_right => k_is)
    (case l_right => k_is)
    (case e_right => k_is)
    (case k_right => k_is)
    (case a_base => k_is)
    (case l_base => k_is)
    (case e_base => k_is)
    (case k_base => k_is)
    (case a_bare => k_is)
    (case l_bare => k_is)
    (case e_bare => k_is)
    (case k_bare => k_is)
    (case a_value => k_is)
    (case l_value => k_is)
    (case e_value => k_is)
    (case k_value => k_is)
    (case a_law => k_is)
    (case l_law => k_is)
    (case e_law => k_is)
    (case k_law => k_is)
    (case z0 => k_is)
    (case z1 => k_is)
    (case z2 => k_is)
    (case z3 => k_is)
    (case z4 => k_is)
    (case z5 => k_is)
    (case z6 => k_is)
    (case z7 => k_is)
    (case B => kernel_rfl)

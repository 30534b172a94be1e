import PyProof.Rows.All
import Wide.All
import OpenK.AllK
import Wide.FinOn
import HandS.ForMost
import HandS.ForExc
import HandS.IsInst
import HandS.MakeKwOnly
import HandS.ClsMeth
import HandS.Conv
import HandS.Codes
import HandS.Walk
import HandS.Style
import HandS.Flow
import HandS.Wide
import HandS.OwnEq
import HandS.OwnIter
import HandS.IterVal
import KE.KOwnIter
import PyProof.FactsAll.tuple_iterator_1
import HandS.Deep
import HandS.SortRule
import KE.GoesMore
import KE.GoesEnum
import KE.KLam
import KE.DataMinKey
import HandS.Base
import HandS.Call
import HandS.List
import HandS.Comp
import HandS.Lambda
import HandS.Nested
import HandS.Keys
import HandS.SortInts
import PyProof.NeKinds
import HandS.SetFor
import HandS.Strs
import HandS.TupSets
import KE.SortData
import HandS.Gcd
import KE.KMathGC
import HandS.Sort
import PyProof.AutoSeq1
import KE.KTurns
import HandS.TupLe
import KE.KSortTup
import HandS.Defaults
import HandS.Zip
import HandS.TryOnly
import HandS.TupAny
import KE.DataFind
import PyProof.SumWalkG
import HandS.New0
import HandS.Property
import KE.KNestM
import HandS.EndTab
import HandS.Rev
import PySem.Challenge.RW_heaprows_k58_whole_keepers
set_option Elab.async false
set_option maxRecDepth 100000
set_option Elab.async false
set_option linter.all false
set_option maxRecDepth 100000
set_option maxHeartbeats 2000000
namespace Tw
open PySem PySem.Spec PyProof.Rows L2

/-! own rules: an instance with dunder methods -/
/-- a dunder method of the class at C, its def at f -/
structure Dn (K : PySem.W.Frag) (C : Addr) (m : Str) (f : Addr) : Prop where
  at_ : PySem.W.findIn K (.ref C) m = some (some (.ref f))
  fn : PySem.W.isFn K (.ref f) = true
  fi : PySem.W.fnIn K f = true


section
variable {X : Cx} {CX : CXT} {k n : Nat} {f C : Addr} {fd : FuncData} {ps : List Str} {sp : Sp} {E : XK} {o e : Expr} {pos : Pos} {ta tb : TE} {A1 : Around}
  {pins : List (Addr × Obj)} {σ : L2.St} {H : Hp} {s : Shared} {Q : VK}
theorem Sub.env0 (sb : Sub X n A1) (I : Inv X pins σ H s) : Env0 X.prog X.w X.K X.mg X.base A1 X.stack s H := by
  have q := I.env0
  exact ⟨by rw [sb.fr]; exact q.frames, q.mod, q.bs, q.bsz, q.funs, q.frf, q.hok, q.bare⟩
theorem run_sub {us : List Value} {vs : List V} (F : FnOk X.prog X.w X.K X.mg X.base CX k f fd ps sp) (sb : Sub X k A1) (hb : Binds X.K fd ps []) (hx : Passes CX X E) (I : Inv X pins σ H s) (r : Vals vs us) (h : sp vs H Q E) :
    wpAny (model X.prog X.w) A1 (call (.ref f) us) (EP X pins σ Q) X.xe s := by
  have hl : us.length = ps.length := by rw [← r.length]; exact F.len _ _ _ _ h
  have hb1 : BindsTo s fd ⟨us, []⟩ (ps.zip us) := by
    have z := hb s us I.kIn (by rw [List.append_nil]; exact hl)
    rw [List.append_nil] at z
    exact z
  refine wpAny_call (codeAny_mono (F.run A1 X.stack s H ⟨us, []⟩ us vs Q E sb.room (Sub.env0 sb I) hb1 r h) fun z s' hq => ?_)
  match z, hq with
  | .error e, hq => exact hx pins σ H s e s' I hq
  | .ok (.ret u), hq => exact I.after hq
  | .ok .next, hq => exact False.elim hq
  | .ok .brk, hq => exact False.elim hq
  | .ok .cont, hq => exact False.elim hq
theorem relR (a : Addr) : RelV (V.ref a) (Value.ref a) := rfl
theorem relB (b : Bool) : RelV (V.bl b) (Value.bool b) := rfl
theorem relI (i : Int) (t : Tok) : RelV (V.int i) (Value.int i t) := ⟨t, rfl⟩
/-- o[e] by the class's own def -/
def tGi (C : Addr) (sp : Sp) (E : XK) (ta tb : TE) : TE := fun σ H Q => ta σ H fun x H1 => tb σ H1 fun y H2 =>
  ∃ a dx fs, x = .ref a ∧ H2 a = some (.ins C dx fs) ∧ sp [.ref a, y] H2 Q E
theorem pe_gi (hd : Dn X.K C "__getitem__" f) (F : FnOk X.prog X.w X.K X.mg X.base CX k f fd ps sp) (hr : Room (k + 1) X.A) (hb : Binds X.K fd ps []) (hx : Passes CX X E) (ho : PE X o ta) (he : PE X e tb)
    (hs : ∀ v u, subscripted e true v u = runValue (.builtin "lifetime.subscript" ⟨[v, u], []⟩) := by intro _ _; with_unfolding_all rfl) :
    PE X (.Subscript o e pos) (tGi C sp E ta tb) := by
  refine ⟨fun pins s σ H Q I h => ?_⟩
  refine Subscript_ (binT ho he (R := fun x y H2 => ∃ a dx fs, x = .ref a ∧ H2 a = some (.ins C dx fs) ∧ sp [.ref a, y] H2 Q E) I h fun v u s2 x y H2 I2 rx ry ⟨a, dx, fs, ex, ha, q⟩ => ?_)
  subst ex
  obtain rfl : v = Value.ref a := rx
  obtain ⟨mA, O, rr, _, _, _⟩ := ins_get I2.hok ha
  obtain ⟨od, J, hl⟩ := O.look
  obtain ⟨m0, hF⟩ := I2.fr
  exact PySem.W.sub_K hF I2.ok.mod.kin J hd.at_ hd.fi hd.fn (run_sub F (Sub.in1 ⟨hr, rfl⟩) hb hx I2 (.cons (relR a) (.cons ry .nil)) q) (hs _ _)
/-- e in o, by the class's own def -/
def rIn (C : Addr) (sp : Sp) (E : XK) (neg : Bool) : R2 := fun x y H Q =>
  ∃ a dx fs, y = .ref a ∧ H a = some (.ins C dx fs) ∧ sp [.ref a, x] H (fun v H' => ∃ b, v = .bl b ∧ Q (.bl (if neg then !b else b)) H') E
theorem op_in_own (hd : Dn X.K C "__contains__" f) (F : FnOk X.prog X.w X.K X.mg X.base CX k f fd ps sp) (hr : Room k X.A) (hb : Binds X.K fd ps []) (hx : Passes CX X E) : OpR X (compareOp .In) (rIn C sp E false) := by
  intro pins s σ H x y v u Q I rx ry ⟨a, dx, fs, ey, ha, q⟩
  subst ey
  obtain rfl : u = Value.ref a := ry
  obtain ⟨mA, O, rr, _, _, _⟩ := ins_get I.hok ha
  obtain ⟨od, J, hl⟩ := O.look
  obtain ⟨m0, hF⟩ := I.fr
  refine PySem.W.in_K hF I.ok.mod.kin J hd.at_ hd.fn (thn (run_sub F ⟨hr, rfl⟩ hb hx I (.cons (relR a) (.cons rx .nil)) q) fun r s' ⟨z, H', I', rz, b, ez, q'⟩ => ?_)
  subst ez
  obtain rfl : r = Value.bool b := rz
  exact wpAny_truthy_bool ⟨_, _, I', relB b, q'⟩
/-- len(o) by the class's own def -/
def rLenO (C : Addr) (sp : Sp) (E : XK) : List V → Hp → VK → Prop := fun xs H Q =>
  ∃ a dx fs, xs = [.ref a] ∧ H a = some (.ins C dx fs) ∧ sp [.ref a] H (fun v H' => ∃ n : Nat, v = .int n ∧ n < 1000 ∧ Q (.int n) H') E
theorem call_len_own (hd : Dn X.K C "__len__" f) (F : FnOk X.prog X.w X.K X.mg X.base CX k f fd ps sp) (hr : Room (k + 1) X.A) (hb : Binds X.K fd ps []) (hx : Passes CX X E) : CallR X (.builtin "len") (rLenO C sp E) := by
  intro pins s σ H xs us Q I rv ⟨a, dx, fs, ex, ha, q⟩
  subst ex
  obtain ⟨u, rfl, ru⟩ := rv.one
  obtain rfl : u = Value.ref a := ru
  obtain ⟨mA, O, rr, _, _, _⟩ := ins_get I.hok ha
  obtain ⟨od, J, hl⟩ := O.look
  obtain ⟨m0, hF⟩ := I.fr
  refine PySem.W.len_K hF I.ok.mod.kin J hd.at_ hd.fn (thn (run_sub F (Sub.in1 ⟨hr, rfl⟩) hb hx I (.cons (relR a) .nil) q) fun r s' ⟨z, H', I', rz, n, ez, hn, q'⟩ => ?_)
  subst ez
  obtain ⟨t, rfl⟩ := rz
  exact ⟨⟨by omega, by omega⟩, _, _, I'.tok _, relI _ _, q'⟩
end

/-! for x in o, o an instance whose __iter__ says: return iter(self.F), F a tuple -/
def itTup (t : Addr) (i : Nat) : Obj := { cls := .type "tuple_iterator", data := .fields #[.ref t, .int (i : Nat) 0] }
def ItT (t it : Addr) (i : Nat) : HO := .ext fun h => h.get? it = some (itTup t i)
def rIterT (K : PySem.W.Frag) (n : Nat) : List V → Hp → VK → Prop := fun xs H Q => ∃ (t : Addr) (zs : List V), xs = [.ref t] ∧ SqT K H t zs ∧ ∀ it, H it = Option.none → n ≤ it → Q (.ref it) (upd H it (ItT t it 0))
section
variable {X : Cx}
theorem call_iterT : CallR X (.builtin "iter") (rIterT X.K X.s_0.heap.objs.size) := by
  intro pins s σ H xs us Q I r ⟨t, zs, e, hq, q⟩
  subst e
  obtain ⟨u, rfl, ru⟩ := r.one
  obtain rfl : u = Value.ref t := ru
  obtain ⟨its, rv, pl, hz⟩ := I.tuple hq
  refine Calls.call_function_entry (by decide +kernel) (by decide +kernel) PySem.W.kdk_entry_iter (PySem.W.kdk_args_iter _) ?_
  unfold Builtin.«iter»
  refine wpAny_bind (m := someArgs "iter" 1 2 _) (wpAny_of_eq (a := [Value.ref t]) (by first | rfl | kernel_rfl!) ?_)
  show wpAny _ _ (pyIter (.ref t) >>= _) _ _ _
  refine wpAny_bind (wpAny_pyIter_tuple (show s.heap.IsTuple t its.toArray from pl) ?_)
  have g : (s.heap.push (itTup t 0)).get? s.heap.objs.size = some (itTup t 0) := Heap.get?_push_size _ rfl
  have ok : ObjOk X.prog X.w (upd H s.heap.objs.size (ItT t s.heap.objs.size 0)) (s.heap.push (itTup t 0)) s.heap.objs.size (ItT t s.heap.objs.size 0) := ⟨g, ⟨_, g⟩, fun _ _ q k => k _ q⟩
  exact wpAny_pure ⟨_, rfl, .ref s.heap.objs.size, _, I.laid (t' := s.toks) (fun b u e => Heap.get?_push_of_some _ e) (Nat.le_refl _) ok, relR _, q _ (I.hok.fresh (Nat.le_refl _)) I.sz⟩
end

/-- a promise that may speak of how many objects there are when the def is called -/
def FnIt (P : Program) (w : World) (K : PySem.W.Frag) (mg : Str → Option Value) (base : Heap) (k : Nat) (f : Addr) (fd : FuncData) (ps : List Str) (sp : Nat → List V → Hp → VK → Prop) : Prop :=
  ∀ (A : Around) (outer : List Env) (s : Shared) (H : Hp) (us : List Value) (vs : List V) (Q : VK), Room k A → Env0 P w K mg base A outer s H → BindsTo s fd ⟨us, []⟩ (ps.zip us) → vs.length = ps.length → Vals vs us →
    sp s.heap.objs.size vs H Q → codeAny (model P w) A (.call (.ref f) ⟨us, []⟩) (CR CX0 outer P w H s Q E0) s
section
variable {P : Program} {w : World} {K : PySem.W.Frag} {mg : Str → Option Value} {base : Heap}
theorem fnIt_of {x qual : Str} {st : Stmt} {f : Addr} {fd : FuncData} {N ps : List Str} {k : Nat} {sp : Nat → List V → Hp → VK → Prop} (F : Fun K x qual st f fd) (S : FnScope N ps (defScope st))
    (hbody : ∀ (cdv : Value) (A : Around) (outer : List Env) (s : Shared) (H : Hp) (vs : List V) (Q : VK), Room k (A.deeper (envOfC qual (defScope st) s.heap.objs.size f cdv)) → sp s.heap.objs.size vs H Q →
      ∃ t, PSs (cxOf CX0 P w K mg base N qual (defScope st) f cdv A outer s H E0).nox (defBody st) t ∧ t { nx := fun _ H' => Q .non H', rt := Q } (start N vs) H) : FnIt P w K mg base (k + 1) f fd ps sp := by
  obtain ⟨oc, od, kV, doc, pm, an, cdv, ct, osl, rfl, lk, hcd⟩ := F.ex
  intro A outer s H us vs Q hr e0 hb hl r hsp
  have kin : K.In s.heap := e0.mod.kin.keeps fun b o e => (e0.bs b o e).1
  have lim : s.heap.NoLimit := e0.mod.nolimit.keeps fun b o e => (e0.bs b o e).1
  have kinds : ∀ y ∈ ps.zip us, (defScope st).names.lookup y.1 = some .local ∨ ((defScope st).names.lookup y.1 = some .cell ∧ ((cellsFrom (s.heap.objs.size + 1) (defScope st).names []).lookup y.1).isSome = true) := by
    intro y hy
    cases S.par y.1 (List.of_mem_zip (a := y.1) (b := y.2) hy).1 with
    | inl q => exact .inl q
    | inr q => exact .inr ⟨q, PySem.W.cellsFrom_some _ _ _ (.inl q)⟩
  apply codeAny_call_function hr.depth (kin _ _ lk) rfl S.co S.gen rfl (PySem.W.codeRec_of kin hcd) (hb _ _ _ _ ?_)
  apply wpAny_newFunctionEnv_cells S.kind kinds
  intro env he s1 x
  subst he
  refine ⟨lim.keeps x.toInCall.keep, codeAny_func ?_⟩
  obtain ⟨t, ht, hq⟩ := hbody cdv A outer s H vs Q (hr.deeper _) hsp
  have I := inv_start (CX := CX0) (P := P) (w := w) (E := E0) (cd := cdv) (qual := qual) (f := f) (outer := outer) S hr.hd e0 hl r x
  refine wpAny_mono (ht.nox.run [] s1 (start N vs) H _ I hq) (fun fl s' hs => ?_) fun e s' hs => hs
  match fl, hs with
  | .ret u, ⟨v, σ', H', J, rv, q⟩ => exact ⟨v, H', J.os, J.bare, J.base, J.hok, rv, q⟩
  | .next, ⟨σ', H', J, q⟩ => exact ⟨V.non, H', J.os, J.bare, J.base, J.hok, rfl, q⟩
  | .brk, ⟨_, _, _, q⟩ => exact False.elim q
  | .cont, ⟨_, _, _, q⟩ => exact False.elim q
end
/-- what such an __iter__ promises -/
def spIter (K : PySem.W.Frag) (C : Addr) (fld : Str) : Nat → List V → Hp → VK → Prop := fun n vs H Q => ∃ a dx fs t zs, vs = [.ref a] ∧ H a = some (.ins C dx fs) ∧ fs.lookup fld = some (.ref t) ∧ SqT K H t zs ∧
  ∀ it, H it = Option.none → n ≤ it → Q (.ref it) (upd H it (ItT t it 0))
/-- x in o, for a loop: o's own tuple is walked -/
def iOwn (K : PySem.W.Frag) (C : Addr) (fld : Str) (to : TE) : TI := fun σ H R => to σ H fun x H1 => ∃ a dx fs t zs, x = .ref a ∧ H1 a = some (.ins C dx fs) ∧ fs.lookup fld = some (.ref t) ∧ SqT K H1 t zs ∧ R (Itt K t) H1
section
variable {X : Cx} {k : Nat} {f C : Addr} {fd : FuncData} {fld : Str} {tg o : Expr} {to : TE} {pins : List (Addr × Obj)} {σ : L2.St} {H : Hp} {s : Shared} {A1 : Around}
theorem run_iter {a t dx : Addr} {fs : List (Str × V)} {zs : List V} (F : FnIt X.prog X.w X.K X.mg X.base k f fd ["self"] (spIter X.K C fld)) (sb : Sub X k A1) (hb : Binds X.K fd ["self"] []) (I : Inv X pins σ H s)
    (ha : H a = some (.ins C dx fs)) (hf : fs.lookup fld = some (.ref t)) (ht : SqT X.K H t zs) {E : Value → Shared → Prop} :
    wpAny (model X.prog X.w) A1 (call (.ref f) [.ref a]) (fun u s' => ∃ it, u = .ref it ∧ s.heap.objs.size ≤ it ∧ H it = Option.none ∧ Inv X pins σ (upd H it (ItT t it 0)) s') E s := by
  have hb1 : BindsTo s fd ⟨[.ref a], []⟩ ((["self"] : List Str).zip [Value.ref a]) := by
    have z := hb s [.ref a] I.kIn rfl
    exact z
  refine wpAny_call (codeAny_mono (F A1 X.stack s H [.ref a] [.ref a] (fun v H' => ∃ it, v = .ref it ∧ s.heap.objs.size ≤ it ∧ H it = Option.none ∧ H' = upd H it (ItT t it 0)) sb.room (Sub.env0 sb I) hb1 rfl (.cons (relR a) .nil)
    ⟨a, dx, fs, t, zs, rfl, ha, hf, ht, fun it h0 hn => ⟨it, rfl, hn, h0, rfl⟩⟩) fun z s' hq => ?_)
  match z, hq with
  | .error e, hq => exact hq.elim
  | .ok (.ret u), hq =>
    obtain ⟨v, H', I', rv, it, ev, hn, h0, eH⟩ := I.after hq
    subst ev
    rw [eH] at I'
    obtain rfl : u = Value.ref it := rv
    exact ⟨it, rfl, hn, h0, I'⟩
  | .ok .next, hq => exact False.elim hq
  | .ok .brk, hq => exact False.elim hq
  | .ok .cont, hq => exact False.elim hq
theorem pi_own (hd : Dn X.K C "__iter__" f) (F : FnIt X.prog X.w X.K X.mg X.base k f fd ["self"] (spIter X.K C fld)) (hr : Room k X.A) (hb : Binds X.K fd ["self"] []) (ho : PE X o to) : PI X tg o (iOwn X.K C fld to) := by
  refine ⟨fun pins s σ H R I h => ?_⟩
  refine thn (ho.run pins s σ H _ I h) fun u s1 ⟨x, H1, I1, rx, a, dx, fs, t, zs, ex, ha, hf, ht, q⟩ => ?_
  subst ex
  obtain rfl : u = Value.ref a := rx
  obtain ⟨mA, O, rr, _, _, _⟩ := ins_get I1.hok ha
  obtain ⟨od, J, hl⟩ := O.look
  obtain ⟨m0, hF⟩ := I1.fr
  refine PySem.W.owit_iter hF I1.ok.mod.kin J hd.at_ hd.fn (thn (run_iter F ⟨hr, rfl⟩ hb I1 ha hf ht) fun r s2 ⟨it, er, hn, h0, I2⟩ => ?_)
  subst er
  have e2 : upd H1 it (ItT t it 0) it = some (ItT t it 0) := upd_same
  have g : s2.heap.get? it = some (itTup t 0) := (I2.hok it _ e2).1
  have hT : s2.TypeIs (.ref it) "tuple_iterator" := ⟨_, g, rfl⟩
  have hfp := ItX.inv_fp I2 e2 (Nat.le_trans I1.sz hn)
  have I3 := ItX.inv_drop I2 e2
  rw [ItX.dropH_upd h0] at I3 hfp
  unfold PySem.W.OwitIt
  refine wpAny_specialOf (name := Str.ofString "__next__") hT PySem.F.slot_tuple_iterator_next.lookup ?_
  refine ⟨it, [it], _, _, H1, rfl, I3, turn_tuple t it, ⟨_, g, rfl, rfl⟩, fun b hb => ?_, q⟩
  rw [List.mem_singleton.mp hb]
  exact hfp
end
/-! C.m(e, .., k = v, ..), m a classmethod; cls(e, .., k = v, ..), cls a local name that holds the class -/
def tCMethK (C : Addr) (n m : Nat) (sp : Sp) (gV : List V → List V → List V) (E : XK) (ta : TE) (t tk : TA) : TE := fun σ H Q => ta σ H fun x H1 => x = .ref C ∧ t σ H1 fun vs H2 => tk σ H2 fun zs H3 => (.ref C :: vs).length = n ∧ zs.length = m ∧ sp (gV (.ref C :: vs) zs) H3 Q E
def tMakeLK (i : Nat) (C : Addr) (n m : Nat) (sp : Sp) (gV : List V → List V → List V) (E : XK) (t tk : TA) : TE := fun σ H Q => σ[i]? = some (some (.ref C)) ∧ tMakeK C n m sp gV E t tk σ H Q
section
variable {X : Cx} {CX : CXT} {k n i : Nat} {C p g f : Addr} {mc : Value} {sp : Sp} {E : XK} {o e : Expr} {es : List Expr} {kws : List Keyword} {m x : Str} {pos apos xpos : Pos} {ta : TE} {t tk : TA} {pl : Sem Bool} {fd : FuncData} {ps ks : List Str}
  {gv : List Value → List Value → List Value} {gV : List V → List V → List V}
theorem pe_cmethK (he : PE X o ta) (r : ClX.CRead X.K C mc) (c : ClX.CMet X.K C mc m p g) (F : FnOk X.prog X.w X.K X.mg X.base CX k g fd ps sp) (hr : Room k X.A) (hb : KBn X.K fd ps n ks gv gV) (hx : Passes CX X E) (ha : PA X (e :: es) t) (hkw : PK X kws tk)
    (hall : (backToKw pos (keywordEach kws X.env)).all (·.1.isSome) = true := by rfl) (hks : (backToKw pos (keywordEach kws X.env)).filterMap (·.1) = ks := by rfl)
    (hst : starEach (e :: es) X.env = (false, eval e X.env) :: starEach es X.env := by rfl) (hpl : ((backTo pos (starEach (e :: es) X.env)).any (·.1) || (backToKw pos (keywordEach kws X.env)).any (·.1.isNone)) = false := by rfl)
    (ht : eval (.Call (.Attribute o m apos) (e :: es) kws pos) X.env = (do
      let ov ← eval o X.env
      standAt apos.atName
      let (f, first) ← holding [ov] (getMethod ov m pl)
      callWith pos f first (backTo pos (starEach (e :: es) X.env)) (backToKw pos (keywordEach kws X.env))) := by rfl) :
    PE X (.Call (.Attribute o m apos) (e :: es) kws pos) (tCMethK C n ks.length sp gV E ta t tk) := by
  refine ⟨fun pins s σ H Q I h => ?_⟩
  refine PySem.W.methodCall_KW (pl := pl) (thn (he.run pins s σ H _ I h) fun u s1 ⟨x, H1, I1, rx, ex, q⟩ => ?_) ht
  subst ex
  obtain rfl : u = Value.ref C := rx
  refine ClX.getmethcm_ok I1 r c fun s2 I2 => ?_
  refine PySem.W.callWith_of (P := PySem.W.MethP X.K s1.heap.objs.size g (.ref C)) hpl (PySem.W.keeps_M c.fi) (evalArgs_kw2 hall (thn (ha.run pos _ s2 σ H1 _ I2 q) fun us s3 ⟨vs, H2, I3, rv, q2⟩ => ?_) hst)
  refine thn (hkw.run pos _ s3 σ H2 _ I3 q2) fun ws s4 ⟨zs, H3, I4, rz, l1, l2, q3⟩ => ⟨⟨ClX.pin_at I4, I4.kIn⟩, ?_⟩
  rw [hks]
  have r2 : Vals (V.ref C :: vs) (Value.ref C :: us) := .cons (relR C) rv
  have n1 : (Value.ref C :: us).length = n := r2.length.symm.trans l1
  have I5 := ClX.unpin I4
  refine wpAny_call (PySem.W.method_call (ClX.pin_at I4) (codeAny_mono (F.run X.A X.stack s4 H3 ⟨Value.ref C :: us, ks.zip ws⟩ _ _ Q E hr I5.env0 (hb.to _ (Value.ref C :: us) ws I5.kIn n1 (rz.length.symm.trans l2)) (hb.rel r2 rz) q3) fun z s' hq => ?_))
  match z, hq with
  | .error e, hq => exact hx pins σ H3 s4 e s' I5 hq
  | .ok (.ret u), hq => exact I5.after hq
  | .ok .next, hq => exact False.elim hq
  | .ok .brk, hq => exact False.elim hq
  | .ok .cont, hq => exact False.elim hq
theorem pe_makeLK (M : Mk X.K C f) (F : FnOk X.prog X.w X.K X.mg X.base CX k f fd ps sp) (hr : Room (k + 1) X.A) (hb : KBn X.K fd ps (n + 1) ks gv gV) (hx : Passes CX X E) (ha : PA X (e :: es) t) (hkw : PK X kws tk)
    (hN : X.N[i]? = some x) (hv : Vis X.env.scope x) (hd : (x == ("__debug__" : Str)) = false := by decide) (hcd : (x == ("__classdict__" : Str)) = false := by decide)
    (hall : (backToKw pos (keywordEach kws X.env)).all (·.1.isSome) = true := by rfl) (hks : (backToKw pos (keywordEach kws X.env)).filterMap (·.1) = ks := by rfl)
    (hst : starEach (e :: es) X.env = (false, eval e X.env) :: starEach es X.env := by rfl) (hpl : ((backTo pos (starEach (e :: es) X.env)).any (·.1) || (backToKw pos (keywordEach kws X.env)).any (·.1.isNone)) = false := by rfl) :
    PE X (.Call (.Name x xpos) (e :: es) kws pos) (tMakeLK i C n ks.length sp gV E t tk) := by
  refine ⟨fun pins s σ H Q I ⟨h0, h⟩ => ?_⟩
  refine wpAny_Call_Name_kw (thn ((pe_var (pos := xpos) (i := i) hN hv hd hcd).run pins s σ H (fun v H1 => v = .ref C ∧ H1 = H) I ⟨.ref C, h0, rfl, rfl⟩) fun u s1 ⟨v, H1, I1, r1, ev, eH⟩ => ?_)
  subst ev
  rw [eH] at I1
  obtain rfl : u = Value.ref C := r1
  refine PySem.W.callWith_KW (h₀ := X.base) I1.ok.mod.kin M.kp hall (thn (ha.run pos pins s1 σ H _ I1 h) fun us s2 ⟨vs, H2, I2, r, q⟩ => ?_) hpl hst
  refine thn (hkw.run pos pins s2 σ H2 _ I2 q) fun ws s3 ⟨zs, H3, I3, rz, l1, l2, q2⟩ => ⟨I3.kIn, ?_⟩
  rw [hks]
  exact run_makeK M F hr hb hx I3 r rz l1 l2 q2
end

/-! heaps that only grow -/
theorem Same.up {H : Hp} {p : Addr} {o : HO} (h : H p = Option.none) : Same H (upd H p o) := fun b u e => by
  rw [upd_ne (ne_of_none e h)]
  exact e
/-- a list under way at D, which was not there in H1 -/
structure Acc (H1 : Hp) (D : Addr) (acc : List V) (H : Hp) : Prop where
  s : Same H1 H
  n : H1 D = Option.none
  a : H D = some (.lst acc)
theorem Acc.start {H1 : Hp} {D : Addr} (n : H1 D = Option.none) : Acc H1 D [] (upd H1 D (.lst [])) := ⟨Same.up n, n, upd_same⟩
theorem Acc.same {H1 H H' : Hp} {D : Addr} {acc : List V} (h : Acc H1 D acc H) (s : Same H H') : Acc H1 D acc H' := ⟨h.s.trans s, h.n, s _ _ h.a⟩
theorem Acc.push {H1 H : Hp} {D : Addr} {acc zs : List V} (h : Acc H1 D acc H) : Acc H1 D zs (upd H D (.lst zs)) :=
  ⟨fun b o e => by rw [upd_ne (ne_of_none e h.n)]; exact h.s b o e, h.n, upd_same⟩
theorem Same.none' {H H' : Hp} (s : Same H H') {p : Addr} (h : H' p = Option.none) : H p = Option.none := s.free h
theorem Same.of_upd {H H' : Hp} {p : Addr} {o : HO} (h : H p = Option.none) (s : Same (upd H p o) H') : Same H H' := (Same.up h).trans s
/-- a list of ints as values -/
theorem ints_at {ns : List Int} {i : Nat} {x : V} (h : (ns.map V.int)[i]? = some x) : ∃ (hi : i < ns.length), x = .int ns[i] := by
  rw [List.getElem?_map] at h
  cases e : ns[i]? with
  | none => rw [e] at h; cases h
  | some u =>
    rw [e] at h
    obtain ⟨hi, rfl⟩ := List.getElem?_eq_some_iff.mp e
    exact ⟨hi, (Option.some.inj h).symm⟩

/-! comprehensions that pick -/
section
variable {α : Type} {H1 H : Hp} {D : Addr} {ks : List α} {f : α → Option V} {i : Nat} {c : α → V}
def PickI (H1 : Hp) (D : Addr) (ks : List α) (f : α → Option V) : Nat → Hp → Prop := fun i H => Acc H1 D ((ks.take i).filterMap f) H
theorem pick_start (n : H1 D = Option.none) : PickI H1 D ks f 0 (upd H1 D (.lst [])) := Acc.start n
theorem take_fm (hi : i < ks.length) : (ks.take (i + 1)).filterMap f = (ks.take i).filterMap f ++ (f ks[i]).toList := by
  rw [List.take_succ_eq_append_getElem hi, List.filterMap_append]
  cases h : f ks[i] <;> simp [h]
theorem pick_yes {H' : Hp} {y : V} (hi : i < ks.length) (hl : ks.length ≤ 1000) (e : f ks[i] = some y) (s : Same H H') (h : PickI H1 D ks f i H) :
    ∃ acc, H' D = some (.lst acc) ∧ acc.length < sizeLine ∧ PickI H1 D ks f (i + 1) (upd H' D (.lst (acc ++ [y]))) := by
  have h2 := Acc.same h s
  refine ⟨_, h2.a, small1000 ?_, ?_⟩
  · exact Nat.le_trans (Nat.le_trans (List.length_filterMap_le _ _) (List.length_take_le _ _)) (by omega)
  · unfold PickI
    rw [take_fm hi, e]
    exact h2.push
theorem pick_no {H' : Hp} (hi : i < ks.length) (e : f ks[i] = none) (s : Same H H') (h : PickI H1 D ks f i H) : PickI H1 D ks f (i + 1) H' := by
  unfold PickI
  rw [take_fm hi, e, Option.toList_none, List.append_nil]
  exact Acc.same h s
theorem pick_end {m : Nat} (hm : m = ks.length) (h : PickI H1 D ks f m H) : Acc H1 D (ks.filterMap f) H := by
  subst hm
  unfold PickI at h
  rw [List.take_length] at h
  exact h
theorem map_at {x : V} (h : (ks.map c)[i]? = some x) : ∃ hi : i < ks.length, x = c ks[i] := by
  rw [List.getElem?_map] at h
  cases e : ks[i]? with
  | none => rw [e] at h; cases h
  | some u =>
    rw [e] at h
    obtain ⟨hi, rfl⟩ := List.getElem?_eq_some_iff.mp e
    exact ⟨hi, (Option.some.inj h).symm⟩
end
end Tw

set_option Elab.async false
set_option linter.all false
set_option maxRecDepth 100000
set_option maxHeartbeats 2000000
namespace Tw
open PySem PySem.Spec PyProof.Rows L2
open PySem.W (InstAt looks_findIn looks_subIn ifBound_K cmp_K)
/-- a class with an own __eq__ and the usual != -/
structure EqC (K : PySem.W.Frag) (C f : Addr) : Prop where
  eq : PySem.W.findIn K (.ref C) "__eq__" = some (some (.ref f))
  fn : PySem.W.isFn K (.ref f) = true
  ne : PySem.W.findIn K (.ref C) "__ne__" = some (some (.builtin "object.__ne__"))
  ob : PySem.W.subIn K (.ref C) (.type "object") = some true
  ni : PySem.W.subIn K (.type "int") (.ref C) = some false
  nt : PySem.W.subIn K (.type "tuple") (.ref C) = some false

section
variable {prog : Program} {w : World} {A : Around} {E : Value → Shared → Prop} {s : Shared} {K : PySem.W.Frag} {x C L f : Addr} {h₀ : Heap} {m : Str → Option Value} {ox : Obj} {od : Option Obj} {b tb : Value}
theorem ne_entry {Q : PySem.Fin → Shared → Prop} (hu : A.units < cLine) (X : K.In s.heap) (I : InstAt s.heap x ox C od) (c : EqC K C f)
    (h : wpAny (model prog w) A (call (.ref f) [.ref x, b]) (fun v s' => ∃ r, v = .bool r ∧ Q (.done (.ret (.bool (!r)))) s') E s) :
    wpAny (model prog w) A (Builtin.«object.__ne__» ⟨[.ref x, b], []⟩) Q E s := by
  unfold Builtin.«object.__ne__»
  refine wpAny_bind (wpAny_of_eq (a := (Value.ref x, [b])) (by first | rfl | kernel_rfl!) ?_)
  refine wpAny_bind (wpAny_cRoomFor hu ?_)
  refine wpAny_bind (m := callSpecialIfBound? (.ref x) (Str.ofString "__eq__") [b]) (ifBound_K X I c.eq c.fn (wpAny_mono h (fun v s' hv => ?_) fun _ _ e => e))
  obtain ⟨r, e, q⟩ := hv
  subst e
  refine wpAny_bind (m := truthy (.bool r)) (wpAny_truthy_bool ?_)
  exact wpAny_pure q
theorem ne_call {Q : Value → Shared → Prop} (hu : A.in1.units < cLine) (X : K.In s.heap) (I : InstAt s.heap x ox C od) (c : EqC K C f)
    (h : wpAny (model prog w) A.in1 (call (.ref f) [.ref x, b]) (fun v s' => ∃ r, v = .bool r ∧ Q (.bool (!r)) s') E s) :
    wpAny (model prog w) A (call (.builtin "object.__ne__") [.ref x, b]) Q E s := by
  have t2 : PySem.W.Looks (model prog w) s.heap (isInstance (.ref x) (.type "object")) true := I.type.andThen (looks_subIn X c.ob)
  refine wpAny_call (codeAny_call_builtin F.cmp_object.ne.plain F.cmpEntry_ne (PySem.W.check_slot F.cmpKind_ne F.cmpSplit_ne t2 (F.cmpArgs_ne _ _) (ne_entry hu X I c (wpAny_mono h (fun v s' hv => ?_) fun _ _ e => e))))
  obtain ⟨r, e, q⟩ := hv
  exact ⟨r, e, q⟩
theorem ne_bound {Q : Option Value → Shared → Prop} (hu : A.in1.units < cLine) (X : K.In s.heap) (I : InstAt s.heap x ox C od) (c : EqC K C f)
    (h : wpAny (model prog w) A.in1 (call (.ref f) [.ref x, b]) (fun v s' => ∃ r, v = .bool r ∧ Q (some (.bool (!r))) s') E s) :
    wpAny (model prog w) A (callSpecialIfBound? (.ref x) "__ne__" [b]) Q E s := by
  simp only [callSpecialIfBound?, bindSpecialIfBound?]
  refine wpAny_holding (wpAny_bind (wpAny_bind (wpAny_bind (I.type.here ((looks_findIn X c.ne).here ?_)))))
  refine wpAny_bind (wpAny_askSetting (wpAny_ite ?_))
  have fin : wpAny (model prog w) A (call (.builtin "object.__ne__") ([.ref x] ++ [b]) >>= fun v => pure (some v)) Q E s :=
    wpAny_bind (ne_call hu X I c (wpAny_mono h (fun v s' ⟨r, e, q⟩ => ⟨r, e, wpAny_pure q⟩) fun _ _ e => e))
  have bd := F.cmp_object.ne.bind (.ref x)
  split
  · refine wpAny_bind ?_
    rw [bd]
    exact wpAny_pure (wpAny_pure (by exact fin))
  · refine wpAny_tryCatch (wpAny_bind ?_)
    rw [bd]
    exact wpAny_pure (wpAny_pure (by exact fin))
theorem ne_K {Q : Value → Shared → Prop} (hu : A.in1.units < cLine) (hu0 : A.units < cLine) (F : Fr h₀ L s.heap m) (X₀ : K.In h₀) (I : InstAt s.heap x ox C od) (hb : PySem.W.Looks (model prog w) s.heap (typeOf b) tb) (hn : PySem.W.notFirst K C tb = true) (c : EqC K C f)
    (h : wpAny (model prog w) A.in1 (call (.ref f) [.ref x, b]) (fun v s' => ∃ r, v = .bool r ∧ Q (.bool (!r)) s') E s) : wpAny (model prog w) A (richCompare .NotEq (.ref x) b) Q E s := by
  have X := X₀.keeps F.keep
  have one : wpAny (model prog w) A (tryCompare (.ref x) (cmpInfo .NotEq).2.1 b) (fun r s' => ∃ v, r = some v ∧ Q v s') E s := by
    unfold tryCompare
    refine wpAny_bind (ne_bound hu X I c (wpAny_mono h (fun v s' ⟨r, e, q⟩ => ⟨r, e, ?_⟩) fun _ _ e => e))
    exact wpAny_pure ⟨_, rfl, q⟩
  have two : ∀ r s', (∃ v, r = some v ∧ Q v s') → ∃ v, r = some v ∧ Q v s' := fun _ _ z => z
  unfold richCompare
  simp only [oneThing_ref]
  refine wpAny_holding (wpAny_bind (wpAny_cRoomFor hu0 ?_))
  refine wpAny_bind (I.type.here (wpAny_bind (hb.here ?_)))
  split
  · rename_i q
    have e : PySem.W.subIn K tb (.ref C) = some false := by
      rcases Bool.or_eq_true_iff.mp hn with e | e
      · rw [beq_iff_eq.mp e] at q; simp at q
      · exact beq_iff_eq.mp e
    refine wpAny_bind ((looks_subIn X e).here ?_)
    simp only [Bool.false_eq_true, if_false]
    refine wpAny_bind (wpAny_mono one (fun r s' ⟨v, ev, hq⟩ => ?_) fun _ _ e => e)
    subst ev
    exact wpAny_pure hq
  · refine wpAny_bind (wpAny_pure ?_)
    simp only [Bool.false_eq_true, if_false]
    refine wpAny_bind (wpAny_mono one (fun r s' ⟨v, ev, hq⟩ => ?_) fun _ _ e => e)
    subst ev
    exact wpAny_pure hq
end
/-! as rules -/
section
variable {X : Cx} {CX : CXT} {k : Nat} {f C : Addr} {fd : FuncData} {ps : List Str} {sp : Sp} {E : XK}
/-- the other operand: an instance of the same class, an int, a tuple -/
inductive Oth (H : Hp) (C : Addr) : V → Prop where
  | ins {a dx : Addr} {fs : List (Str × V)} (h : H a = some (.ins C dx fs)) : Oth H C (.ref a)
  | int (i : Int) : Oth H C (.int i)
  | tup {a : Addr} {xs : List V} (h : H a = some (.tup xs)) : Oth H C (.ref a)
def rEqO (C : Addr) (sp : Sp) (E : XK) (neg : Bool) : R2 := fun x y H Q =>
  ∃ a dx fs, x = .ref a ∧ H a = some (.ins C dx fs) ∧ Oth H C y ∧ sp [.ref a, y] H (fun v H' => ∃ r, v = .bl r ∧ Q (.bl (if neg then !r else r)) H') E
theorem oth_type {pins : List (Addr × Obj)} {σ : L2.St} {H : Hp} {s : Shared} {y : V} {u : Value} (I : Inv X pins σ H s) (ry : RelV y u) (c : EqC X.K C f) (o : Oth H C y) :
    ∃ tb, PySem.W.Looks (model X.prog X.w) s.heap (typeOf u) tb ∧ PySem.W.notFirst X.K C tb = true := by
  cases o with
  | @ins a dx fs h =>
    obtain rfl : u = Value.ref a := ry
    obtain ⟨mA, O, rr, _, _, _⟩ := ins_get I.hok h
    obtain ⟨od, J, hl⟩ := O.look
    exact ⟨_, J.type, by unfold PySem.W.notFirst; simp⟩
  | int i =>
    obtain ⟨t, rfl⟩ := ry
    exact ⟨.type "int", .now, by unfold PySem.W.notFirst; rw [c.ni]; simp⟩
  | @tup a xs h =>
    obtain rfl : u = Value.ref a := ry
    obtain ⟨_, _, _, ob, h1, h2, _⟩ := (show ObjOk X.prog X.w H s.heap a (.tup xs) from I.hok a _ h)
    exact ⟨.type "tuple", h2 ▸ (PySem.W.Looks.ld h1).andThen .now, by unfold PySem.W.notFirst; rw [c.nt]; simp⟩
theorem op_eq_own (c : EqC X.K C f) (F : FnOk X.prog X.w X.K X.mg X.base CX k f fd ps sp) (hr : Room k X.A) (hb : Binds X.K fd ps []) (hx : Passes CX X E) : OpR X (compareOp .Eq) (rEqO C sp E false) := by
  intro pins s σ H x y v u Q I rx ry ⟨a, dx, fs, ex, ha, o, q⟩
  subst ex
  obtain rfl : v = Value.ref a := rx
  obtain ⟨mA, O, rr, _, _, _⟩ := ins_get I.hok ha
  obtain ⟨od, J, hl⟩ := O.look
  obtain ⟨m0, hF⟩ := I.fr
  obtain ⟨tb, lk, nf⟩ := oth_type I ry c o
  show wpAny _ _ (richCompare .Eq (.ref a) u) _ _ _
  refine cmp_K hr.units0 hF I.ok.mod.kin J lk nf c.eq c.fn (thn (run_sub F ⟨hr, rfl⟩ hb hx I (.cons (relR a) (.cons ry .nil)) q) fun r s' ⟨z, H', I', rz, b, ez, q'⟩ => ?_)
  subst ez
  obtain rfl : r = Value.bool b := rz
  exact ⟨_, H', I', relB b, q'⟩
theorem op_ne_own (c : EqC X.K C f) (F : FnOk X.prog X.w X.K X.mg X.base CX k f fd ps sp) (hr : Room (k + 1) X.A) (hb : Binds X.K fd ps []) (hx : Passes CX X E) : OpR X (compareOp .NotEq) (rEqO C sp E true) := by
  intro pins s σ H x y v u Q I rx ry ⟨a, dx, fs, ex, ha, o, q⟩
  subst ex
  obtain rfl : v = Value.ref a := rx
  obtain ⟨mA, O, rr, _, _, _⟩ := ins_get I.hok ha
  obtain ⟨od, J, hl⟩ := O.look
  obtain ⟨m0, hF⟩ := I.fr
  obtain ⟨tb, lk, nf⟩ := oth_type I ry c o
  show wpAny _ _ (richCompare .NotEq (.ref a) u) _ _ _
  refine ne_K (Room.units0 hr.in1) hr.units0 hF I.ok.mod.kin J lk nf c (thn (run_sub F (Sub.in1 ⟨hr, rfl⟩) hb hx I (.cons (relR a) (.cons ry .nil)) q) fun r s' ⟨z, H', I', rz, b, ez, q'⟩ => ?_)
  subst ez
  exact ⟨b, rz, _, H', I', relB (!b), q'⟩
end
end Tw

set_option Elab.async false
set_option linter.all false
set_option maxRecDepth 100000
set_option maxHeartbeats 4000000
namespace Tw
open PySem PySem.Spec PyProof.Rows L2
/-! enumerate(t), t a tuple -/
def enO (s : Shared) : Obj := { cls := .type "enumerate", data := .fields #[.none, .bool false, .ref s.heap.objs.size, rawInt 0, .none, .none] }
theorem enum_newT (t : Addr) (items : Array Value) :
    Meets (Builtin.«enumerate.__new__» ⟨[.type "enumerate", .ref t], []⟩) (fun _ R s => s.heap.IsTuple t items ∧
      R (.ok (.ret (.ref (s.heap.push (itTup t 0)).objs.size))) { s with heap := (s.heap.push (itTup t 0)).push (enO s) }) :=
  .of_wp fun prog w A R s h => by
    obtain ⟨hp, g, d, tk, os⟩ := s
    obtain ⟨h1, h⟩ := h
    have hsub := sub_enumerate
    have q1 : ∀ {A' : Around} {E : Value → Shared → Prop} {Q : Value → Shared → Prop}, Q (.ref hp.objs.size) ⟨hp.push (itTup t 0), g, d, tk, os⟩ → wpAny (model prog w) A' (pyIter (.ref t)) Q E ⟨hp, g, d, tk, os⟩ :=
      fun q => wpAny_pyIter_tuple (s := ⟨hp, g, d, tk, os⟩) h1 q
    wp_walk using q1
    refine wpAny_stack_any fun st => wpAny_pure ?_
    split
    · rename_i c _ _ _ _ _
      cases (c == Value.type "enumerate")
      · wp_walk using q1
        exact ⟨_, rfl, h⟩
      · wp_walk using q1
        exact ⟨_, rfl, h⟩
    · wp_walk using q1
      exact ⟨_, rfl, h⟩
section
variable {prog : Program} {w : World} {A : Around} {E : Value → Shared → Prop} {s : Shared}
theorem call_enumT {t : Addr} {items : Array Value} {Q : Value → Shared → Prop} (hT : s.heap.IsTuple t items)
    (h : ∀ h', IsEnum h' (s.heap.objs.size + 1) s.heap.objs.size 0 .none → h'.IsTupleIter s.heap.objs.size t 0 → h'.objs.size = s.heap.objs.size + 2 →
      (∀ b o, s.heap.get? b = some o → h'.get? b = some o) → Q (.ref (s.heap.objs.size + 1)) { s with heap := h' }) :
    wpAny (model prog w) A (call (.type "enumerate") [.ref t]) Q E s := by
  refine callType_new F.called_enumerate (by decide) (F.typeCall_enumerate_1 _) (F.newCall_enumerate_1 _) (fun obj => F.args_object_init_2 obj _) F.entry_enumerate_new (enum_newT t items) ⟨hT, ?_⟩
  have hz : (s.heap.push (itTup t 0)).objs.size = s.heap.objs.size + 1 := Heap.size_push ..
  show _ ∧ _
  rw [hz]
  have he : IsEnum ((s.heap.push (itTup t 0)).push (enO s)) (s.heap.objs.size + 1) s.heap.objs.size 0 .none := by
    have q := Heap.get?_push_size (s.heap.push (itTup t 0)) (o := enO s) rfl
    rw [hz] at q
    exact q
  have hi : ((s.heap.push (itTup t 0)).push (enO s)).IsTupleIter s.heap.objs.size t 0 := ⟨_, Heap.get?_push_of_some _ (Heap.get?_push_size _ rfl), rfl, rfl⟩
  exact ⟨⟨_, he, rfl⟩, h _ he hi (by rw [Heap.size_push, hz]) fun b o x => Heap.get?_push_of_some _ (Heap.get?_push_of_some _ x)⟩
end
def IteT (K : PySem.W.Frag) (a : Addr) : It :=
  ⟨fun i H => ∃ (xs : List V) (x : V), SqT K H a xs ∧ xs[i]? = some x, fun i H v H' => ∃ T x, v = .ref T ∧ H T = Option.none ∧ H' = upd H T (.tup [.int (i : Nat), x]) ∧ ∀ xs, SqT K H a xs → xs[i]? = some x, fun i H => ∃ xs : List V, SqT K H a xs ∧ xs.length = i⟩
theorem turn_enumT {P : Program} {w : World} {K : PySem.W.Frag} {elts : List Expr} {kk : Nat} {tpos : Pos} (a e it : Addr) :
    Turn P w K (.Tuple elts kk tpos) (IteT K a) [e, it] e (fun i h => (∃ old, IsEnum h e it ((i : Nat) : Int) old) ∧ h.IsTupleIter it a i ∧ e ≠ it) where
  mem := by simp
  obj := fun i h st b hb => by
    obtain ⟨⟨old, he⟩, ⟨o, ho, hc, hd⟩, _⟩ := st
    rcases (show b = e ∨ b = it by simpa using hb) with rfl | rfl
    · exact ⟨_, he, fun v q => nomatch q⟩
    · exact ⟨o, ho, fun v q => by rw [hd] at q; cases q⟩
  keep := fun i h h' st k => let ⟨⟨old, he⟩, hi, hne⟩ := st; ⟨⟨old, k e (by simp) _ he⟩, hi.at fun o q => k it (by simp) o q, hne⟩
  item := by
    intro X hP hw hK hc i pins s σ H E I hf st hg
    subst hP hw hK
    obtain ⟨⟨old, he⟩, hit, hne⟩ := st
    obtain ⟨xs, x, hq, hx⟩ := hg
    obtain ⟨its, rv, p, hz⟩ := I.tuple hq
    have hil : i < xs.length := (List.getElem?_eq_some_iff.mp hx).1
    have hlen := rv.length
    have hel : e < s.heap.objs.size := Heap.lt_size he
    have hitl : it < s.heap.objs.size := by obtain ⟨_, q, _⟩ := hit; exact Heap.lt_size q
    have hae : e ≠ a := fun z => by
      obtain ⟨oo, h1, h2, _⟩ := p
      rw [← z, he] at h1
      cases h1
      injection h2 with q
      exact absurd q (by decide)
    have hia : it ≠ a := fun z => by
      obtain ⟨oo, h1, h2, _⟩ := p
      obtain ⟨o2, h3, h4, _⟩ := hit
      rw [← z, h3] at h1
      cases h1
      rw [h4] at h2
      injection h2 with q
      exact absurd q (by decide)
    have D := Draws.tuple (prog := X.prog) (w := X.w) (A := X.A.in1) (I.ok.hd hc) it a hia.symm its.toArray
    refine wpAny_pyNext_enum_itemD D he ⟨hit, p⟩ (by rw [List.size_toArray]; omega) hne (by simp [hne, hae]) fun u h' tk hu ho hst hT hsz hk => ?_
    obtain ⟨u2, hu2, ru⟩ := rv.get hx
    obtain rfl : u = u2 := by
      rw [List.getElem?_toArray] at hu
      exact Option.some.inj (hu.symm.trans hu2)
    refine ⟨_, rfl, wpAny_letOwnedTupleGo_enum (s := { s with heap := h', toks := tk + 1 }) ho fun h'' he' sb => ?_⟩
    have hT2 : h''.get? s.heap.objs.size = some { cls := .type "tuple", data := .seq #[.int i tk, u] } := (sb.2 _ (Nat.ne_of_gt hel)).trans hT
    have new : ObjOk X.prog X.w (upd H s.heap.objs.size (.tup [.int (i : Nat), x])) h'' s.heap.objs.size (.tup [.int (i : Nat), x]) :=
      ⟨by show 2 ≤ sizeLine; decide, [.int i tk, u], .cons ⟨_, rfl⟩ (.cons ru .nil), ⟨_, hT2, rfl, _, rfl⟩⟩
    have I1 : Inv X pins σ (upd H s.heap.objs.size (.tup [.int (i : Nat), x])) { s with heap := h'', toks := tk + 1 } :=
      I.turnedNew (ch := [e, it]) (fun b ob hb q => (sb.2 b (fun z => hb (by simp [z]))).trans (hk b ob (fun z => hb (by simp [z])) (fun z => hb (by simp [z])) q)) hf (Nat.le_refl _) new
    refine ⟨.ref s.heap.objs.size, _, I1, rfl, ⟨_, x, rfl, I.hok.fresh (Nat.le_refl _), rfl, fun ys hy => by rw [I.tuple_inj hy hq]; exact hx⟩, ⟨⟨u, ?_⟩, hst.1.at fun o q => (sb.2 it (Ne.symm hne)).trans q, hne⟩, fun b hb => ?_⟩
    · rw [show ((i + 1 : Nat) : Int) = (i : Int) + 1 by omega]
      exact he'
    · have hb' : b < s.heap.objs.size := by
        rcases (show b = e ∨ b = it by simpa using hb) with rfl | rfl
        · exact hel
        · exact hitl
      rw [upd_ne (Nat.ne_of_lt hb')]
      exact (hf b hb).1
  done := by
    intro X hP hw hK hc i pins s σ H E I hf st hg
    subst hP hw hK
    obtain ⟨⟨old, he⟩, hit, hne⟩ := st
    obtain ⟨xs, hq, hx⟩ := hg
    obtain ⟨its, rv, p, hz⟩ := I.tuple hq
    obtain ⟨f0, f1, f2, f3, f4, f5⟩ := hf it (by simp)
    have hlen := rv.length
    have hae : e ≠ a := fun z => by
      obtain ⟨oo, h1, h2, _⟩ := p
      rw [← z, he] at h1
      cases h1
      injection h2 with q
      exact absurd q (by decide)
    have hia : it ≠ a := fun z => by
      obtain ⟨oo, h1, h2, _⟩ := p
      obtain ⟨o2, h3, h4, _⟩ := hit
      rw [← z, h3] at h1
      cases h1
      rw [h4] at h2
      injection h2 with q
      exact absurd q (by decide)
    have D := Draws.tuple (prog := X.prog) (w := X.w) (A := X.A.in1) (I.ok.hd hc) it a hia.symm its.toArray
    have en : its.toArray.size = i := by rw [List.size_toArray]; omega
    refine wpAny_pyNext_enum_endD D he (by rw [en]; exact ⟨hit, p⟩) fun h' eb => ⟨rfl, I.turned (t' := s.toks) (fun b o hb q => eb b o hb q) f0 f1 f3 f4 f5⟩
  self := fun A i s Q E st h => let ⟨⟨_, he⟩, _⟩ := st; wpAny_pyIter_enum he h
theorem walk_enumT {K : PySem.W.Frag} {a : Addr} {xs : List V} : Walk (IteT K a) xs.length (fun H => SqT K H a xs) (YPair (fun i => some (.int (i : Nat))) (fun i => xs[i]?)) := by
  refine ⟨fun i _ hi q => ⟨xs, xs[i], q, by simp [hi]⟩, fun _ q => ⟨xs, q, rfl⟩, fun i H v H' _ q y => ?_⟩
  obtain ⟨T, x, h1, h2, h3, h4⟩ := y
  exact ⟨T, .int (i : Nat), x, h1, h2, h3, rfl, h4 xs q⟩
/-- enumerate of a list or of a tuple -/
def iEnS (K : PySem.W.Frag) (ta : TA) : TI := fun σ H R => ta σ H fun vs H1 => ∃ a xs, vs = [.ref a] ∧ ((SqL K H1 a xs ∧ R (Ite K a) H1) ∨ (SqT K H1 a xs ∧ R (IteT K a) H1))
theorem pi_enS {X : Cx} {e : Expr} {ta : TA} {p pos tpos : Pos} {elts : List Expr} {kk : Nat} (hg : Gl X "enumerate") (hm : X.mg "enumerate" = Option.none) (ha : PA X [e] ta) (hs : starEach [e] X.env = [(false, eval e X.env)] := by rfl) :
    PI X (.Tuple elts kk tpos) (.Call (.Name "enumerate" p) [e] [] pos) (iEnS X.K ta) := by
  refine ⟨fun pins s σ H R I h => ?_⟩
  refine Call_ (ld_blt I hg hm boot_enumerate (PyProof.Rows.callWith_type1 (thn (ha.run pos pins s σ H _ I h) fun us s1 ⟨vs, H1, I1, r1, a, xs, ex, q1⟩ => ?_) hs rfl))
  subst ex
  obtain ⟨u, rfl, ru⟩ := r1.one
  obtain rfl : u = Value.ref a := ru
  have fr : ∀ b ∈ [s1.heap.objs.size + 1, s1.heap.objs.size], FpOk X pins H1 b := fun b hb => by
    have hle : s1.heap.objs.size ≤ b := by
      rcases (show b = s1.heap.objs.size + 1 ∨ b = s1.heap.objs.size by simpa using hb) with z | z <;> omega
    exact I1.fpOk hle (I1.hok.fresh hle)
  rcases q1 with ⟨hq, q⟩ | ⟨hq, q⟩
  · obtain ⟨its, rv, p', hz⟩ := I1.list hq
    exact call_enumerate_list p'.isList fun h' he hit hsz hk => wpAny_pyIter_enum he ⟨_, _, _, _, H1, rfl, I1.kept (t' := s1.toks) hk, turn_enum a (s1.heap.objs.size + 1) s1.heap.objs.size, ⟨⟨.none, he⟩, hit, Nat.succ_ne_self _⟩, fr, q⟩
  · obtain ⟨its, rv, p', hz⟩ := I1.tuple hq
    exact call_enumT p' fun h' he hit hsz hk => wpAny_pyIter_enum he ⟨_, _, _, _, H1, rfl, I1.kept (t' := s1.toks) hk, turn_enumT a (s1.heap.objs.size + 1) s1.heap.objs.size, ⟨⟨.none, he⟩, hit, Nat.succ_ne_self _⟩, fr, q⟩
end Tw

set_option Elab.async false
set_option linter.all false
set_option maxRecDepth 100000
set_option maxHeartbeats 2000000
/-! own rules: min(xs, key=lambda x: ys[x]), ys a name of the def -/
namespace Cl
open PySem PySem.Spec PyProof.Rows L2 LamX
section
variable {prog : Program} {w : World} {A : Around} {E : Value → Shared → Prop} {s : Shared}
/-- what the lambda's scope must say -/
structure LSc (scope : Scope) (x y : Str) : Prop where
  kind : scope.kind = .function
  co : scope.isCoroutine = false
  gen : scope.isGenerator = false
  nocell : ∀ z ∈ scope.names, z.2 ≠ .cell
  px : scope.names.lookup x = some .local
  fy : scope.names.lookup y = some .free
/-- lambda x: y[x], called with an int -/
theorem lam_ix {f l c' ck : Addr} {q x y : Str} {params : Arguments} {p1 p2 p3 : Pos} {scope : Scope} {cl : List (Str × Addr)} {pm ctv u : Value} {vs : List Value} {i : Int} {t : Tok} {Q : Value → Shared → Prop}
    (S : LSc scope x y) (hd : A.depth < recursionLimit) (hf : s.heap.get? f = some (PySem.W.kla_obj "<lambda>" q params (.Subscript (.Name y p1) (.Name x p2) p3) scope cl pm c' ctv))
    (hbind : ∀ v : Value, bindArgs (PySem.W.kla_fn "<lambda>" q params (.Subscript (.Name y p1) (.Name x p2) p3) scope cl pm (.ref c') ctv) ⟨[v], []⟩ = pure [(x, v)])
    (hcode : ∃ (oc : Obj) (us : Array Value) (tk : Tok), s.heap.get? c' = some oc ∧ oc.data = .fields us ∧ us[1]? = some (.str q tk)) (hlim : s.heap.NoLimit)
    (hck : cl.lookup y = some ck) (hcell : s.heap.IsCell ck (some (.ref l))) (hl : s.heap.IsList l vs.toArray) (h0 : 0 ≤ i) (h1 : i < 2 ^ 63) (hi : vs[i.toNat]? = some u)
    (hdx : (x == ("__debug__" : Str)) = false) (hdy : (y == ("__debug__" : Str)) = false) (hcy : (y == ("__classdict__" : Str)) = false)
    (h : ∀ h' tk, s.toks ≤ tk → (∀ b o, s.heap.get? b = some o → h'.get? b = some o) → Q u { s with heap := h', toks := tk }) : wpAny (model prog w) A (call (.ref f) [.int i t]) Q E s := by
  obtain ⟨oc, us, tq, hoc, hdc, hvc⟩ := hcode
  refine wpAny_call (PySem.W.kla_callFunE hd hf rfl S.co S.gen rfl ⟨c', oc, us, tq, rfl, hoc, hdc, hvc⟩ ?_)
  rw [hbind]
  refine wpAny_pure (wpAny_newFunctionEnv S.nocell (fun z hz => by rw [List.mem_singleton.mp hz]; exact S.px) (fun h₁ hns hsb => ⟨hlim.fresh _ hsb, ?_⟩) S.kind)
  have kp : ∀ b o, s.heap.get? b = some o → h₁.get? b = some o := fun b o e => hsb.extBut b o (Nat.ne_of_lt (Heap.lt_size e)) (Heap.get?_push_of_some _ e)
  refine PySem.W.kla_codeExpr ?_
  refine wpAny_Subscript_Name list_getitem_lookup ?_
  refine wpAny_Name (wpAny_loadName_free S.kind S.fy hck (hcell.keeps kp) ?_ hcy) hdy
  refine wpAny_Name (wpAny_loadName_local S.kind S.px hns (v := .int i t) ?_ ?_) hdx
  · simp [List.lookup]
  · have hl' : h₁.IsList l vs.toArray := hl.at fun o e => kp _ _ e
    refine ⟨hl'.typeIs, wpAny_getItem_list hl' h0 h1 (by simpa using hi) ?_⟩
    exact h h₁ _ (by show s.toks ≤ s.toks + _; omega) kp
/-- what a lambda x: y[x] is, and what it reads -/
structure LamAt (h : Heap) (f : Addr) (x y : Str) (q : Str) (params : Arguments) (p1 p2 p3 : Pos) (scope : Scope) (cl : List (Str × Addr)) (pm ctv : Value) (c' ck l : Addr) (us : List Value) : Prop where
  fn : h.get? f = some (PySem.W.kla_obj "<lambda>" q params (.Subscript (.Name y p1) (.Name x p2) p3) scope cl pm c' ctv)
  code : ∃ (oc : Obj) (us : Array Value) (tk : Tok), h.get? c' = some oc ∧ oc.data = .fields us ∧ us[1]? = some (.str q tk)
  lim : h.NoLimit
  hck : cl.lookup y = some ck
  cell : h.IsCell ck (some (.ref l))
  lst : h.IsList l us.toArray
theorem LamAt.keeps {h h' : Heap} {f : Addr} {x y : Str} {q : Str} {params : Arguments} {p1 p2 p3 : Pos} {scope : Scope} {cl : List (Str × Addr)} {pm ctv : Value} {c' ck l : Addr} {us : List Value}
    (L : LamAt h f x y q params p1 p2 p3 scope cl pm ctv c' ck l us) (k : ∀ b o, h.get? b = some o → h'.get? b = some o) : LamAt h' f x y q params p1 p2 p3 scope cl pm ctv c' ck l us :=
  ⟨k _ _ L.fn, let ⟨oc, us, tk, a, b, c⟩ := L.code; ⟨oc, us, tk, k _ _ a, b, c⟩, L.lim.keeps k, L.hck, L.cell.keeps k, L.lst.at fun o e => k _ _ e⟩
theorem min_lam {f a l c' ck : Addr} {q x y : Str} {params : Arguments} {p1 p2 p3 : Pos} {scope : Scope} {cl : List (Str × Addr)} {pm ctv : Value} {cs us : List Value} {ns : Nat → Int} {kf : Nat → Int} {Q : Value → Shared → Prop}
    (hh : A.handled = none) (S : LSc scope x y) (hd : A.depth < recursionLimit) (L : LamAt s.heap f x y q params p1 p2 p3 scope cl pm ctv c' ck l us)
    (hbind : ∀ v : Value, bindArgs (PySem.W.kla_fn "<lambda>" q params (.Subscript (.Name y p1) (.Name x p2) p3) scope cl pm (.ref c') ctv) ⟨[v], []⟩ = pure [(x, v)])
    (hdx : (x == ("__debug__" : Str)) = false) (hdy : (y == ("__debug__" : Str)) = false) (hcy : (y == ("__classdict__" : Str)) = false)
    (ht : s.heap.IsTuple a cs.toArray) (hc : ∀ i, i < cs.length → ∃ t, cs[i]? = some (.int (ns i) t)) (hne : 0 < cs.length)
    (hk : ∀ i, i < cs.length → 0 ≤ ns i ∧ ns i < 2 ^ 63 ∧ ∃ t, us[(ns i).toNat]? = some (.int (kf i) t))
    (h : ∀ v h' tk, cs[argBest (fun i j => decide (kf i < kf j)) (cs.length - 1)]? = some v → (∀ b o, s.heap.get? b = some o → h'.get? b = some o) → Q v { s with heap := h', toks := tk }) :
    wpAny (model prog w) A (call (.builtin "min") [.ref a] [(Str.ofString "key", .ref f)]) Q E s := by
  have hd1 : A.in1.depth < recursionLimit := hd
  refine call_min_walkK (PySem.W.iter_tupleW (A := A.in1) hh ht fun s₂ e2 W st hfp hfr kp2 => ?_)
  have sz2 : s.heap.objs.size < s₂.heap.objs.size := hfp _ List.mem_cons_self
  have old : ∀ {s' : Shared}, Moved [s₂.heap.objs.size, s.heap.objs.size] (fun a b => b = a) s₂ s' → ∀ b o, s.heap.get? b = some o → s'.heap.get? b = some o := fun {s'} m b o e => by
    have lt := Heap.lt_size e
    refine m.heap b o (fun hm => ?_) (kp2 b o e)
    rcases List.mem_cons.mp hm with z | hm
    · rw [z] at lt
      exact Nat.lt_irrefl _ (Nat.lt_trans lt sz2)
    · rw [List.mem_singleton.mp hm] at lt
      exact Nat.lt_irrefl _ lt
  have szc : cs.toArray.size = cs.length := by simp
  refine ⟨s.heap.objs.size, [s.heap.objs.size, a], [s.heap.objs.size], (fun a b => b = a), cs.toArray.size, _, _, fun s' => Moved [s₂.heap.objs.size, s.heap.objs.size] (fun a b => b = a) s₂ s', fun i k _ => ∃ t, k = .int (kf i) t, fun i j => decide (kf i < kf j), rfl, W, st, hfp, by rw [szc]; exact hne, ⟨?_, ?_, ?_, ?_⟩, Moved.refl fun _ => rfl, ?_⟩
  · exact fun s1 s' J m => J.trans (fun _ _ _ h1 h2 => h2.trans h1) m
  · exact fun i k s1 s' v _ => v
  · intro i v s1 o Q' E' hi hP J stI hS cont
    rw [szc] at hi
    obtain ⟨t, ec⟩ := hc i hi
    have ev : v = .int (ns i) t := by
      have hP' : cs[i]? = some v := by simpa using hP
      rw [ec] at hP'
      exact (Option.some.inj hP').symm
    subst ev
    obtain ⟨h0, h1, tk, eu⟩ := hk i hi
    have L1 := L.keeps (old J)
    refine lam_ix S hd1 L1.fn hbind L1.code L1.lim L1.hck L1.cell L1.lst h0 h1 eu hdx hdy hcy fun h' tk' hle kp => ?_
    exact cont _ _ (J.then_heap hle fun b o _ e => kp b o e) (W.frame _ s1 h' tk' stI hle fun b _ o e => kp b o e) (kp _ _ hS) ⟨_, rfl⟩ fun j k' z => z
  · intro i j ki kj s1 Q' E' J vi vj q
    exact CmpOf.ints_lt (prog := prog) (w := w) (A := A.in1) (P := fun i v => ∃ t, v = .int (kf i) t) kf (fun i v h => h) i j ki kj s1 Q' E' vi vj q
  · intro v s' hP J
    rw [szc] at hP
    have hP' : cs[argBest (fun i j => decide (kf i < kf j)) (cs.length - 1)]? = some v := by simpa using hP
    have e : s' = { s with heap := s'.heap, toks := s'.toks } := by
      obtain ⟨hp, g, d, tk, os⟩ := s'
      subst e2
      have h1 : g = s.gens := J.gens
      have h2 : d = s.drawn := J.drawn
      have h3 : os = s.os := J.os
      subst h1 h2 h3
      rfl
    rw [e]
    exact h v s'.heap s'.toks hP' (old J)
end
/-- the first of the least -/
def FirstLeast (kf : Nat → Int) (n j : Nat) : Prop := j < n ∧ (∀ i, i < n → kf j ≤ kf i) ∧ ∀ i, i < j → kf j < kf i
theorem best_is (kf : Nat → Int) : ∀ n, FirstLeast kf (n + 1) (argBest (fun i j => decide (kf i < kf j)) n)
  | 0 => ⟨Nat.zero_lt_one, fun i h => by rw [Nat.lt_one_iff.mp h]; exact Int.le_refl _, fun i h => nomatch h⟩
  | n + 1 => by
    obtain ⟨a, b, c⟩ := best_is kf n
    show FirstLeast kf (n + 2) (if decide (kf (n + 1) < kf (argBest (fun i j => decide (kf i < kf j)) n)) = true then n + 1 else argBest (fun i j => decide (kf i < kf j)) n)
    by_cases h : kf (n + 1) < kf (argBest (fun i j => decide (kf i < kf j)) n)
    · rw [if_pos (decide_eq_true h)]
      refine ⟨by omega, fun i hi => ?_, fun i hi => ?_⟩
      · by_cases e : i = n + 1
        · rw [e]
          exact Int.le_refl _
        · have := b i (by omega)
          omega
      · have := b i (by omega)
        omega
    · rw [if_neg (fun z => h (of_decide_eq_true z))]
      refine ⟨by omega, fun i hi => ?_, c⟩
      by_cases e : i = n + 1
      · rw [e]
        omega
      · exact b i (by omega)
theorem first_one {kf : Nat → Int} {n i j : Nat} (a : FirstLeast kf n i) (b : FirstLeast kf n j) : i = j := by
  rcases Nat.lt_trichotomy i j with h | h | h
  · have h1 := b.2.2 i h
    have h2 := a.2.1 j b.1
    omega
  · exact h
  · have h1 := a.2.2 j h
    have h2 := b.2.1 i a.1
    omega
/-- the item of ns whose key in ks is the least, the first such one -/
def LeastAt (ks ns : List Int) (m : Int) : Prop := ∃ j, FirstLeast (fun i => ks.getD (ns.getD i 0).toNat 0) ns.length j ∧ m = ns.getD j 0
theorem _root_.LamX.ExtN.rd {H H' : Hp} (e : ExtN H H') {a : Addr} {u : HO} (n : ∀ ps, u ≠ .tbl ps) (h : Rd H a u) : Rd H' a u := by
  rcases h with h | ⟨o, h⟩
  · exact .inl (e _ _ h n)
  · exact .inr ⟨o, e _ _ h fun ps z => nomatch z⟩
theorem _root_.LamX.ExtN.sqL {K : PySem.W.Frag} {H H' : Hp} (e : ExtN H H') {a : Addr} {xs : List V} (h : SqL K H a xs) : SqL K H' a xs := h.elim (fun h => .inl (e.rd (fun ps z => nomatch z) h)) .inr
theorem _root_.LamX.ExtN.sqT {K : PySem.W.Frag} {H H' : Hp} (e : ExtN H H') {a : Addr} {xs : List V} (h : SqT K H a xs) : SqT K H' a xs := h.elim (fun h => .inl (e.rd (fun ps z => nomatch z) h)) .inr
section
variable {X : Cx}
def tMinLam (K : PySem.W.Frag) (T : List (Addr × Str)) (j : Nat) (te : TE) : TE := fun σ H Q => te σ H fun v H1 => ∃ (a l : Addr) (ns ks : List Int), v = .ref a ∧ SqT K H1 a (ns.map V.int) ∧ σ[j]? = some (some (.ref l)) ∧ SqL K H1 l (ks.map V.int) ∧ 0 < ns.length ∧ (∀ n ∈ ns, 0 ≤ n ∧ n < ks.length) ∧
  Tabs T H1 ∧ ∀ (m : Int) (H2 : Hp), ExtN H1 H2 → Tabs T H2 → LeastAt ks ns m → Q (.int m) H2
/-- min(e, key=lambda x: y[x]), y a name of the def that it shares with the lambda -/
theorem pe_minlam {T : List (Addr × Str)} {c P : Addr} {p p1 p2 p3 lpos kpos pos : Pos} {e : Expr} {te : TE} {x y : Str} {j : Nat} {params : Arguments} {scope : Scope}
    (hg : Gl X "min") (hm : X.mg "min" = none) (he : PE X e te) (hd : X.A.depth < recursionLimit) (hh : X.A.handled = none) (TB : TabB X.base X.mg c P) (hcode : X.env.code = .ref c) (hmT : (P, X.env.qual ++ "<lambda>") ∈ T)
    (hu : ∀ q ∈ T, q.1 = P → q.2 = X.env.qual ++ "<lambda>") (S : LSc scope x y) (hfy : X.env.scope.names.lookup y = some .cell) (hfr : ∀ z ∈ scope.names, z.2 = .free → z.1 = y) (hN : X.N[j]? = some y) (hdef : defaultsOf params X.env = ([], []))
    (hbind : ∀ (q : Str) (cl : List (Str × Addr)) (pm cv ctv v : Value), bindArgs (PySem.W.kla_fn "<lambda>" q params (.Subscript (.Name y p1) (.Name x p2) p3) scope cl pm cv ctv) ⟨[v], []⟩ = pure [(x, v)])
    (hs : starEach [e] X.env = (false, eval e X.env) :: starEach [] X.env := by rfl)
    (hdx : (x == ("__debug__" : Str)) = false := by decide) (hdy : (y == ("__debug__" : Str)) = false := by decide) (hcy : (y == ("__classdict__" : Str)) = false := by decide) :
    PE X (.Call (.Name "min" p) [e] [⟨some "key", .Lambda params (.Subscript (.Name y p1) (.Name x p2) p3) scope lpos, kpos⟩] pos) (tMinLam X.K T j te) := by
  refine ⟨fun pins s σ H Q I h => ?_⟩
  have hfree : ∀ z ∈ scope.names, z.2 = .free → ∃ c, X.env.cells.lookup z.1 = some c := fun z hz e => I.ok.has _ (.inl (by rw [hfr z hz e]; exact hfy))
  refine wpAny_Call_Name_kw (ld_blt I hg hm (u := .builtin "min") (by decide +kernel) ?_)
  refine PyProof.Rows.callWith_kw ?_ (by rw [hs]; rfl) (by rw [hs]; rfl) (by rfl) (by rfl)
  rw [hs]
  show wpAny _ _ (spliced ((false, eval e X.env) :: backTo pos (starEach [] X.env))) _ _ s
  refine Calls.spliced_cons (thn (he.run pins s σ H _ I h) fun u s1 ⟨v, H1, I1, r1, a, l, ns, ks, ev, ht, hσ, hl, hne, hin, hT, q⟩ => Calls.spliced_nil ?_)
  subst ev
  obtain rfl : u = Value.ref a := r1
  show wpAny _ _ (evalAll ((do let v ← eval (.Lambda params (.Subscript (.Name y p1) (.Name x p2) p3) scope lpos) X.env; standAt pos; pure v) :: [])) _ _ s1
  refine wpAny_evalAll_cons (wpAny_bind (lam_make2 I1 TB hcode hmT hu hT hdef hfree fun f c' pm ctv H2 s2 I2 eN T2 hf hfn hff hco => wpAny_bind (wpAny_standAt (wpAny_pure (wpAny_evalAll_nil ?_)))))
  show wpAny _ _ (call (.builtin "min") [.ref a] [(Str.ofString "key", .ref f)]) _ _ s2
  obtain ⟨cs, rc, tc, _⟩ := I2.tuple (eN.sqT ht)
  obtain ⟨us, ru, pl, hz2⟩ := I2.list (eN.sqL hl)
  obtain ⟨m, _, look⟩ := I2.loc
  obtain ⟨u0, r0, lk⟩ := look j y _ hN hσ (.inr (.inl hfy))
  obtain rfl : u0 = Value.ref l := r0
  have cellAt : ∃ ck, X.env.cells.lookup y = some ck ∧ s2.heap.IsCell ck (some (.ref l)) := by
    rcases lk with ⟨k, _⟩ | ⟨_, ck, e1, e2⟩
    · rw [show X.env.kindOf y = some .cell from hfy] at k
      cases k
    · exact ⟨ck, e1, e2⟩
  obtain ⟨ck, eck, hcell⟩ := cellAt
  obtain ⟨⟨oc, vs, tk, o1, o2, o3⟩, _, _⟩ := I2.hok c' _ hco
  have lc : cs.length = ns.length := by rw [← rc.length, List.length_map]
  have lu : us.length = ks.length := by rw [← ru.length, List.length_map]
  have nsAt : ∀ i, i < ns.length → ∃ t, cs[i]? = some (.int (ns.getD i 0) t) := fun i hi => by
    obtain ⟨z, ez, rz⟩ := rc.get (i := i) (x := V.int (ns.getD i 0)) (by rw [List.getElem?_map, List.getD_eq_getElem?_getD, List.getElem?_eq_getElem hi]; rfl)
    obtain ⟨t, rfl⟩ := rz
    exact ⟨t, ez⟩
  refine min_lam (ns := fun i => ns.getD i 0) (kf := fun i => ks.getD (ns.getD i 0).toNat 0) hh S hd ⟨hf, ⟨oc, vs, tk, o1, o2, o3⟩, I2.nolimit, NdefX.clo_has hfree (PySem.mem_of_lookup S.fy) eck, hcell, pl.isList⟩ (fun v => hbind _ _ _ _ _ v) hdx hdy hcy tc (fun i hi => nsAt i (by omega)) (by omega)
    (fun i hi => ?_) fun v h' tk2 hv kp => ?_
  · have hi' : i < ns.length := by omega
    have hmem : ns.getD i 0 ∈ ns := by rw [List.getD_eq_getElem?_getD, List.getElem?_eq_getElem hi']; exact List.getElem_mem hi'
    obtain ⟨b0, b1⟩ := hin _ hmem
    have hs63 := line63
    rw [List.length_map] at hz2
    have hk' : (ns.getD i 0).toNat < ks.length := by omega
    obtain ⟨z, ez, rz⟩ := ru.get (i := (ns.getD i 0).toNat) (x := V.int (ks.getD (ns.getD i 0).toNat 0)) (by rw [List.getElem?_map, List.getD_eq_getElem?_getD (l := ks), List.getElem?_eq_getElem hk']; rfl)
    obtain ⟨t, rfl⟩ := rz
    exact ⟨b0, by omega, t, ez⟩
  · obtain ⟨n, en⟩ : ∃ n, ns.length = n + 1 := ⟨ns.length - 1, by omega⟩
    have fl := best_is (fun i => ks.getD (ns.getD i 0).toNat 0) n
    rw [← en] at fl
    rw [lc, show ns.length - 1 = n by omega] at hv
    obtain ⟨t, et⟩ := nsAt _ fl.1
    rw [et] at hv
    cases hv
    exact ⟨.int _, H2, I2.kept kp, ⟨t, rfl⟩, q _ H2 eN T2 ⟨_, fl, rfl⟩⟩
end
end Cl

set_option Elab.async false
set_option linter.all false
set_option maxRecDepth 100000
set_option maxHeartbeats 2000000
/-! own rule: list(o), o an instance with an __iter__ over its tuple and a __len__ -/
namespace Tw
open PySem PySem.Spec PyProof.Rows L2
def rListO (K : PySem.W.Frag) (C : Addr) (fld : Str) (sp : Sp) (E : XK) : List V → Hp → VK → Prop := fun xs H Q => ∃ (a dx : Addr) (fs : List (Str × V)) (t : Addr) (zs : List V), xs = [.ref a] ∧ H a = some (.ins C dx fs) ∧ fs.lookup fld = some (.ref t) ∧ SqT K H t zs ∧ zs.length ≤ 900 ∧
  sp [.ref a] H (fun v H' => ∃ n : Nat, v = .int n ∧ n < 1000 ∧ H' = H) E ∧ ∀ q, H q = none → Q (.ref q) (upd H q (.lst zs))
theorem ty_ne {a b : String} (h : Value.type a = Value.type b) (n : decide (a = b) = false) : False := by
  injection h with h
  exact of_decide_eq_false n h
theorem if_yes {α : Type} {M : Model} {A : Around} {E : Value → Shared → Prop} {s : Shared} {c : Bool} {a b : Sem α} {Q : α → Shared → Prop} (hc : c = true) (h : wpAny M A a Q E s) : wpAny M A (if c = true then a else b) Q E s := by
  rw [hc, if_pos rfl]
  exact h
section
variable {X : Cx} {k : Nat} {f : Addr} {fd : FuncData} {ps : List Str} {sp : Sp} {A1 : Around} {pins : List (Addr × Obj)} {σ : L2.St} {H : Hp} {s : Shared} {Q : VK}
/-- a def that raises nothing, called within a built-in -/
theorem run_sub0 {us : List Value} {vs : List V} {R : Value → Shared → Prop} (F : FnOk X.prog X.w X.K X.mg X.base CX0 k f fd ps sp) (sb : Sub X k A1) (hb : L2.Binds X.K fd ps []) (I : Inv X pins σ H s) (r : Vals vs us) (h : sp vs H Q E0) :
    wpAny (model X.prog X.w) A1 (call (.ref f) us) (EP X pins σ Q) R s := by
  have hl : us.length = ps.length := by rw [← r.length]; exact F.len _ _ _ _ h
  have hb1 : BindsTo s fd ⟨us, []⟩ (ps.zip us) := by
    have z := hb s us I.kIn (by rw [List.append_nil]; exact hl)
    rw [List.append_nil] at z
    exact z
  refine wpAny_call (codeAny_mono (F.run A1 X.stack s H ⟨us, []⟩ us vs Q E0 sb.room (Sub.env0 sb I) hb1 r h) fun z s' hq => ?_)
  match z, hq with
  | .error e, hq => exact False.elim hq
  | .ok (.ret u), hq => exact I.after hq
  | .ok .next, hq => exact False.elim hq
  | .ok .brk, hq => exact False.elim hq
  | .ok .cont, hq => exact False.elim hq
end
section
variable {X : Cx} {kI k : Nat} {fi fl C : Addr} {fdI fdL : FuncData} {psL : List Str} {spL : Sp} {fld : Str}
theorem call_listO (hdI : Dn X.K C "__iter__" fi) (FI : FnIt X.prog X.w X.K X.mg X.base k fi fdI ["self"] (spIter X.K C fld)) (bI : L2.Binds X.K fdI ["self"] [])
    (hdL : Dn X.K C "__len__" fl) (FL : FnOk X.prog X.w X.K X.mg X.base CX0 k fl fdL psL spL) (bL : L2.Binds X.K fdL psL []) (hr : Room (k + 3) X.A) : CallR X (.type "list") (rListO X.K C fld spL E0) := by
  intro pins s σ H xs us Q I rv h
  obtain ⟨a, dx, fs, t, zs, rfl, ha, hf, ht, hz, hlen, q⟩ := h
  obtain ⟨u, rfl, ru⟩ := rv.one
  cases ru
  have sb1 : Sub X (k + 1) X.A.in1.in1 := Sub.in1 (Sub.in1 (⟨hr, rfl⟩ : Sub X (k + 3) X.A))
  have sb : Sub X k X.A.in1.in1 := sb1.mono (Nat.le_succ k)
  refine callType_codes (Q₁ := fun obj s₁ => obj = .ref s.heap.objs.size ∧ s₁ = { s with heap := s.heap.push { cls := .type "list", data := .seq #[] } }) PySem.F.called_list (PySem.F.typeCall_list_1 _) PySem.F.entry_list_init
    (code_list_new _ ⟨rfl, rfl⟩) fun obj s₁ h₁ => ?_
  obtain ⟨rfl, rfl⟩ := h₁
  have hS : (s.heap.push { cls := .type "list", data := .seq #[] }).get? s.heap.objs.size = some { cls := .type "list", data := .seq #[] } := Heap.get?_push_size _ rfl
  refine ⟨⟨_, hS, rfl⟩, PySem.F.args_list_init_2 _ _, ?_⟩
  have nS : H s.heap.objs.size = none := I.hok.fresh (Nat.le_refl _)
  have fS : FpOk X pins H s.heap.objs.size := I.fpOk (Nat.le_refl _) nS
  have I1 : Inv X pins σ H { s with heap := s.heap.push { cls := .type "list", data := .seq #[] } } := I.kept (t' := s.toks) fun b u e => Heap.get?_push_of_some _ e
  show wpAny _ _ (do let old ← Builtin.List.listItems (.ref s.heap.objs.size); Builtin.List.listUpdate (.ref s.heap.objs.size) (fun _ => #[]); letGo old.toList.reverse; Builtin.List.listExtendWith (.ref s.heap.objs.size) (.ref a) .none) _ _ _
  refine wpAny_bind ?_
  unfold Builtin.List.listItems
  refine wpAny_bind (wpAny_seqItems hS rfl (wpAny_pure ?_))
  show wpAny _ _ (updateSeq s.heap.objs.size (fun _ => #[]) >>= fun _ => letGo (#[] : Array Value).toList.reverse >>= fun _ => Builtin.List.listExtendWith (.ref s.heap.objs.size) (.ref a) .none) _ _ _
  refine wpAny_bind (wpAny_updateSeq hS rfl ?_)
  have hS2 := Heap.get?_update_self (h := s.heap.push { cls := .type "list", data := .seq #[] }) (f := Obj.mapSeq fun _ => #[]) hS rfl
  have I2 := I1.turnedL (h' := (s.heap.push { cls := .type "list", data := .seq #[] }).update s.heap.objs.size (Obj.mapSeq fun _ => #[])) (t' := s.toks) (ch := [s.heap.objs.size]) (fun b o hb e => (Heap.get?_update_other _ _ (fun z => hb (by simp [z]))).trans e) (fun b hb => by rw [List.mem_singleton.mp hb]; exact fS)
  refine wpAny_bind (wpAny_letGo ?_)
  generalize hSa : s.heap.objs.size = S at *
  generalize hh2 : (s.heap.push { cls := .type "list", data := .seq #[] }).update S (Obj.mapSeq fun _ => #[]) = h2 at *
  have szS : S < h2.objs.size := Heap.lt_size hS2
  obtain ⟨mA, O, rr, _, _, _⟩ := ins_get I2.hok ha
  obtain ⟨od, J, hl⟩ := O.look
  obtain ⟨m0, hF⟩ := I2.fr
  have hne : S ≠ a := fun z => by rw [← z] at ha; rw [nS] at ha; cases ha
  have h1 : Builtin.List.listSameRef (.ref S) (.ref a) = false := by simp [Builtin.List.listSameRef, hne]
  unfold Builtin.List.listExtendWith
  refine wpAny_bind (J.type.here ?_)
  have n2 : (Value.ref C == Value.type "list") = false := rfl
  have n3 : (Value.ref C == Value.type "tuple") = false := rfl
  simp only [h1, n2, n3, Bool.or_false, Bool.false_eq_true, if_false]
  have I2p := I2.pinned (fp := [S]) (fun b hb => by rw [List.mem_singleton.mp hb]; exact fS) (fun b hb => by rw [List.mem_singleton.mp hb]; exact ⟨_, hS2, fun v z => nomatch z⟩)
  refine wpAny_bind (PySem.W.owit_iter hF I2.ok.mod.kin J hdI.at_ hdI.fn (thn (run_iter FI sb bI I2p ha hf ht) fun r s3 ⟨it, er, hn, h0, I3⟩ => ?_))
  subst er
  have e2 : upd H it (ItT t it 0) it = some (ItT t it 0) := upd_same
  have g : s3.heap.get? it = some (itTup t 0) := (I3.hok it _ e2).1
  have hS3 := (I3.pin (S, _) (List.mem_append_right _ (List.mem_append_right _ (mem_pinsAt (List.mem_singleton.mpr rfl) hS2)))).1
  have hTy : s3.TypeIs (.ref it) "tuple_iterator" := ⟨_, g, rfl⟩
  have fIt := ItX.inv_fp I3 e2 (Nat.le_trans I2.sz hn)
  have I4 := ItX.inv_drop I3 e2
  rw [ItX.dropH_upd h0] at I4 fIt
  unfold PySem.W.OwitIt
  refine wpAny_specialOf (name := Str.ofString "__next__") hTy PySem.F.slot_tuple_iterator_next.lookup ?_
  have I5 := I4.pinned (fp := [it]) (fun b hb => by rw [List.mem_singleton.mp hb]; exact fIt) (fun b hb => by rw [List.mem_singleton.mp hb]; exact ⟨_, g, fun v z => nomatch z⟩)
  show wpAny _ X.A.in1.in1 (holding [.ref it] (Builtin.List.listLengthHint (.ref a)) >>= _) _ _ s3
  obtain ⟨mA5, O5, rr5, _, _, _⟩ := ins_get I5.hok ha
  obtain ⟨od5, J5, hl5⟩ := O5.look
  obtain ⟨m5, hF5⟩ := I5.fr
  refine wpAny_bind (wpAny_holding ?_)
  have lenOk : ∀ {R : Value → Shared → Prop}, wpAny (model X.prog X.w) X.A.in1.in1 (call (.builtin "len") [.ref a]) (fun r s' => ∃ (n : Nat) (tk : Tok), r = .int n tk ∧ n < 1000 ∧ Inv X (pins ++ pinsAt [S] h2 ++ pinsAt [it] s3.heap) σ H s') R s3 := by
    intro R
    refine PySem.W.len_K hF5 I5.ok.mod.kin J5 hdL.at_ hdL.fn (thn (run_sub0 FL (Sub.in1 (Sub.mono sb1 (Nat.le_refl _))) bL I5 (.cons (relR a) .nil) hlen) fun r s' ⟨z, H', I', rz, n, ez, hn, eH⟩ => ?_)
    subst ez
    rw [eH] at I'
    obtain ⟨tk, rfl⟩ := rz
    exact ⟨⟨by omega, by omega⟩, n, _, rfl, hn, I'.tok _⟩
  unfold Builtin.List.listLengthHint
  refine wpAny_bind (wpAny_bind (J5.type.here ((PySem.W.looks_findIn I5.kIn hdL.at_).here ?_)))
  refine PySem.W.KFB.if_not rfl ?_
  refine if_yes rfl ?_
  refine wpAny_bind (wpAny_rule ?_)
  refine wpAny_bind (wpAny_attempt (thn lenOk fun r s6 ⟨n, tk, er, hn6, I6⟩ => ?_))
  subst er
  refine wpAny_bind (wpAny_of_eq (a := some ((n : Nat) : Int)) (by rfl) ?_)
  refine PySem.W.KFB.if_not (by unfold Builtin.List.listTooLong; exact decide_eq_false (by rw [sizeLine_eq, Int.toNat_natCast]; omega)) ?_
  refine wpAny_pure ?_
  -- the loop
  have I7 : Inv X pins σ H s6 := I6.unpinned.unpinned
  have hS6 := (I6.pin (S, _) (List.mem_append_right _ (List.mem_append_left _ (List.mem_append_right _ (mem_pinsAt (List.mem_singleton.mpr rfl) hS2))))).1
  have g6 := (I6.pin (it, _) (List.mem_append_right _ (List.mem_append_right _ (mem_pinsAt (List.mem_singleton.mpr rfl) g)))).1
  have fIt2 : FpOk X pins H it := ⟨fIt.1, fIt.2.1, fIt.2.2.1, fIt.2.2.2.1, fIt.2.2.2.2.1, fun p hp => fIt.2.2.2.2.2 p ((List.mem_append.mp hp).elim (fun z => List.mem_append_left _ z) fun z => List.mem_append_right _ (List.mem_append_left _ z))⟩
  have Sne' : S ≠ it := fun z => by
    rw [z, g6] at hS6
    exact ty_ne (show Value.type "tuple_iterator" = Value.type "list" from congrArg Obj.cls (Option.some.inj hS6)) (by decide +kernel)
  have loop : ∀ (s7 : Shared) (c : Nat), Inv X pins σ H s7 → s7.heap.get? S = some { cls := .type "list", data := .seq #[] c } → s7.heap.get? it = some (itTup t 0) →
      codeAny (model X.prog X.w) X.A.in1 (.builtin "list.extend.loop" ⟨[.ref S, .ref it, .none], []⟩) (wants (fun r s₂ => r = .none ∧ EP X pins σ Q (.ref S) s₂) X.xe) s7 := by
    intro s7 c J7 hS7 g7
    obtain ⟨its, rz, pl, hz2⟩ := J7.tuple ht
    have tne : t ≠ it := fun z => by
      obtain ⟨o, e1, e2, _⟩ := pl
      rw [z, g7] at e1
      rw [← Option.some.inj e1] at e2
      exact ty_ne (show Value.type "tuple_iterator" = Value.type "tuple" from e2) (by decide +kernel)
    have Sne : S ≠ it := fun z => by
      rw [z, g7] at hS7
      exact ty_ne (show Value.type "tuple_iterator" = Value.type "list" from congrArg Obj.cls (Option.some.inj hS7)) (by decide +kernel)
    have St : S ≠ t := fun z => by
      obtain ⟨o, e1, e2, _⟩ := pl
      rw [← z, hS7] at e1
      rw [← Option.some.inj e1] at e2
      exact ty_ne (show Value.type "list" = Value.type "tuple" from e2) (by decide +kernel)
    have li : its.length = zs.length := rz.length.symm
    have W := (PySem.Walks.tuple (prog := X.prog) (w := X.w) (A := X.A.in1.in1) sb1.room.hd it t tne its.toArray).toS
    refine PySem.codeAny_extend_loopS (A := X.A.in1) W (by rw [List.size_toArray, sizeLine_eq]; omega) S (fun z => ?_) .none _ 0 s7 #[] c rfl (Nat.zero_le _) ⟨⟨_, g7, rfl, rfl⟩, pl⟩ hS7 (PySem.ItemsOf.nil _) fun s8 acc c8 m hS8 hit => ?_
    · rcases List.mem_cons.mp z with z | z
      · exact Sne z
      · exact St (List.mem_singleton.mp z)
    have eacc : acc = its.toArray := by
      refine Array.ext_getElem? fun j => ?_
      by_cases hj : j < acc.size
      · rw [Array.getElem?_eq_getElem hj]
        exact (hit.2 j _ (Array.getElem?_eq_getElem hj)).symm
      · rw [Array.getElem?_eq_none (by omega), Array.getElem?_eq_none (by rw [← hit.1]; omega)]
    subst eacc
    have J8 := J7.turnedL (h' := s8.heap) (t' := s8.toks) (ch := [S, it]) (fun b o hb e => m.heap b o hb e) (fun b hb => by
      rcases List.mem_cons.mp hb with z | z
      · rw [z]; exact fS
      · rw [List.mem_singleton.mp z]; exact fIt2)
    have J9 := J8.take (h' := s8.heap) (t' := s8.toks) (it := S) (o := .lst zs) (fun _ _ _ e => e) fS ⟨by rw [sizeLine_eq]; omega, its, c8, rz, hS8⟩
    have e8 : s8 = { s7 with heap := s8.heap, toks := s8.toks } := Moved.eq_with m
    rw [e8]
    exact ⟨rfl, .ref S, _, J9, rfl, q S nS⟩
  refine wpAny_ite_split (fun _ => ?_) (fun _ => wpAny_pure ⟨plainId_quiet PySem.F.plain_extend_loop _, loop s6 _ I7 hS6 g6⟩)
  refine wpAny_bind (wpAny_rule ?_)
  refine wpAny_bind ?_
  show wpAny _ _ (updateSeq S (·.push .none) >>= fun _ => updateSeq S (·.pop)) _ _ _
  refine wpAny_bind (wpAny_updateSeq hS6 rfl ?_)
  have e9 := Heap.get?_update_self (h := s6.heap) (f := Obj.mapSeq (·.push Value.none)) hS6 rfl
  refine wpAny_updateSeq e9 rfl ?_ (by show 1 ≤ sizeLine; rw [sizeLine_eq]; decide) (by show 0 ≤ sizeLine + 1; exact Nat.zero_le _)
  have e10 := Heap.get?_update_self (h := s6.heap.update S (Obj.mapSeq (·.push Value.none))) (f := Obj.mapSeq (·.pop)) e9 rfl
  have J := I7.turnedL (h' := (s6.heap.update S (Obj.mapSeq (·.push Value.none))).update S (Obj.mapSeq (·.pop))) (t' := s6.toks) (ch := [S]) (fun b o hb e => (Heap.get?_update_other _ _ (fun z => hb (by simp [z]))).trans ((Heap.get?_update_other _ _ (fun z => hb (by simp [z]))).trans e)) (fun b hb => by rw [List.mem_singleton.mp hb]; exact fS)
  refine wpAny_pure ⟨plainId_quiet PySem.F.plain_extend_loop _, loop _ _ J e10 ?_⟩
  exact (Heap.get?_update_other _ _ Sne').trans ((Heap.get?_update_other _ _ Sne').trans g6)
end
end Tw

set_option Elab.async false
set_option linter.all false
set_option maxRecDepth 100000
set_option maxHeartbeats 2000000
/-! own rule: sorted(t), t a tuple of whole numbers -/
namespace Tw
open PySem PySem.Spec PyProof.Rows L2
section
variable {prog : Program} {w : World} {A : Around} {E : Value → Shared → Prop} {s : Shared}
/-- a tuple's items, gathered: they are met as a list's are -/
theorem gather_tup {t : Addr} {vs : List Value} {Q : List Value → Shared → Prop} (ht : s.heap.IsTuple t vs.toArray)
    (h : Q vs { s with heap := (s.heap.push (seqObj "list" #[] 0)).update s.heap.objs.size (Obj.mapSeq (· ++ vs.toArray)) }) (hz : vs.length ≤ sizeLine) :
    wpAny (model prog w) A (collect (.ref t)) Q E s := by
  obtain ⟨o, ho, hc, n, hd⟩ := ht
  unfold collect
  refine wpAny_bind (wpAny_runValue (codeAny_builtin entry_proto_collect' ?_))
  show wpAny _ _ (do again (.builtin "list.__iadd__" ⟨[← newList [], .ref t], []⟩)) _ _ s
  refine wpAny_bind (wpAny_newList (wpAny_pure ⟨Code.quiet_builtin _ (by decide +kernel), codeAny_builtin entry_list_iadd' ?_⟩))
  show wpAny _ _ (Builtin.List.listExtendWith (.ref s.heap.objs.size) (.ref t) (.ref s.heap.objs.size)) _ _ { s with heap := s.heap.push (seqObj "list" #[] 0) }
  have ho2 : (s.heap.push (seqObj "list" #[] 0)).get? t = some o := Heap.get?_push_of_some _ ho
  unfold Builtin.List.listExtendWith
  refine wpAny_bind (wpAny_typeOf (T := "tuple") ⟨o, ho2, hc⟩ ?_)
  have tt : (Value.type "tuple" == Value.type "tuple") = true := by rfl
  rw [if_pos (by rw [tt]; simp)]
  refine wpAny_bind (listItems_at ho2 hd ?_)
  refine wpAny_bind (listItems_at (xs := #[]) (n := 0) (Heap.get?_push_size _ rfl) rfl ?_)
  rw [if_neg (by simp)]
  refine wpAny_bind (listUpdate_at (xs := #[]) (n := 0) (Heap.get?_push_size _ rfl) rfl ?_ (Nat.zero_le _) (by show (#[] ++ vs.toArray).size ≤ sizeLine + 1; simp only [Array.size_append, List.size_toArray, List.length_nil]; omega))
  refine wpAny_pure ?_
  refine wpAny_bind (wpAny_load (get?_update_seq (Heap.get?_push_size _ rfl) _) ?_)
  show wpAny _ _ (pure ((#[] : Array Value) ++ vs.toArray).toList) Q E _
  rw [show ((#[] : Array Value) ++ vs.toArray).toList = vs by simp]
  exact wpAny_pure h
end
def rSortedTu (K : PySem.W.Frag) : List V → Hp → VK → Prop := fun vs H Q => ∃ (a : Addr) (ns : List Int), vs = [V.ref a] ∧ SqT K H a (ns.map V.int) ∧
  ∀ (ns' : List Int) (p : Addr), ns'.Perm ns → ns'.Pairwise (· ≤ ·) → H p = none → Q (.ref p) (upd H p (.lst (ns'.map V.int)))
section
variable {X : Cx}
theorem cr_sortedTu : CallR X (.builtin "sorted") (rSortedTu X.K) := by
  intro pins s σ H vs us Q I r h
  obtain ⟨a, ns, rfl, hs, q⟩ := h
  obtain ⟨its, rv, hl, hz⟩ := I.tuple hs
  rw [Vals.ref1 r]
  have hi := rv.ints
  have hzi : its.length ≤ sizeLine := by rw [← rv.length]; exact hz
  refine Calls.call_function_entry kind_sorted plain_sorted entry_sorted (args_sorted1 _) ?_
  unfold Builtin.«sorted»
  refine wpAny_bind (m := checkCount "sorted" 1 1 _) (wpAny_pure ?_)
  refine wpAny_bind (gather_tup hl ?_ hzi)
  refine wpAny_bind (wpAny_newList ?_ hzi)
  have hsz : ((s.heap.push (seqObj "list" #[] 0)).update s.heap.objs.size (Obj.mapSeq (· ++ its.toArray))).objs.size = s.heap.objs.size + 1 := by
    rw [Heap.size_update, size_push']
  have hoL : (((s.heap.push (seqObj "list" #[] 0)).update s.heap.objs.size (Obj.mapSeq (· ++ its.toArray))).push (seqObj "list" its.toArray 0)).get? (s.heap.objs.size + 1) = some (seqObj "list" its.toArray 0) := by
    rw [← hsz]
    exact Heap.get?_push_size _ rfl
  show wpAny _ _ _ _ _ { s with heap := ((s.heap.push (seqObj "list" #[] 0)).update s.heap.objs.size (Obj.mapSeq (· ++ its.toArray))).push (seqObj "list" its.toArray 0) }
  rw [hsz]
  refine wpAny_bind (wpAny_holding (wpAny_call_entry slot_list_sort ⟨_, hoL, rfl⟩ entry_list_sort (SrtO.list_sort_ord SrtO.swo_int hoL hzi (fun h2 => SrtO.ints_sortable hi h2) fun out h1 h2 => ⟨_, rfl, ?_⟩) (args_list_sort _)))
  refine wpAny_pure ⟨_, rfl, ?_⟩
  obtain ⟨k1, k2, k3⟩ := SrtO.ints_out hi h1 h2
  obtain ⟨ep, he'⟩ := PyProof.Rows.sortedAll_at s.heap its out.toArray
  have hlen : ((out.map SrtO.iv).map V.int).length ≤ sizeLine := by
    rw [List.length_map, k2.length_eq]
    rw [List.length_map] at hz
    exact hz
  exact ⟨.ref _, upd H (s.heap.objs.size + 1) (.lst ((out.map SrtO.iv).map V.int)), I.laid (t' := s.toks) (fun _ _ => PyProof.Rows.sortedAll_old) (Nat.le_succ _) ⟨hlen, out, ep, vals_of_ints k1, he'⟩, rfl, q _ _ k2 k3 (I.hok.fresh (Nat.le_succ _))⟩
end
end Tw

set_option Elab.async false
set_option linter.all false
set_option maxRecDepth 100000
set_option maxHeartbeats 1000000
/-! != of two tuples of two things, equal ones in turn -/
namespace Cq
open PySem PySem.SeqAt
open AutoSeq1 (wpAny_loadPart')
open MeetsSeq MeetsSeq2 MeetsSeq3 SeqRoads2
theorem pairs_ne {prog : Program} {w : World} {A : Around} {R : Result → Shared → Prop} {p q : Addr} {a b c e : Value} {k k2 : Nat} {u u2 : Option Addr} {z z2 : Array (Option Value)} {s : Shared}
    (hp : s.heap.get? p = some { cls := .type "tuple", dict := u, data := .seq #[a, b] k, slots := z }) (hq : s.heap.get? q = some { cls := .type "tuple", dict := u2, data := .seq #[c, e] k2, slots := z2 })
    (h : wpAny (model prog w) A.in1 (eqBool a c) (fun r s1 => r = true ∧ wpAny (model prog w) A.in1 (eqBool b e) (fun r s2 => r = true ∧ R (.ok (.ret (.bool false))) s2) (fun x s2 => R (.error x) s2) s1) (fun x s1 => R (.error x) s1) s) :
    wpAny (model prog w) A.in1 (Builtin.«tuple.__ne__» ⟨[.ref p, .ref q], []⟩) (GQ.FinOf prog w A R) (fun x s1 => R (.error x) s1) s := by
  have sub2 := AutoSeq1.sub_tuple_tuple
  obtain ⟨hh, gg, dd, tk, os⟩ := s
  wp_walk using wpAny_loadPart' hp, wpAny_loadPart' hq, wpAny_forIn_list _ (fun rest t s1 => t.1 = none ∧ ((rest = [(a, c), (b, e)] ∧ wpAny (model prog w) A.in1 (eqBool a c) (fun r s1 => r = true ∧ wpAny (model prog w) A.in1 (eqBool b e) (fun r s2 => r = true ∧ R (.ok (.ret (.bool false))) s2) (fun x s2 => R (.error x) s2) s1) (fun x s1 => R (.error x) s1) s1) ∨
    (rest = [(b, e)] ∧ wpAny (model prog w) A.in1 (eqBool b e) (fun r s2 => r = true ∧ R (.ok (.ret (.bool false))) s2) (fun x s2 => R (.error x) s2) s1) ∨ (rest = [] ∧ R (.ok (.ret (.bool false))) s1))) _
  case turn =>
    rintro ⟨y, x⟩ rest t s1 ⟨ht, ⟨e1, h1⟩ | ⟨e1, h1⟩ | ⟨e1, _⟩⟩
    · injection e1 with e1 e2
      injection e1 with e3 e4
      subst e3 e4 e2
      refine wpAny_bind (wpAny_mono h1 (fun r s2 g => ?_) fun _ _ g => g)
      obtain ⟨rfl, g⟩ := g
      wp_walk
      exact ⟨rfl, .inr (.inl ⟨rfl, g⟩)⟩
    · injection e1 with e1 e2
      injection e1 with e3 e4
      subst e3 e4 e2
      refine wpAny_bind (wpAny_mono h1 (fun r s2 g => ?_) fun _ _ g => g)
      obtain ⟨rfl, g⟩ := g
      wp_walk
      exact ⟨rfl, .inr (.inr ⟨rfl, g⟩)⟩
    · cases e1
  case fin =>
    rintro ⟨t1, t2⟩ s1 ⟨ht, ⟨e1, _⟩ | ⟨e1, _⟩ | ⟨_, h1⟩⟩
    · cases e1
    · cases e1
    · simp only at ht
      subst ht
      wp_walk
      simpa [Builtin.Tuple.tupleCompareSizes] using h1
  case h => exact ⟨rfl, .inl ⟨rfl, h⟩⟩
end Cq
namespace L2
open PySem PySem.Spec PyProof.Rows
theorem vals_two {a b : V} {l : List Value} (r : Vals [a, b] l) : ∃ x y, l = [x, y] ∧ RelV a x ∧ RelV b y := by
  cases r with
  | cons ra r =>
    cases r with
    | cons rb r =>
      cases r
      exact ⟨_, _, rfl, ra, rb⟩
def DPair (K : PySem.W.Frag) (D1 D2 : Eqv) : Eqv := fun x y H => ∃ (p q : Addr) (a b c e : V), x = .ref p ∧ y = .ref q ∧ SqT K H p [a, b] ∧ SqT K H q [c, e] ∧ D1 a c H ∧ D2 b e H
def rNeP (D : Eqv) : R2 := fun x y H Q => D x y H ∧ ∀ H', Ext H H' → Q (.bl false) H'
theorem op_neP {X : Cx} {n : Nat} {D1 D2 : Eqv} (g1 : EqG X n D1) (g2 : EqG X n D2) (m2 : Mon D2) (hr : Room (n + 1) X.A) : OpR X (compareOp .NotEq) (rNeP (DPair X.K D1 D2)) := by
  intro pins s σ H x y v u Q I rx ry ⟨⟨p, q, a, b, c, e, ex, ey, hp, hq, d1, d2⟩, k⟩
  subst ex ey
  cases rx
  cases ry
  have sb : Sub X (n + 1) X.A := ⟨hr, rfl⟩
  obtain ⟨its, r, e1, _⟩ := I.tuple hp
  obtain ⟨its2, r2, e2, _⟩ := I.tuple hq
  obtain ⟨va, vb, ei, ra, rb⟩ := vals_two r
  obtain ⟨vc, ve, ei2, rc, re⟩ := vals_two r2
  subst ei ei2
  obtain ⟨⟨cl, u1, da, z1⟩, o1, c1, n1, w1⟩ := id e1
  obtain ⟨⟨cl2, u2, da2, z2⟩, o2, c2, n2, w2⟩ := id e2
  dsimp only at c1 w1 c2 w2
  subst c1 w1 c2 w2
  show wpAny (model X.prog X.w) X.A (richCompare .NotEq (.ref p) (.ref q)) (EP X pins σ Q) X.xe s
  refine wpAny_richCompare_same_room (op := .NotEq) ⟨_, o1, rfl⟩ ⟨_, o2, rfl⟩ F.slot_tuple_ne (GQ.call_here F.slot_tuple_ne ⟨_, o1, rfl⟩ F.entry_tuple_ne (F.args_tuple_ne_2 _ _) ?_) hr.units0
  refine Cq.pairs_ne (R := wants (fun v s' => v ≠ .notImplemented ∧ EP X pins σ Q v s') X.xe) o1 o2 ?_
  refine wpAny_mono (g1 X.A.in1 pins s σ H _ _ va vc sb.in1 I ra rc d1) (fun t s1 ⟨ht, H1, I1, x1⟩ => ⟨ht, ?_⟩) fun _ _ g => g
  refine wpAny_mono (g2 X.A.in1 pins s1 σ H1 _ _ vb ve sb.in1 I1 rb re (m2 _ _ _ _ x1 d2)) (fun t s2 ⟨ht, H2, I2, x2⟩ => ⟨ht, ?_⟩) fun _ _ g => g
  exact ⟨(fun g => nomatch g), .bl false, H2, I2, rfl, k H2 (x1.trans x2)⟩
end L2


set_option Elab.async false
set_option linter.all false
set_option maxRecDepth 100000
set_option maxHeartbeats 4000000
/-! set(xs), xs a list of ints, as a value -/
namespace L2
open PySem PySem.Spec PyProof.Rows
section
variable {P : Program} {w : World} {A : Around} {E : Value → Shared → Prop}
/-- the set that is there at first -/
abbrev eS (w : World) : Obj := { cls := .type "set", dict := none, data := .set #[] 0 (.fresh 0 0 (!w.params.followText "set-order")) }
theorem init_over {z : Shared} {D l : Addr} {items : Array Value} {ns : List Int} {R : Result → Shared → Prop} (hh : A.handled = none) (hD : z.heap.get? D = some (eS w)) (hl : z.heap.IsList l items) (hit : IntsAre items.toList ns) (hb : ns.length + 1 < scanBound) (hne : l ≠ D)
    (q : ∀ (h' : Heap) (tk c : Nat), SetR w h' D (fun j => decide (j ∈ ns)) c → c ≤ ns.length → (∀ b o, b ≠ D → z.heap.get? b = some o → h'.get? b = some o) → R (.ok (.ret .none)) { z with heap := h', toks := tk }) :
    codeAny (model P w) A (.call (.builtin "set.__init__") ⟨[.ref D, .ref l], []⟩) R z := by
  have hn : items.size = ns.length := by
    have e := IntsAre.length hit
    rw [Array.length_toList] at e
    exact e
  have hT : Shared.TypeIs z (.ref D) "set" := ⟨_, hD, rfl⟩
  have lD : D < z.heap.objs.size := Heap.lt_size hD
  obtain ⟨⟨oc, od, oa, os⟩, hol, hcl, nl, hdl⟩ := id hl
  have ll : l < z.heap.objs.size := Heap.lt_size hol
  dsimp only at hcl hdl
  subst hcl hdl
  have no1 := F.sub_list_set
  have no2 := F.sub_list_frozenset
  have no3 : (Value.type "list" == Value.type "dict") = false := by decide
  refine codeAny_call_builtin F.called_set.init.plain F.entry_set_init (check_set_init_1 hT ?_)
  unfold Builtin.«set.__init__» noKeywords Builtin.Frozenset.updateFrom
  generalize hPI : pyIter = PI
  wp_walk
  subst hPI
  refine wpAny_pyIter_list hl ?_
  refine wpAny_bind (wpAny_runValue ?_)
  have free3 : A.in1.in1.handled = none := by simp [hh]
  have apart : l ≠ z.heap.objs.size := Nat.ne_of_lt ll
  have offS : D ∉ [z.heap.objs.size, l] := fun m => by
    rcases List.mem_cons.mp m with y | y
    · exact absurd y (Nat.ne_of_lt lD)
    · exact hne (List.mem_singleton.mp y).symm
  have each : ∀ (i : Nat) (v : Value), items[i]? = some v → ∃ k t, ns[i]? = some k ∧ v = .int k t := fun i v e => by
    have hi : i < ns.length := hn ▸ (Array.getElem?_eq_some_iff.mp e).1
    obtain ⟨t, e2⟩ := IntsAre.int_at hit i v (by rw [Array.getElem?_toList]; exact e)
    exact ⟨ns[i], t, List.getElem?_eq_getElem hi, by rw [e2, List.getD_eq_getElem?_getD, List.getElem?_eq_getElem hi]; rfl⟩
  refine set_update_ints ((Walks.list free3 _ l apart items).toS) D offS ns hn hb each (items.size - 0) 0 _ (by omega) (Nat.zero_le _) ?_ ⟨0, Nat.le_refl 0, ?_⟩ ?_
  · exact ⟨⟨_, Heap.get?_push_size _ rfl, rfl, rfl⟩, hl.push _⟩
  · exact setR_new_at (Heap.get?_push_of_some _ hD)
  rintro ⟨h', gens', drawn', tk', os'⟩ c moved hc new
  obtain rfl : gens' = z.gens := moved.gens
  obtain rfl : drawn' = z.drawn := moved.drawn
  obtain rfl : os' = z.os := moved.os
  show wpAny _ _ _ _ _ _
  refine wpAny_pure ?_
  show wpAny _ _ (ret Value.none) _ _ _
  refine wpAny_pure (q h' tk' c new (by omega) fun b o hbD e => ?_)
  have lb : b < z.heap.objs.size := Heap.lt_size e
  refine moved.heap b o (fun m => ?_) (Heap.get?_push_of_some _ e)
  rcases List.mem_cons.mp m with y | y
  · exact hbD y
  · exact absurd (List.mem_singleton.mp y) (Nat.ne_of_lt lb)
theorem set_over {z : Shared} {l : Addr} {items : Array Value} {ns : List Int} {Q : Value → Shared → Prop} (hh : A.handled = none) (hl : z.heap.IsList l items) (hit : IntsAre items.toList ns) (hb : ns.length + 1 < scanBound)
    (q : ∀ (h' : Heap) (tk c : Nat), SetR w h' z.heap.objs.size (fun j => decide (j ∈ ns)) c → c ≤ ns.length → (∀ b o, z.heap.get? b = some o → h'.get? b = some o) → Q (.ref z.heap.objs.size) { z with heap := h', toks := tk }) :
    wpAny (model P w) A (call (.type "set") [.ref l]) Q E z := by
  obtain ⟨c0, t0, mro0⟩ := F.called_set.mro
  have m1 := F.called_set.made
  have m2 := F.called_set.sub
  have m3 := F.called_set.notType
  have m4 := F.called_set.canCreate
  have m5 := F.typeCall_set_1 (.ref l)
  have ll : l < z.heap.objs.size := by
    obtain ⟨o, ho, _⟩ := id hl
    exact Heap.lt_size ho
  refine wpAny_call (codeAny_of_tree ?_)
  show wpAny _ _ (callAny (.type "set") _) _ _ _
  refine wpAny_pure ⟨Code.quiet_builtin _ (by decide +kernel), codeAny_builtin F.entry_type_call ?_⟩
  rw [Around.under_plain (weight_type_call_type "set" [.ref l] []) rfl]
  repeat any_goals first | assumption | wp_step
  have new1 : (z.heap.push (eS w)).get? z.heap.objs.size = some (eS w) := Heap.get?_push_size _ rfl
  refine codeAny_mono (code_set_led1 (.ref l) (E := E) (Q₁ := fun v y => v = .ref z.heap.objs.size ∧ y = { z with heap := z.heap.push (eS w) }) ⟨rfl, rfl⟩) fun r y hr => ?_
  cases r with
  | error e => exact hr
  | ok fl =>
    cases fl with
    | ret v =>
      obtain ⟨rfl, rfl⟩ := hr
      have hT : Shared.TypeIs { z with heap := z.heap.push (eS w) } (.ref z.heap.objs.size) "set" := ⟨_, new1, rfl⟩
      have i1 := F.called_set.init.lookup
      have i2 := F.called_set.init.bind (.ref z.heap.objs.size)
      repeat any_goals first | assumption | wp_step
      refine init_over (A := A.in1) (z := { z with heap := z.heap.push (eS w) }) (D := z.heap.objs.size) (by simp [hh]) new1 (hl.push _) hit hb (Nat.ne_of_lt ll) fun h' tk c S hc k => ?_
      show wpAny _ _ (pure (some Value.none)) _ _ _
      repeat any_goals first | assumption | wp_step
      exact q h' tk c S hc fun b o e => k b o (Nat.ne_of_lt (Heap.lt_size e)) (Heap.get?_push_of_some _ e)
    | _ => exact hr.elim
end
section
variable {X : Cx}
/-- set(xs) -/
def rSetLI (K : PySem.W.Frag) (w : World) : List V → Hp → VK → Prop := fun xs H Q => ∃ (l : Addr) (ns : List Int), xs = [V.ref l] ∧ SqL K H l (ns.map V.int) ∧ ns.length ≤ 1000 ∧ ∀ p n, n ≤ ns.length → H p = none → Q (.ref p) (upd H p (SetO w p (fun j => decide (j ∈ ns)) n))
theorem cr_setLI (hc : X.calm = true) : CallR X (.type "set") (rSetLI X.K X.w) := by
  intro pins s σ H xs us Q I r h
  obtain ⟨l, ns, rfl, hl, h1, q⟩ := h
  obtain ⟨its, rv, pl, _⟩ := I.list hl
  rw [Vals.ref1 r]
  refine set_over (I.ok.hd hc) pl.isList (ns := ns) (by simpa using rv.ints) (by unfold scanBound; omega) fun h' tk c R hc k => ?_
  exact ⟨.ref _, upd H s.heap.objs.size (SetO X.w s.heap.objs.size (fun j => decide (j ∈ ns)) c), I.laid (t' := tk) k (Nat.le_refl _) (setO_new R), rfl, q _ c hc (I.hok.fresh (Nat.le_refl _))⟩
end
end L2

set_option Elab.async false
set_option linter.all false
set_option maxRecDepth 100000
set_option maxHeartbeats 4000000
/-! sorted(xs), xs a list of tuples of ints, as long as a list may be -/
namespace L2
open PySem PySem.Spec PyProof.Rows PySem.W
abbrev tupE (ns : List Int) : PyData := .tuple (ns.map .int)
theorem tupE_le : dataLe false tupE = fun p q => decide (p ≤ q) := by
  funext p q
  show (!dataLt (.tuple (q.map .int)) (.tuple (p.map .int))) = _
  rw [dataLt_tuple]
  show (!rowLt (q.map .int) (p.map .int)) = _
  rw [dataLt_ints]
  by_cases h : q < p
  · have h' : ¬ p ≤ q := fun r => List.not_lt.mpr r h
    simp [h, h']
  · have h' : p ≤ q := List.not_lt.mp h
    simp [h, h']
section
variable {X : Cx} {pins : List (Addr × Obj)} {σ : St} {H : Hp} {s : Shared}
abbrev TupV (K : PySem.W.Frag) (H : Hp) (u : Value) (ns : List Int) : Prop := ∃ t, u = .ref t ∧ SqT K H t (ns.map V.int)
theorem tupV_of : ∀ {xs : List V} {bs : List (List Int)} {us : List Value}, Paired (TupI X.K H) xs bs → Vals xs us → EachIs (TupV X.K H) us bs
  | _, _, _, .nil, .nil => .nil
  | _, _, _, .cons ⟨t, e, h⟩ p, .cons r v => by
    subst e
    cases r
    exact .cons ⟨t, rfl, h⟩ (tupV_of p v)
theorem tupV_to : ∀ {bs : List (List Int)} {us : List Value}, EachIs (TupV X.K H) us bs → Paired (TupI X.K H) (us.map bkV) bs ∧ ∀ u ∈ us, ∃ a, u = Value.ref a
  | _, _, .nil => ⟨.nil, fun u hu => absurd hu (by simp)⟩
  | _, _, .cons ⟨t, e, h⟩ p => by
    subst e
    obtain ⟨h1, h2⟩ := tupV_to p
    refine ⟨.cons ⟨t, rfl, h⟩ h1, fun u hu => ?_⟩
    rcases List.mem_cons.mp hu with e | hu
    · exact ⟨t, e⟩
    · exact h2 u hu
theorem tupV_reads (I : Inv X pins σ H s) {u : Value} {ns : List Int} (h : TupV X.K H u ns) : ∃ as, Reads s.heap u (tupE ns) as := by
  obtain ⟨t, rfl, ht⟩ := h
  obtain ⟨its, rv, hT, _⟩ := I.tuple ht
  exact ⟨_, reads_tuple_ints hT (by simpa using rv.ints)⟩
/-- sorted(xs): the items ascending as tuples are -/
def rSortTA (K : PySem.W.Frag) : List V → Hp → VK → Prop := fun vs H Q => ∃ (a : Addr) (xs : List V) (bs : List (List Int)), vs = [V.ref a] ∧ SqL K H a xs ∧ Paired (TupI K H) xs bs ∧ (∀ b ∈ bs, b ≠ []) ∧
  ∀ (ys : List V) (p : Addr), Paired (TupI K H) ys (bs.mergeSort fun p q => decide (p ≤ q)) → H p = none → Q (.ref p) (upd H p (.lst ys))
theorem cr_sortTA (hu : X.A.units + 65 < cLine) : CallR X (.builtin "sorted") (rSortTA X.K) := by
  intro pins s σ H vs us Q I r h
  obtain ⟨a, xs, bs, rfl, hs, hp, hne, q⟩ := h
  obtain ⟨its, rv, hl, hz⟩ := I.list hs
  rw [Vals.ref1 r]
  have e0 : EachIs (TupV X.K H) its bs := tupV_of hp rv
  have hlen : bs.length = xs.length := (Paired.length hp).symm
  refine sorted_data (A := X.A) (R := TupV X.K H) (enc := tupE) hl.isList e0 (e0.mono fun u ns h => tupV_reads I h) (AllAlike.of fun b b' => by simp [alike, alike_ints]) (.inl fun d hd => ?_) (by rw [hlen]; exact hz) (fun b _ => ?_) fun out ho eo => ?_
  · obtain ⟨b, hb, rfl⟩ := List.mem_map.mp hd
    match b, hne b hb with
    | x :: r, _ => exact ⟨_, _, rfl⟩
  · have : (tupE b).depth ≤ 1 := by simp [PyData.depth, depth_ints]
    omega
  · rw [tupE_le] at eo
    obtain ⟨e1, e2⟩ := tupV_to eo
    obtain ⟨ep, he'⟩ := PyProof.Rows.sortedAll_at s.heap its out.toArray
    have hz2 : (out.map bkV).length ≤ sizeLine := by
      rw [List.length_map, ho, hlen]
      exact hz
    exact ⟨.ref _, upd H (s.heap.objs.size + 1) (.lst (out.map bkV)), I.laid (t' := s.toks) (fun _ _ => PyProof.Rows.sortedAll_old) (Nat.le_succ _) ⟨hz2, out, ep, bkV_vals e2, he'⟩, rfl, q _ _ e1 (I.hok.fresh (Nat.le_succ _))⟩
end
end L2

set_option Elab.async false
set_option linter.all false
set_option maxRecDepth 100000
set_option maxHeartbeats 4000000
/-! math.factorial -/
namespace L2
open PySem PySem.Spec PyProof.Rows
section
variable {X : Cx}
abbrev facN (n : Nat) : Nat := PySem.Builtin.Math.factorialNat n
def rFac : List V → Hp → VK → Prop := fun vs H Q => ∃ n : Nat, vs = [.int n] ∧ n ≤ 20000 ∧ Q (.int (facN n : Nat)) H
theorem cr_fac : CallR X (.builtin "math.factorial") rFac := by
  intro pins s σ H vs us Q I r h
  obtain ⟨n, rfl, hn, q⟩ := h
  cases r with
  | cons r1 r2 =>
    cases r2
    obtain ⟨t, rfl⟩ := r1
    exact PySem.W.mc_factorial (by omega) (by omega) fun _ => ⟨.int _, H, I.tok _, ⟨_, rfl⟩, q⟩
end
end L2

set_option Elab.async false
set_option linter.all false
set_option maxRecDepth 100000
set_option maxHeartbeats 4000000
/-! sorted(xs), xs a list of one item at most, whatever it is -/
namespace L2
open PySem PySem.Spec PyProof.Rows PySem.W
section
variable {X : Cx}
def rSort1 (K : PySem.W.Frag) : List V → Hp → VK → Prop := fun vs H Q => ∃ (a : Addr) (xs : List V), vs = [V.ref a] ∧ SqL K H a xs ∧ xs.length ≤ 1 ∧
  ∀ p : Addr, H p = none → Q (.ref p) (upd H p (.lst xs))
theorem cr_sort1 : CallR X (.builtin "sorted") (rSort1 X.K) := by
  intro pins s σ H vs us Q I r h
  obtain ⟨a, xs, rfl, hs, h1, q⟩ := h
  obtain ⟨its, rv, hl, hz⟩ := I.list hs
  rw [Vals.ref1 r]
  have hlen : xs.length = its.length := rv.length
  refine Srt.sorted_any hl.isList (by omega) (fun h2 => by omega) fun out hp => ?_
  have e : out = its := by
    match its, hlen with
    | [], _ => exact List.Perm.eq_nil hp
    | [x], _ => exact List.perm_singleton.mp hp
    | _ :: _ :: _, hl => simp only [List.length_cons] at hl; omega
  subst e
  obtain ⟨ep, he'⟩ := PyProof.Rows.sortedAll_at s.heap out out.toArray
  exact ⟨.ref _, upd H (s.heap.objs.size + 1) (.lst xs), I.laid (t' := s.toks) (fun _ _ => PyProof.Rows.sortedAll_old) (Nat.le_succ _) ⟨hz, out, ep, rv, he'⟩, rfl, q _ (I.hok.fresh (Nat.le_succ _))⟩
end
end L2

set_option Elab.async false
set_option linter.all false
set_option maxRecDepth 100000
set_option maxHeartbeats 4000000
/-! xs.extend(t), t a tuple -/
namespace PySem
open PySem PySem.W PySem.AutoSeq1
theorem ext_tup {l b : Addr} {items items2 : Array Value} {n n2 : Nat} {dc : Option Addr} {sl : Array (Option Value)} (hs0 : ¬(!items.isEmpty && Builtin.List.listTooLong (items.size + items2.size)) = true) (hs1 : items.size ≤ sizeLine) (hs2 : items.size + items2.size ≤ sizeLine + 1) :
    Meets (Builtin.«list.extend» ⟨[.ref l, .ref b], []⟩) (fun _ R s => s.heap.get? l = some { cls := .type "list", dict := none, data := .seq items n, slots := #[] } ∧ s.heap.get? b = some { cls := .type "tuple", dict := dc, data := .seq items2 n2, slots := sl } ∧
      R (.ok (.ret Value.none)) { s with heap := s.heap.update l (Obj.mapSeq fun x => x ++ items2), toks := s.toks }) :=
  .of_wp fun prog w A R s h => by
    obtain ⟨hp, g, d, tk, os⟩ := s
    obtain ⟨hl, hb, h⟩ := h
    have f1 := idx_int
    have f2 := sub_tuple_tuple
    have f3 := sub_list_list
    have f4 := sub_tuple_list
    have f5 := sub_list_tuple
    have hz' : (items ++ items2).size ≤ sizeLine + 1 := by rw [Array.size_append]; exact hs2
    wp_walk using (wpAny_updateSeq hl rfl (hz := hs1) (_hz' := hz')), wpAny_loadPart' hl, wpAny_loadPart' hb
    exact ⟨_, rfl, h⟩
end PySem
namespace L2
open PySem PySem.Spec PyProof.Rows PySem.W
section
variable {X : Cx}
def rExtT (K : PySem.W.Frag) : V → List V → Hp → VK → Prop := fun x vs H Q => ∃ (l b : Addr) (xs zs : List V), x = .ref l ∧ vs = [.ref b] ∧ H l = some (.lst xs) ∧ SqT K H b zs ∧ xs.length + zs.length ≤ sizeLine ∧
  Q .non (upd H l (.lst (xs ++ zs)))
theorem mt_extendT : MtM X "list.extend" (rExtT X.K) := by
  intro pins s σ H x vs v us Q I rx rv h
  obtain ⟨l, b, xs, zs, rfl, rfl, hH, hB, hz, q⟩ := h
  cases rx
  obtain ⟨u, rfl, ru⟩ := rv.one
  cases ru
  obtain ⟨z, its, n, r, hl, e⟩ := I.lstM hH
  obtain ⟨its2, r2, ⟨ob, eb, hc, n2, hd⟩, hl2⟩ := I.tuple hB
  obtain ⟨cls, dc, data, sl⟩ := ob
  dsimp only at hc hd
  subst hc hd
  have h1 := r.length
  have h2 := r2.length
  have hsz : its.toArray.size + its2.toArray.size ≤ sizeLine := by rw [List.size_toArray, List.size_toArray]; omega
  have hlong : ¬ (!its.toArray.isEmpty && Builtin.List.listTooLong (its.toArray.size + its2.toArray.size)) = true := by
    rw [notLongL hsz, Bool.and_false]
    exact Bool.false_ne_true
  refine call_meets F.slot_list_extend ⟨_, e, rfl⟩ F.entry_list_extend (F.args_list_extend_2 _ _) (PySem.ext_tup hlong (by rw [List.size_toArray]; omega) (by omega)) ⟨e, eb, ?_⟩
  refine ⟨.non, _, I.lset (its' := its ++ its2) hH e (by simp) (r.append r2) ?_, rfl, q⟩
  rw [List.length_append]
  omega
end
end L2

set_option Elab.async false
set_option linter.all false
set_option maxRecDepth 100000
set_option maxHeartbeats 4000000
/-! set(xs), xs a tuple of ints, as a value -/
namespace L2
open PySem PySem.Spec PyProof.Rows
section
variable {P : Program} {w : World} {A : Around} {E : Value → Shared → Prop}
theorem sub_tup_set : isSubtype (.type "tuple") (.type "set") = pure false := by rw [isSubtype_type]; kernel_rfl
theorem sub_tup_frz : isSubtype (.type "tuple") (.type "frozenset") = pure false := by rw [isSubtype_type]; kernel_rfl
theorem init_overT {z : Shared} {D l : Addr} {items : Array Value} {ns : List Int} {R : Result → Shared → Prop} (hh : A.handled = none) (hD : z.heap.get? D = some (eS w)) (hl : z.heap.IsTuple l items) (hit : IntsAre items.toList ns) (hb : ns.length + 1 < scanBound) (hne : l ≠ D)
    (q : ∀ (h' : Heap) (tk c : Nat), SetR w h' D (fun j => decide (j ∈ ns)) c → c ≤ ns.length → (∀ b o, b ≠ D → z.heap.get? b = some o → h'.get? b = some o) → R (.ok (.ret .none)) { z with heap := h', toks := tk }) :
    codeAny (model P w) A (.call (.builtin "set.__init__") ⟨[.ref D, .ref l], []⟩) R z := by
  have hn : items.size = ns.length := by
    have e := IntsAre.length hit
    rw [Array.length_toList] at e
    exact e
  have hT : Shared.TypeIs z (.ref D) "set" := ⟨_, hD, rfl⟩
  have lD : D < z.heap.objs.size := Heap.lt_size hD
  obtain ⟨⟨oc, od, oa, os⟩, hol, hcl, nl, hdl⟩ := id hl
  have ll : l < z.heap.objs.size := Heap.lt_size hol
  dsimp only at hcl hdl
  subst hcl hdl
  have no1 := sub_tup_set
  have no2 := sub_tup_frz
  have no3 : (Value.type "tuple" == Value.type "dict") = false := by decide
  refine codeAny_call_builtin F.called_set.init.plain F.entry_set_init (check_set_init_1 hT ?_)
  unfold Builtin.«set.__init__» noKeywords Builtin.Frozenset.updateFrom
  generalize hPI : pyIter = PI
  wp_walk
  subst hPI
  refine wpAny_pyIter_tuple hl ?_
  refine wpAny_bind (wpAny_runValue ?_)
  have free3 : A.in1.in1.handled = none := by simp [hh]
  have apart : l ≠ z.heap.objs.size := Nat.ne_of_lt ll
  have offS : D ∉ [z.heap.objs.size, l] := fun m => by
    rcases List.mem_cons.mp m with y | y
    · exact absurd y (Nat.ne_of_lt lD)
    · exact hne (List.mem_singleton.mp y).symm
  have each : ∀ (i : Nat) (v : Value), items[i]? = some v → ∃ k t, ns[i]? = some k ∧ v = .int k t := fun i v e => by
    have hi : i < ns.length := hn ▸ (Array.getElem?_eq_some_iff.mp e).1
    obtain ⟨t, e2⟩ := IntsAre.int_at hit i v (by rw [Array.getElem?_toList]; exact e)
    exact ⟨ns[i], t, List.getElem?_eq_getElem hi, by rw [e2, List.getD_eq_getElem?_getD, List.getElem?_eq_getElem hi]; rfl⟩
  refine set_update_ints ((Walks.tuple free3 _ l apart items).toS) D offS ns hn hb each (items.size - 0) 0 _ (by omega) (Nat.zero_le _) ?_ ⟨0, Nat.le_refl 0, ?_⟩ ?_
  · exact ⟨⟨_, Heap.get?_push_size _ rfl, rfl, rfl⟩, hl.push _⟩
  · exact setR_new_at (Heap.get?_push_of_some _ hD)
  rintro ⟨h', gens', drawn', tk', os'⟩ c moved hc new
  obtain rfl : gens' = z.gens := moved.gens
  obtain rfl : drawn' = z.drawn := moved.drawn
  obtain rfl : os' = z.os := moved.os
  show wpAny _ _ _ _ _ _
  refine wpAny_pure ?_
  show wpAny _ _ (ret Value.none) _ _ _
  refine wpAny_pure (q h' tk' c new (by omega) fun b o hbD e => ?_)
  have lb : b < z.heap.objs.size := Heap.lt_size e
  refine moved.heap b o (fun m => ?_) (Heap.get?_push_of_some _ e)
  rcases List.mem_cons.mp m with y | y
  · exact hbD y
  · exact absurd (List.mem_singleton.mp y) (Nat.ne_of_lt lb)
theorem set_overT {z : Shared} {l : Addr} {items : Array Value} {ns : List Int} {Q : Value → Shared → Prop} (hh : A.handled = none) (hl : z.heap.IsTuple l items) (hit : IntsAre items.toList ns) (hb : ns.length + 1 < scanBound)
    (q : ∀ (h' : Heap) (tk c : Nat), SetR w h' z.heap.objs.size (fun j => decide (j ∈ ns)) c → c ≤ ns.length → (∀ b o, z.heap.get? b = some o → h'.get? b = some o) → Q (.ref z.heap.objs.size) { z with heap := h', toks := tk }) :
    wpAny (model P w) A (call (.type "set") [.ref l]) Q E z := by
  obtain ⟨c0, t0, mro0⟩ := F.called_set.mro
  have m1 := F.called_set.made
  have m2 := F.called_set.sub
  have m3 := F.called_set.notType
  have m4 := F.called_set.canCreate
  have m5 := F.typeCall_set_1 (.ref l)
  have ll : l < z.heap.objs.size := by
    obtain ⟨o, ho, _⟩ := id hl
    exact Heap.lt_size ho
  refine wpAny_call (codeAny_of_tree ?_)
  show wpAny _ _ (callAny (.type "set") _) _ _ _
  refine wpAny_pure ⟨Code.quiet_builtin _ (by decide +kernel), codeAny_builtin F.entry_type_call ?_⟩
  rw [Around.under_plain (weight_type_call_type "set" [.ref l] []) rfl]
  repeat any_goals first | assumption | wp_step
  have new1 : (z.heap.push (eS w)).get? z.heap.objs.size = some (eS w) := Heap.get?_push_size _ rfl
  refine codeAny_mono (code_set_led1 (.ref l) (E := E) (Q₁ := fun v y => v = .ref z.heap.objs.size ∧ y = { z with heap := z.heap.push (eS w) }) ⟨rfl, rfl⟩) fun r y hr => ?_
  cases r with
  | error e => exact hr
  | ok fl =>
    cases fl with
    | ret v =>
      obtain ⟨rfl, rfl⟩ := hr
      have hT : Shared.TypeIs { z with heap := z.heap.push (eS w) } (.ref z.heap.objs.size) "set" := ⟨_, new1, rfl⟩
      have i1 := F.called_set.init.lookup
      have i2 := F.called_set.init.bind (.ref z.heap.objs.size)
      repeat any_goals first | assumption | wp_step
      refine init_overT (A := A.in1) (z := { z with heap := z.heap.push (eS w) }) (D := z.heap.objs.size) (by simp [hh]) new1 (hl.push _) hit hb (Nat.ne_of_lt ll) fun h' tk c S hc k => ?_
      show wpAny _ _ (pure (some Value.none)) _ _ _
      repeat any_goals first | assumption | wp_step
      exact q h' tk c S hc fun b o e => k b o (Nat.ne_of_lt (Heap.lt_size e)) (Heap.get?_push_of_some _ e)
    | _ => exact hr.elim
end
section
variable {X : Cx}
/-- set(xs) -/
def rSetTI (K : PySem.W.Frag) (w : World) : List V → Hp → VK → Prop := fun xs H Q => ∃ (l : Addr) (ns : List Int), xs = [V.ref l] ∧ SqT K H l (ns.map V.int) ∧ ns.length ≤ 1000 ∧ ∀ p n, n ≤ ns.length → H p = none → Q (.ref p) (upd H p (SetO w p (fun j => decide (j ∈ ns)) n))
theorem cr_setTI (hc : X.calm = true) : CallR X (.type "set") (rSetTI X.K X.w) := by
  intro pins s σ H xs us Q I r h
  obtain ⟨l, ns, rfl, hl, h1, q⟩ := h
  obtain ⟨its, rv, pl, _⟩ := I.tuple hl
  rw [Vals.ref1 r]
  refine set_overT (I.ok.hd hc) pl (ns := ns) (by simpa using rv.ints) (by unfold scanBound; omega) fun h' tk c R hc k => ?_
  exact ⟨.ref _, upd H s.heap.objs.size (SetO X.w s.heap.objs.size (fun j => decide (j ∈ ns)) c), I.laid (t' := tk) k (Nat.le_refl _) (setO_new R), rfl, q _ c hc (I.hok.fresh (Nat.le_refl _))⟩
end
end L2

set_option Elab.async false
set_option linter.all false
set_option maxRecDepth 100000
set_option maxHeartbeats 4000000
/-! t > u, both tuples of ints -/
namespace L2
open PySem PySem.Spec PyProof.Rows
abbrev gtB (ns ms : List Int) : Bool := Ob.lexAt (fun j => decide (ns.getD j 0 = ms.getD j 0)) (fun j => decide (ms.getD j 0 < ns.getD j 0)) (decide (ms.length < ns.length)) 0 (min ns.length ms.length)
def rGtT (K : PySem.W.Frag) : R2 := fun x y H Q => ∃ (t1 t2 : Addr) (ns ms : List Int), (x = .ref t1 ∧ y = .ref t2) ∧ (SqT K H t1 (ns.map V.int) ∧ SqT K H t2 (ms.map V.int)) ∧ Q (.bl (gtB ns ms)) H
theorem op_gtT {X : Cx} (few : X.A.units < cLine) : OpR X (compareOp .Gt) (rGtT X.K) := by
  rintro pins s σ H x y v u Q I rx ry ⟨t1, t2, ns, ms, ⟨rfl, rfl⟩, ⟨h1, h2⟩, q⟩
  cases rx; cases ry
  obtain ⟨us, va, pa, _⟩ := I.tuple h1
  obtain ⟨ws, vb, pb, _⟩ := I.tuple h2
  have item : ∀ {zs : List Value} {ks : List Int}, IntsAre zs ks → ∀ j (h : j < zs.toArray.size), ∃ t, zs.toArray[j] = .int (ks.getD j 0) t := fun ii j h =>
    PyProof.Rows.IntsAre.int_at ii _ _ (by simp at h; simp [h])
  have size : ∀ {zs : List Value} {ks : List Int}, IntsAre zs ks → zs.toArray.size = ks.length := fun ii => by rw [List.size_toArray]; exact ii.length
  have beq : ∀ a b : Int, decide (a = b) = (a == b) := fun a b => by
    by_cases c : a = b
    · subst c; simp
    · rw [decide_eq_false c]; exact (beq_eq_false_iff_ne.mpr c).symm
  have main := Ob.RcOp.tuples_gt (A := X.A) (s := s) (e := fun j => decide (ns.getD j 0 = ms.getD j 0)) (r := fun j => decide (ms.getD j 0 < ns.getD j 0)) pa pb few
    (fun j i1 i2 => by
      obtain ⟨k1, g1⟩ := item va.ints j i1
      obtain ⟨k2, g2⟩ := item vb.ints j i2
      rw [g1, g2, beq]
      exact SeqAt.EqAt.int_int _ _ _ _)
    (fun j i1 i2 _ => by
      obtain ⟨k1, g1⟩ := item va.ints j i1
      obtain ⟨k2, g2⟩ := item vb.ints j i2
      rw [g1, g2]
      exact Ob.RcOp.gt_int _ _ _ _)
  rw [size va.ints, size vb.ints] at main
  exact main X.prog X.w X.xe (EP X pins σ Q) ⟨.bl _, H, I, rfl, q⟩
end L2

set_option Elab.async false
set_option linter.all false
set_option maxRecDepth 100000
set_option maxHeartbeats 4000000
/-! sorted(xs), xs a list of tuples of ints, the first of which has no item -/
namespace PySem.W
open PySem PySem.Calls PyProof.Rows PySem.SeqAt
section
variable {prog : Program} {w : World} {A : Around} {E : Value → Shared → Prop} {s : Shared}
theorem call_tuple_ltZ {Q : Value → Shared → Prop} {l b : Addr} {items items2 : Array Value} {e r : Nat → Bool} (hl : s.heap.IsTuple l items) (hb : s.heap.IsTuple b items2)
    (he : ∀ j (h1 : j < items.size) (h2 : j < items2.size), EqAt A.in1 s items[j] items2[j] (e j)) (hr : ∀ j (h1 : j < items.size) (h2 : j < items2.size), e j = false → RcLt A.in1 s items[j] items2[j] (r j))
    (h : Q (.bool (firstLt e r (decide (items.size < items2.size)) (List.range (min items.size items2.size)))) s) : wpAny (model prog w) A (call (.builtin "tuple.__lt__") [.ref l, .ref b]) Q E s := by
  obtain ⟨⟨cls, dd, data, sl⟩, ho, hc, n, hd⟩ := id hl
  obtain ⟨⟨cls2, dd2, data2, sl2⟩, ho2, hc2, n2, hd2⟩ := id hb
  simp only at hc hd hc2 hd2
  subst hc hd hc2 hd2
  exact call_meets F.slot_tuple_lt ⟨_, ho, rfl⟩ F.entry_tuple_lt (F.args_tuple_lt_2 _ _) (tuple_ltAt l b items items2 n n2 dd dd2 sl sl2 e r) ⟨ho, ho2, he, hr, h⟩
theorem oneLt_tupZ {xs ys : List PyData} {a b : Value} {as bs : List Addr} {Q : Bool → Shared → Prop} (ra : Reads s.heap a (.tuple xs) as) (rb : Reads s.heap b (.tuple ys) bs) (hal : alikeAll xs ys = true)
    (hu : A.units + min (PyData.tuple xs).depth (PyData.tuple ys).depth < cLine) (hq : Q (dataLt (.tuple xs) (.tuple ys)) s) : wpAny (model prog w) A (oneLt' true a b) Q E s := by
  cases ra with
  | @tuple l o vs n _ as₁ h1 h2 h3 h4 =>
    cases rb with
    | @tuple l' o' vs' n' _ bs₁ k1 k2 k3 k4 =>
      have n1 : vs.size = xs.length := by simpa using ReadsAll.length _ _ _ h4
      have n2 : vs'.size = ys.length := by simpa using ReadsAll.length _ _ _ k4
      rw [dataLt_tuple, ← firstLt_toks xs ys hal, ← n1, ← n2] at hq
      rw [oneLt'_eq]
      simp only [if_true]
      refine wpAny_bind (wpAny_cRoomFor (room_here hu) ?_)
      refine wpAny_bind (wpAny_callSpecialIfBound?_slot (T := "tuple") ⟨_, h1, h2⟩ F.slot_tuple_lt (call_tuple_ltZ (e := pairEq xs ys) (r := fun j => dataLt (xs.getD j .none) (ys.getD j .none)) ⟨_, h1, h2, _, h3⟩ ⟨_, k1, k2, _, k3⟩ (fun j j1 j2 => ?_) (fun j j1 j2 hj => ?_) ?_))
      · have := eqAt_alikeAll xs ys A.in1 s vs.toList vs'.toList _ _ h4 k4 hal (room_in hu) j (by simpa using j1) (by simpa using j2)
        simpa using this
      · have := rcLt_alikeAll xs ys A.in1 s vs.toList vs'.toList _ _ h4 k4 hal (room_in hu) j (by simpa using j1) (by simpa using j2) hj
        simpa using this
      · exact wpAny_truthy_bool hq
end
section
variable {M : Model} {A : Around} {E : Value → Shared → Prop} {s : Shared}
def TupAt (h : Heap) (v : Value) (xs : Array Value) : Prop := ∃ a o n, v = .ref a ∧ h.get? a = some o ∧ o.cls = .type "tuple" ∧ o.data = .seq xs n
theorem first_tupZ {v : Value} {xs : Array Value} {Q : Option Value → Shared → Prop} (t : TupAt s.heap v xs) (h : Q xs[0]? s) : wpAny M A (firstOfTuple' v) Q E s := by
  obtain ⟨a, o, n, rfl, ho, hc, hd⟩ := t
  rw [kas_first_eq]
  refine wpAny_bind (Looks.here (show Looks M s.heap (typeOf (.ref a)) o.cls from (Looks.ld ho).andThen .now) ?_)
  rw [hc, if_neg (by first | decide | simp)]
  exact wpAny_bind (listItems_at ho hd (wpAny_pure h))
theorem firsts_anyZ : ∀ (vs : List Value), (∀ v ∈ vs, ∃ xs, TupAt s.heap v xs) → ∃ rs : List (Option Value), ∀ {Q : List (Option Value) → Shared → Prop}, Q rs s → wpAny M A (vs.mapM firstOfTuple') Q E s
  | [], _ => ⟨[], fun h => by rw [List.mapM_nil]; exact wpAny_pure h⟩
  | v :: vs, t => by
    obtain ⟨xs, hx⟩ := t v (.head _)
    obtain ⟨rs, hr⟩ := firsts_anyZ vs fun v hv => t v (.tail _ hv)
    refine ⟨xs[0]? :: rs, fun {Q} h => ?_⟩
    rw [List.mapM_cons]
    exact wpAny_bind (first_tupZ hx (wpAny_bind (hr (Q := fun bs s' => wpAny M A (pure (xs[0]? :: bs)) Q E s') (wpAny_pure h))))
theorem kind_tupZ {v₁ : Value} {rest : List Value} {Q : SortKind → Shared → Prop} (h1 : TupAt s.heap v₁ #[]) (hT : ∀ v ∈ rest, ∃ xs, TupAt s.heap v xs) (h : Q oneType' s) : wpAny M A (keyKind' (v₁ :: rest).toArray) Q E s := by
  obtain ⟨rs, hr⟩ := firsts_anyZ (M := M) (A := A) (E := E) rest hT
  rw [keyKind'_eq, List.mapM_toArray, map_eq_pure_bind]
  refine wpAny_bind (wpAny_bind ?_)
  rw [List.mapM_cons]
  refine wpAny_bind (first_tupZ h1 (wpAny_bind (hr ?_)))
  refine wpAny_pure (wpAny_pure ?_)
  rw [if_neg (by simp), if_neg (by simp)]
  rw [oneTypeOnly'_eq, List.mapM_toArray, map_eq_pure_bind]
  have hty : ∀ v ∈ v₁ :: rest, ∀ (Q' : Value → Shared → Prop), Q' (.type "tuple") s → wpAny M A (typeOf v) Q' E s := fun v hv Q' hq => by
    have ht : ∃ xs, TupAt s.heap v xs := by
      rcases List.mem_cons.mp hv with rfl | hv
      · exact ⟨_, h1⟩
      · exact hT v hv
    obtain ⟨xs, a, o, n, rfl, ho, hc, hd⟩ := ht
    refine Looks.here (show Looks M s.heap (typeOf (.ref a)) o.cls from (Looks.ld ho).andThen .now) ?_
    rw [hc]
    exact hq
  refine wpAny_bind (wpAny_bind (wpAny_bind (kas_mapM (r := .type "tuple") _ hty (wpAny_pure ?_))))
  have hall : ((List.map (fun _ => Value.type "tuple") (v₁ :: rest)).toArray.all fun x => x == Value.type "tuple") = true := by
    simp only [List.all_toArray, List.all_map, List.all_eq_true]
    intro _ _
    rfl
  have h0 : (List.map (fun _ => Value.type "tuple") (v₁ :: rest)).toArray[0]? = some (Value.type "tuple") := by simp
  rw [h0]
  simp only [hall, if_true]
  exact wpAny_pure (wpAny_pure h)
end
section
variable {prog : Program} {w : World} {A : Around} {E : Value → Shared → Prop} {s : Shared}
theorem reads_tupZ {v : Value} {r : List PyData} {as : List Addr} (h : Reads s.heap v (.tuple r) as) : ∃ xs, TupAt s.heap v xs := by
  cases h with
  | @tuple l o vs n _ as₁ h1 h2 h3 h4 => exact ⟨_, l, o, n, rfl, h1, h2, h3⟩
theorem reads_tup0Z {v : Value} {as : List Addr} (h : Reads s.heap v (.tuple []) as) : TupAt s.heap v #[] := by
  cases h with
  | @tuple l o vs n _ as₁ h1 h2 h3 h4 =>
    have n1 : vs.size = 0 := by simpa using ReadsAll.length _ _ _ h4
    obtain rfl : vs = #[] := Array.eq_empty_of_size_eq_zero n1
    exact ⟨l, o, n, rfl, h1, h2, h3⟩
theorem SortsAt.tupZ {vs : List Value} {ds : List PyData} (e : EachIs (fun v d => ∃ as, Reads s.heap v d as) vs (.tuple [] :: ds)) (hal : AllAlike (.tuple [] :: ds)) (ht : ∀ d, d ∈ ds → ∃ r, d = .tuple r) (hu : ∀ d, d ∈ PyData.tuple [] :: ds → A.units + d.depth < cLine) :
    SortsAt prog w A s (dataKind s.heap (.tuple [] :: ds)) vs := by
  have ht2 : ∀ d, d ∈ PyData.tuple [] :: ds → ∃ r, d = .tuple r := fun d hd => by
    rcases List.mem_cons.mp hd with rfl | hd
    · exact ⟨_, rfl⟩
    · exact ht d hd
  refine ⟨fun v hv => ?_, oneType', ?_, fun h2 E Q hq => ?_⟩
  · obtain ⟨d, hd, as, r⟩ := e.left v hv
    exact ⟨_, dataKind_some hal hd r⟩
  · intro E x y a b Q ha hb hq
    obtain ⟨d, as, hd, ra, rfl⟩ := dataKind_inv ha
    obtain ⟨d', as', hd', rb, rfl⟩ := dataKind_inv hb
    have hdd := hal d hd d' hd'
    have hroom : A.units + min d.depth d'.depth < cLine := Nat.lt_of_le_of_lt (Nat.add_le_add_left (Nat.min_le_left _ _) _) (hu d hd)
    obtain ⟨r1, rfl⟩ := ht2 d hd
    obtain ⟨r2, rfl⟩ := ht2 d' hd'
    rw [keyLt'_oneType]
    exact oneLt_tupZ ra rb (by simpa [alike] using hdd) hroom hq
  · cases e with
    | @cons v₁ _ vs _ r1 r2 =>
      obtain ⟨as, r1⟩ := r1
      refine kind_tupZ (reads_tup0Z r1) (fun v hv => ?_) hq
      obtain ⟨d, hd, as, r⟩ := r2.left v hv
      obtain ⟨r', rfl⟩ := ht d hd
      exact reads_tupZ r
end
end PySem.W
namespace PySem.W
open PySem PySem.Calls PyProof.Rows PySem.SeqAt
section
variable {prog : Program} {w : World} {A : Around} {E : Value → Shared → Prop} {s : Shared} {β : Type} {R : Value → β → Prop} {enc : β → PyData} {b0 : β} {bs : List β} {vs : List Value}
theorem sorted_tupZ {l : Addr} {Q : Value → Shared → Prop} (h0 : enc b0 = .tuple []) (ht : ∀ b, b ∈ bs → ∃ r, enc b = .tuple r) (hl : s.heap.IsList l vs.toArray) (e : EachIs R vs (b0 :: bs)) (er : EachIs (fun v b => ∃ as, Reads s.heap v (enc b) as) vs (b0 :: bs)) (hal : AllAlike ((b0 :: bs).map enc)) (hL : (b0 :: bs).length ≤ sizeLine)
    (hu : ∀ b, b ∈ b0 :: bs → A.units + 2 + (enc b).depth < cLine) (h : ∀ out, out.length = (b0 :: bs).length → EachIs R out ((b0 :: bs).mergeSort (dataLe false enc)) → Q (.ref (s.heap.objs.size + 1)) { s with heap := sortedAll s.heap vs (List.toArray out) }) :
    wpAny (model prog w) A (call (.builtin "sorted") [.ref l]) Q E s := by
  have er' : EachIs (fun v b => ∃ as, Reads (sortingHeap (copyHeap s.heap vs) (s.heap.objs.size + 1) vs) v (enc b) as) vs (b0 :: bs) := er.mono fun _ _ ⟨as, r⟩ => ⟨as, PyProof.Rows.Reads.keeps (fun _ _ => sorting_copy_old) r⟩
  have em := each_map (R := fun v d => ∃ as, Reads (sortingHeap (copyHeap s.heap vs) (s.heap.objs.size + 1) vs) v d as) enc er'
  have bm := bound_map (A := A.in1.in1) (enc := enc) (bs := b0 :: bs) hu
  have hal2 := hal
  rw [List.map_cons, h0] at em bm hal2
  refine sorted_vals (κ := dataKind (sortingHeap (copyHeap s.heap vs) (s.heap.objs.size + 1) vs) ((b0 :: bs).map enc)) hl ?_ (by rw [e.length]; exact hL) (h _ (by rw [sortVals_length false rfl]; exact e.length) (sortVals_data false e er' hal))
  rw [List.map_cons, h0]
  refine SortsAt.tupZ (s := { s with heap := sortingHeap (copyHeap s.heap vs) (s.heap.objs.size + 1) vs }) em hal2 (fun d hd => ?_) bm
  obtain ⟨b, hb, rfl⟩ := List.mem_map.mp hd
  exact ht b hb
end
end PySem.W
namespace L2
open PySem PySem.Spec PyProof.Rows PySem.W
section
variable {X : Cx} {pins : List (Addr × Obj)} {σ : St} {H : Hp} {s : Shared}
/-- sorted(xs): the items ascending as tuples are -/
def rSortT0 (K : PySem.W.Frag) : List V → Hp → VK → Prop := fun vs H Q => ∃ (a : Addr) (xs : List V) (bs : List (List Int)), vs = [V.ref a] ∧ SqL K H a xs ∧ Paired (TupI K H) xs ([] :: bs) ∧
  ∀ (ys : List V) (p : Addr), Paired (TupI K H) ys (([] :: bs).mergeSort fun p q => decide (p ≤ q)) → H p = none → Q (.ref p) (upd H p (.lst ys))
theorem cr_sortT0 (hu : X.A.units + 65 < cLine) : CallR X (.builtin "sorted") (rSortT0 X.K) := by
  intro pins s σ H vs us Q I r h
  obtain ⟨a, xs, bs, rfl, hs, hp, q⟩ := h
  obtain ⟨its, rv, hl, hz⟩ := I.list hs
  rw [Vals.ref1 r]
  have e0 : EachIs (TupV X.K H) its ([] :: bs) := tupV_of hp rv
  have hlen : ([] :: bs).length = xs.length := (Paired.length hp).symm
  refine sorted_tupZ (A := X.A) (R := TupV X.K H) (enc := tupE) rfl (fun b _ => ⟨_, rfl⟩) hl.isList e0 (e0.mono fun u ns h => tupV_reads I h) (AllAlike.of fun b b' => by simp [alike, alike_ints]) (by rw [hlen]; exact hz) (fun b _ => ?_) fun out ho eo => ?_
  · have : (tupE b).depth ≤ 1 := by simp [PyData.depth, depth_ints]
    omega
  · rw [tupE_le] at eo
    obtain ⟨e1, e2⟩ := tupV_to eo
    obtain ⟨ep, he'⟩ := PyProof.Rows.sortedAll_at s.heap its out.toArray
    have hz2 : (out.map bkV).length ≤ sizeLine := by
      rw [List.length_map, ho, hlen]
      exact hz
    exact ⟨.ref _, upd H (s.heap.objs.size + 1) (.lst (out.map bkV)), I.laid (t' := s.toks) (fun _ _ => PyProof.Rows.sortedAll_old) (Nat.le_succ _) ⟨hz2, out, ep, bkV_vals e2, he'⟩, rfl, q _ _ e1 (I.hok.fresh (Nat.le_succ _))⟩
end
end L2

set_option Elab.async false
set_option linter.all false
set_option maxRecDepth 100000
set_option maxHeartbeats 4000000
/-! o.m(e, .., k = v, ..); an expression read in one of two ways -/
namespace L2
open PySem PySem.Spec PyProof.Rows PySem.W
/-- a method with keywords -/
def tMethN (C : Addr) (m : Str) (n j : Nat) (sp : Sp) (gV : List V → List V → List V) (E : XK) (ta : TE) (t tk : TA) : TE := fun σ H Q => ta σ H fun x H1 => ∃ a dx fs, x = .ref a ∧ H1 a = some (.ins C dx fs) ∧ fs.lookup m = none ∧
  t σ H1 fun vs H2 => tk σ H2 fun zs H3 => vs.length = n ∧ zs.length = j ∧ sp (gV (x :: vs) zs) H3 Q E
section
variable {X : Cx} {CX : CXT} {k n : Nat} {f C : Addr} {fd : FuncData} {ps ks : List Str} {sp : Sp} {E : XK} {m : Str} {pos apos : Pos} {e o : Expr} {es : List Expr} {kws : List Keyword} {ta : TE} {t tk : TA} {g : List Value → List Value → List Value} {gV : List V → List V → List V}
theorem pe_methN {pl : Sem Bool} (he : PE X o ta) (c : Cls X.K C) (hm : Meth X.K C m f) (F : FnOk X.prog X.w X.K X.mg X.base CX k f fd ps sp) (hr : Room k X.A) (hb : KBn X.K fd ps (n + 1) ks g gV) (hx : Passes CX X E) (ha : PA X (e :: es) t) (hkw : PK X kws tk)
    (hall : (backToKw pos (keywordEach kws X.env)).all (·.1.isSome) = true := by rfl) (hks : (backToKw pos (keywordEach kws X.env)).filterMap (·.1) = ks := by rfl)
    (hst : starEach (e :: es) X.env = (false, eval e X.env) :: starEach es X.env := by rfl) (hpl : ((backTo pos (starEach (e :: es) X.env)).any (·.1) || (backToKw pos (keywordEach kws X.env)).any (·.1.isNone)) = false := by rfl)
    (ht : eval (.Call (.Attribute o m apos) (e :: es) kws pos) X.env = (do
      let ov ← eval o X.env
      standAt apos.atName
      let (f, first) ← holding [ov] (getMethod ov m pl)
      callWith pos f first (backTo pos (starEach (e :: es) X.env)) (backToKw pos (keywordEach kws X.env))) := by rfl) :
    PE X (.Call (.Attribute o m apos) (e :: es) kws pos) (tMethN C m n ks.length sp gV E ta t tk) := by
  refine ⟨fun pins s σ H Q I h => ?_⟩
  refine PySem.W.methodCall_KW (pl := pl) (thn (he.run pins s σ H _ I h) fun u s1 ⟨x, H1, I1, rx, a, dx, fs, ex, ea, l, q⟩ => ?_) ht
  subst ex
  obtain rfl : u = Value.ref a := rx
  refine getmeth_ok I1 ea c hm l ?_
  refine PySem.W.callWith_KW (first := [.ref a]) (h₀ := X.base) I.ok.mod.kin hm.kp hall (thn (ha.run pos pins s1 σ H1 _ I1 q) fun us s2 ⟨vs, H2, I2, r, q2⟩ => ?_) hpl hst
  refine thn (hkw.run pos pins s2 σ H2 _ I2 q2) fun ws s3 ⟨zs, H3, I3, rz, l1, l2, q3⟩ => ⟨I3.kIn, ?_⟩
  rw [hks]
  exact run_fnN (us := .ref a :: us) (vs := .ref a :: vs) F hr hb hx I3 (.cons rfl r) rz (by rw [List.length_cons, l1]) l2 q3
/-- an expression that may be read in two ways -/
theorem pe_two {a : Expr} {t1 t2 : TE} (h1 : PE X a t1) (h2 : PE X a t2) : PE X a (fun σ H Q => t1 σ H Q ∨ t2 σ H Q) :=
  ⟨fun pins s σ H Q I h => h.elim (h1.run pins s σ H Q I) (h2.run pins s σ H Q I)⟩
end
end L2

set_option Elab.async false
set_option linter.all false
set_option maxRecDepth 100000
set_option maxHeartbeats 4000000
/-! zip over two tuples, as a walk; != of own objects of two classes -/
namespace L2
open PySem PySem.Spec PyProof.Rows
theorem walk_zipT {K : PySem.W.Frag} {a b : Addr} {xs ys : List V} {n : Nat} (hn : n = min xs.length ys.length) : Walk (RZ.ItzT K a b) n (fun H => SqT K H a xs ∧ SqT K H b ys) (YPair (fun i => xs[i]?) (fun i => ys[i]?)) := by
  subst hn
  refine ⟨fun i _ hi q => ?_, fun _ q => ⟨xs, ys, q.1, q.2, by omega⟩, fun i H v H' _ q y => ?_⟩
  · have h1 : i < xs.length := by omega
    have h2 : i < ys.length := by omega
    exact ⟨xs, ys, xs[i], ys[i], q.1, q.2, by simp [h1], by simp [h2]⟩
  · obtain ⟨T, x, z, h1, h2, h3, h4, h5⟩ := y
    exact ⟨T, x, z, h1, h2, h3, h4 xs q.1, h5 ys q.2⟩
end L2
namespace Tw
open PySem PySem.Spec PyProof.Rows L2
open PySem.W (InstAt looks_findIn looks_subIn ifBound_K cmp_K)
section
variable {X : Cx} {CX : CXT} {k : Nat} {f C D : Addr} {fd : FuncData} {ps : List Str} {sp : Sp} {E : XK}
/-- != where the other one is an object of another class -/
def rNeD (C D : Addr) (sp : Sp) (E : XK) : R2 := fun x y H Q =>
  ∃ a dx fs b dy gs, x = .ref a ∧ H a = some (.ins C dx fs) ∧ y = .ref b ∧ H b = some (.ins D dy gs) ∧ sp [.ref a, y] H (fun v H' => ∃ r, v = .bl r ∧ Q (.bl (!r)) H') E
theorem op_ne_two (c : EqC X.K C f) (hd : PySem.W.notFirst X.K C (.ref D) = true) (F : FnOk X.prog X.w X.K X.mg X.base CX k f fd ps sp) (hr : Room (k + 1) X.A) (hb : Binds X.K fd ps []) (hx : Passes CX X E) : OpR X (compareOp .NotEq) (rNeD C D sp E) := by
  intro pins s σ H x y v u Q I rx ry ⟨a, dx, fs, b, dy, gs, ex, ha, ey, hb2, q⟩
  subst ex
  subst ey
  obtain rfl : v = Value.ref a := rx
  obtain rfl : u = Value.ref b := ry
  obtain ⟨mA, O, rr, _, _, _⟩ := ins_get I.hok ha
  obtain ⟨od, J, hl⟩ := O.look
  obtain ⟨mB, OB, rrB, _, _, _⟩ := ins_get I.hok hb2
  obtain ⟨odB, JB, hlB⟩ := OB.look
  obtain ⟨m0, hF⟩ := I.fr
  show wpAny _ _ (richCompare .NotEq (.ref a) (.ref b)) _ _ _
  refine ne_K (Room.units0 hr.in1) hr.units0 hF I.ok.mod.kin J JB.type hd c (thn (run_sub F (Sub.in1 ⟨hr, rfl⟩) hb hx I (.cons (relR a) (.cons (relR b) .nil)) q) fun r s' ⟨z, H', I', rz, b2, ez, q'⟩ => ?_)
  subst ez
  exact ⟨b2, rz, _, H', I', relB (!b2), q'⟩
end
end Tw

set_option Elab.async false
set_option linter.all false
set_option maxRecDepth 100000
set_option maxHeartbeats 2000000
/-! own rules: xs.count(k), t.count(k) (whole numbers); sum(d.values()) -/
namespace L2
open PySem PySem.Spec PyProof.Rows L2
theorem plain_ints : ∀ ns : List Int, PyData.plainAll (ns.map PyData.int) = true
  | [] => rfl
  | n :: ns => by
    simp only [List.map_cons, PyData.plainAll, plain_ints ns]
    rfl
theorem count_ints (k : Int) : ∀ ns : List Int, (ns.map PyData.int).countP (fun y => PyData.eqv y (.int k)) = ns.count k
  | [] => rfl
  | n :: ns => by
    rw [List.map_cons, List.countP_cons, count_ints k ns, List.count_cons]
    have e : PyData.eqv (.int n) (.int k) = (n == k) := rfl
    rw [e]
theorem dpAll_ints (K : PySem.W.Frag) (H : Hp) : ∀ ns : List Int, DpAll K H (ns.map V.int) (ns.map PyData.int)
  | [] => .nil
  | n :: ns => .cons (.int n) (dpAll_ints K H ns)
section
variable {X : Cx}
def rCountL (K : PySem.W.Frag) : V → List V → Hp → VK → Prop := fun x vs H Q => ∃ (a : Addr) (ns : List Int) (k : Int), x = .ref a ∧ vs = [.int k] ∧ SqL K H a (ns.map V.int) ∧ Q (.int (ns.count k : Nat)) H
def rCountT (K : PySem.W.Frag) : V → List V → Hp → VK → Prop := fun x vs H Q => ∃ (a : Addr) (ns : List Int) (k : Int), x = .ref a ∧ vs = [.int k] ∧ SqT K H a (ns.map V.int) ∧ Q (.int (ns.count k : Nat)) H
theorem mt_countL (hu : X.A.units + 65 < cLine) : MtR X "list.count" (rCountL X.K) := by
  intro pins s σ H x xs v us Q I rx rxs h
  obtain ⟨a, ns, k, rfl, rfl, hl, q⟩ := h
  cases rx
  cases rxs with
  | cons ry rt =>
    rename_i uy ut
    cases rt
    obtain ⟨its, rv, pl, hlen⟩ := I.list hl
    obtain ⟨as, h4⟩ := Dp.readsAll I (ns.map PyData.int) _ its (dpAll_ints _ _ ns) rv
    obtain ⟨bs, r1⟩ := Dp.reads I (.int k) _ uy (.int k) ry
    refine PySem.SeqAt.count_list_data (xs := ns.map PyData.int) (d := .int k) pl.isList h4 r1 (plain_ints ns) rfl (Nat.lt_of_le_of_lt (Nat.add_le_add_left (Nat.min_le_right _ _) _) (by simp only [PyData.depth]; omega)) ?_
    rw [count_ints]
    exact ⟨.int _, H, I.tok _, ⟨_, rfl⟩, q⟩
theorem mt_countT (hu : X.A.units + 65 < cLine) : MtR X "tuple.count" (rCountT X.K) := by
  intro pins s σ H x xs v us Q I rx rxs h
  obtain ⟨a, ns, k, rfl, rfl, hl, q⟩ := h
  cases rx
  cases rxs with
  | cons ry rt =>
    rename_i uy ut
    cases rt
    obtain ⟨its, rv, pl, hlen⟩ := I.tuple hl
    obtain ⟨as, h4⟩ := Dp.readsAll I (ns.map PyData.int) _ its (dpAll_ints _ _ ns) rv
    obtain ⟨bs, r1⟩ := Dp.reads I (.int k) _ uy (.int k) ry
    refine PySem.SeqAt.count_tuple_data (xs := ns.map PyData.int) (d := .int k) pl h4 r1 (plain_ints ns) rfl (Nat.lt_of_le_of_lt (Nat.add_le_add_left (Nat.min_le_right _ _) _) (by simp only [PyData.depth]; omega)) ?_
    rw [count_ints]
    exact ⟨.int _, H, I.tok _, ⟨_, rfl⟩, q⟩
theorem preSum_list : ∀ (is : List Int) (n : Nat), preSum (fun i => is.getD i 0) n = (is.take n).sum := by
  intro is n
  induction n with
  | zero => rfl
  | succ n ih =>
    rw [preSum, ih]
    by_cases h : n < is.length
    · rw [← List.take_append_getElem h, List.sum_append, List.getD_eq_getElem?_getD, List.getElem?_eq_getElem h]
      simp
    · rw [List.take_of_length_le (by omega), List.take_of_length_le (by omega), List.getD_eq_getElem?_getD, List.getElem?_eq_none (by omega)]
      simp
/-- sum(o.values()), a dict with int values -/
def tSumVals (td : TE) : TE := fun σ H Q => td σ H fun x H1 => ∃ (a : Addr) (kvs : List (Key × V)) (is : List Int), x = V.ref a ∧ H1 a = some (.dK kvs) ∧ kvs.map (·.2) = is.map V.int ∧ Q (.int is.sum) H1
variable {o : Expr} {p pos apos mpos : Pos} {td : TE}
theorem pe_sumVals (hc : X.calm = true) (hg : Gl X "sum") (hm : X.mg "sum" = none) (hd : PE X o td) (hbase : attributeBase o "values" X.env (eval o X.env) = eval o X.env := by rfl) (hline : (apos.endLine == mpos.line) = true := by rfl)
    (hse : starEach [Expr.Call (.Attribute o "values" apos) [] [] mpos] X.env = [(false, eval (Expr.Call (.Attribute o "values" apos) [] [] mpos) X.env)] := by rfl) :
    PE X (.Call (.Name "sum" p) [.Call (.Attribute o "values" apos) [] [] mpos] [] pos) (tSumVals td) := by
  refine ⟨fun pins s σ H Q I h => ?_⟩
  refine wpAny_Call_Name_kw (ld_blt I hg hm (u := .builtin "sum") (by first | rfl | decide +kernel) ?_ (by first | decide +kernel | decide) (by first | decide +kernel | decide))
  rw [hse]
  refine PySem.callWith_builtin1 (wpAny_Call_method0_late hbase hline (thn (hd.run pins s σ H _ I h) fun v s1 ⟨x, H1, I1, r1, a, kvs, is, ex, ha, hv, q⟩ => ?_))
  subst ex
  obtain rfl : v = Value.ref a := r1
  obtain ⟨_, hsys, vs, rel, dof⟩ := dk_of I1.hok ha
  obtain ⟨ep, dat⟩ := dof.dictAt
  have dat' := dat
  obtain ⟨ob, es, ho, ex, hdat, hko, hpr, hnd⟩ := dat'
  refine ⟨"dict", "dict.values", F.plainAttrs_dict, F.slot_dict_values, F.type_dict_values, ⟨ob, ho, ex.1⟩, fun b e => ?_, Calls.callWith_builtin rfl (PySem.evalArgs_none ?_)⟩
  · cases e
    exact ⟨ob, ho, ex.2.1⟩
  refine call_meetsIn F.slot_dict_values ⟨ob, ho, ex.1⟩ F.entry_dict_values (F.args_dict_values_1 _) (meets_dict_values (mixKind X.prog X.w) a hsys) ⟨⟨vs, dof⟩, ?_⟩
  have k1 : ∀ b u, s1.heap.get? b = some u → (s1.heap.push { cls := .type "dict_values", data := .fields #[.ref a] }).get? b = some u := fun b u e => Heap.get?_push_of_some _ e
  have dat1 : (s1.heap.push { cls := .type "dict_values", data := .fields #[.ref a] }).DictAt (mixKind X.prog X.w) a vs ep := dat.keep k1
  have hlv : vs.length = is.length := by
    have e1 := congrArg List.length hv
    rw [List.length_map, List.length_map] at e1
    rw [← e1]
    exact (KV.length rel).symm
  have hval : ∀ (i : Nat) (v : Value), (∃ k, vs[i]? = some (k, v)) → ∃ t, v = Value.int (is.getD i 0) t := fun i v ⟨k, hk⟩ => by
    obtain ⟨x, h1, h2⟩ := KV.at' rel hk
    have e1 : (kvs.map (·.2))[i]? = some x := by rw [List.getElem?_map, h1] <;> rfl
    rw [hv, List.getElem?_map] at e1
    obtain ⟨j, hj, e2⟩ := Option.map_eq_some_iff.mp e1
    subst e2
    obtain ⟨t, e3⟩ := h2
    refine ⟨t, ?_⟩
    rw [e3, List.getD_eq_getElem?_getD, hj] <;> rfl
  refine call_sum_walkG (wpAny_pyIter_values (v := s1.heap.objs.size) (d := a) ⟨_, Heap.get?_push_size _ rfl, rfl, rfl⟩ dat1 ?_)
  have hlt : a < s1.heap.objs.size := Heap.lt_size ho
  have hsz : (s1.heap.push { cls := .type "dict_values", data := .fields #[.ref a] }).objs.size = s1.heap.objs.size + 1 := Heap.size_push _ _
  refine ⟨_, _, _, _, _, _, fun i => is.getD i 0, rfl, Walks.dictValues (knd := mixKind X.prog X.w) (A := X.A.in1) (I.ok.hd hc) (s1.heap.push { cls := .type "dict_values", data := .fields #[.ref a] }).objs.size a (by rw [hsz]; exact Nat.ne_of_lt (Nat.lt_succ_of_lt hlt)) vs ep,
    ⟨⟨_, Heap.get?_push_size _ rfl, rfl, rfl⟩, dat1.keep fun b u e => Heap.get?_push_of_some _ e⟩, fun b hb => ?_, hval, fun h' tk t' hk => ?_⟩
  · show b < ((s1.heap.push _).push _).objs.size
    rw [Heap.size_push, Heap.size_push]
    rw [hsz] at hb
    rcases List.mem_cons.mp hb with e | hb
    · rw [e]
      exact Nat.lt_succ_self _
    · have e : b = a := List.mem_singleton.mp hb
      rw [e]
      exact Nat.lt_succ_of_lt (Nat.lt_succ_of_lt hlt)
  · rw [preSum_list, hlv, List.take_length]
    refine ⟨.int _, H1, I1.kept (t' := tk) fun b u e => hk b u (fun hmem => ?_) (Heap.get?_push_of_some _ (k1 b u e)), ⟨t', rfl⟩, q⟩
    have e1 : b = (s1.heap.push { cls := .type "dict_values", data := .fields #[.ref a] }).objs.size := List.mem_singleton.mp hmem
    have e2 := Heap.lt_size e
    rw [hsz] at e1
    rw [e1] at e2
    exact absurd e2 (Nat.not_lt.mpr (Nat.le_succ _))
end
/-- a dict by a comprehension, over any walk -/
theorem dc_it {J : It} {n : Nat} {G : Hp → Prop} {Y : Nat → Hp → V → Hp → Prop} (w : Walk J n G Y) {g : TG} {tt : TT} {tk tv : TE} {vs : List Nat} {σ : St} {H1 : Hp} {D : Addr} {Qd : Hp → Prop} (Pv : Nat → Hp → Prop) (h0 : Pv 0 (upd H1 D (.dK []))) (hG : ∀ i H, i ≤ n → Pv i H → G H)
    (hs : ∀ i x H H', i < n → Pv i H → Y i H x H' → g x (wipe σ vs) H' fun σ2 H2 => wipe σ2 vs = wipe σ vs ∧ tt σ2 H2 fun b H3 =>
      if b = true then tk σ2 H3 fun y H4 => tv σ2 H4 fun z H5 => ∃ kvs k, y = kV k ∧ H5 D = some (.dK kvs) ∧ kvs.length < sizeLine ∧ Pv (i + 1) (upd H5 D (.dK (putK kvs k z))) else Pv (i + 1) H3) (hd : ∀ H, Pv n H → Qd H) :
    ∃ W : Nat → Nat → Hp → Prop, (∃ m, W 0 m (upd H1 D (.dK []))) ∧ ∀ i m H, W i m H →
      (J.stop i H ∧ Qd H) ∨ (J.go i H ∧ ∃ Nx : Hp → Prop, (∀ H', Nx H' → ∃ m', m' < m ∧ W (i + 1) m' H') ∧ ∀ x H', J.yld i H x H' → g x (wipe σ vs) H' fun σ2 H2 => wipe σ2 vs = wipe σ vs ∧ tt σ2 H2 fun b H3 =>
        if b = true then tk σ2 H3 fun y H4 => tv σ2 H4 fun z H5 => ∃ kvs k, y = kV k ∧ H5 D = some (.dK kvs) ∧ kvs.length < sizeLine ∧ Nx (upd H5 D (.dK (putK kvs k z))) else Nx H3) := by
  refine ⟨fun i m H => m = n - i ∧ i ≤ n ∧ Pv i H, ⟨n, by simp, Nat.zero_le _, h0⟩, ?_⟩
  rintro i m H ⟨rfl, hi, p⟩
  have q := hG i H hi p
  by_cases hlt : i < n
  · refine .inr ⟨w.goes i H hlt q, Pv (i + 1), fun H' p' => ⟨n - (i + 1), by omega, rfl, hlt, p'⟩, fun x H' y => hs i x H H' hlt p (w.yields i H x H' hlt q y)⟩
  · have e : i = n := by omega
    subst e
    exact .inl ⟨w.stops H q, hd H p⟩
/-- what stays while a thing is locked stays behind -/
theorem same_lock {H H' : Hp} {d : Addr} {u v : HO} (h : H d = some u) (s : Same (upd H d v) H') : Same H (upd H' d u) := fun b o e => by
  by_cases hb : b = d
  · subst hb
    rw [upd_same, ← h, e]
  · rw [upd_ne hb]
    exact s b o (by rw [upd_ne hb]; exact e)
theorem ite_b {b c : Bool} {A B : Prop} (h : b = c) (k : if c = true then A else B) : if b = true then A else B := h ▸ k
/-- set(xs), xs a list or a tuple of whole numbers -/
def rSetSq (K : PySem.W.Frag) (w : World) : List V → Hp → VK → Prop := fun xs H Q => ∃ (l : Addr) (ns : List Int), xs = [V.ref l] ∧ (SqL K H l (ns.map V.int) ∨ SqT K H l (ns.map V.int)) ∧ ns.length ≤ 1000 ∧ ∀ p n, n ≤ ns.length → H p = none → Q (.ref p) (upd H p (SetO w p (fun j => decide (j ∈ ns)) n))
theorem cr_setSq {X : Cx} (hc : X.calm = true) : CallR X (.type "set") (rSetSq X.K X.w) := by
  intro pins s σ H vs us Q I rv ⟨l, ns, e, h, hl, q⟩
  rcases h with h | h
  · exact cr_setLI hc pins s σ H vs us Q I rv ⟨l, ns, e, h, hl, q⟩
  · exact cr_setTI hc pins s σ H vs us Q I rv ⟨l, ns, e, h, hl, q⟩
end L2

set_option Elab.async false
set_option linter.all false
set_option maxRecDepth 100000
set_option maxHeartbeats 2000000
/-! own rules: tuples of which it is known that they have no dict of their own: their methods -/
namespace L2
open PySem PySem.Spec PyProof.Rows L2
/-- a tuple that was made by tuple(..), with the object that it is -/
def TupF (H : Hp) (a : Addr) (xs : List V) : Prop := ∃ o : Obj, H a = some (.frz o (.tup xs)) ∧ o.dict = none
theorem TupF.same {H H' : Hp} {a : Addr} {xs : List V} (h : TupF H a xs) (s : Same H H') : TupF H' a xs := let ⟨o, e, d⟩ := h; ⟨o, s _ _ e, d⟩
theorem TupF.sq {K : PySem.W.Frag} {H : Hp} {a : Addr} {xs : List V} (h : TupF H a xs) : SqT K H a xs := let ⟨o, e, _⟩ := h; .inl (.inr ⟨o, e⟩)
section
variable {X : Cx}
/-- tuple(xs) of a list; of such a tuple itself -/
def rTupF (K : PySem.W.Frag) : List V → Hp → VK → Prop := fun xs H Q => ∃ p ys, xs = [V.ref p] ∧ ((SqL K H p ys ∧ ∀ l o, H l = none → o.dict = none → Q (.ref l) (upd H l (.frz o (.tup ys)))) ∨ (SqT K H p ys ∧ Q (.ref p) H))
theorem call_tupF : CallR X (.type "tuple") (rTupF X.K) := by
  intro pins s σ H xs us Q I r h
  obtain ⟨p, ys, rfl, h⟩ := h
  rcases h with ⟨hq, q⟩ | ⟨hq, q⟩
  · obtain ⟨u, rfl, rx⟩ := vals1 r
    cases rx
    obtain ⟨its, r', pl, hz⟩ := I.list hq
    have hlen := r'.length
    refine call_tuple_list pl.isList (fun h' kp => ?_) (by simp only [List.size_toArray] <;> omega)
    have I1 : Inv X pins σ H { s with heap := h' } := I.kept (t' := s.toks) kp
    have I2 : Inv X pins σ (upd H h'.objs.size (.frz { cls := .type "tuple", data := .seq its.toArray } (.tup ys))) { s with heap := h'.push { cls := .type "tuple", data := .seq its.toArray } } :=
      I1.laid (t' := s.toks) (fun b o e => Heap.get?_push_of_some _ e) (Nat.le_refl _) (show ObjOk X.prog X.w _ _ _ (.frz _ (.tup ys)) from ⟨Heap.get?_push_size _ rfl, hz, its, r', IsTup.new _ _⟩)
    exact ⟨.ref h'.objs.size, _, I2, rfl, q _ _ (I1.hok.fresh (Nat.le_refl _)) rfl⟩
  · exact call_tuple_of pins s σ H _ us Q I r ⟨p, ys, rfl, .inr ⟨hq, q⟩⟩
def tBMF (r : V → List V → Hp → VK → Prop) (to : TE) (t : TA) : TE := fun σ H Q => to σ H fun x H1 => (∃ a xs, x = .ref a ∧ TupF H1 a xs) ∧ t σ H1 fun xs H2 => r x xs H2 Q
variable {o e : Expr} {es : List Expr} {to : TE} {t : TA} {name : Str} {apos cpos : Pos} {T id : String} {r : V → List V → Hp → VK → Prop}
theorem pe_bmF (slot : Slot "tuple" name id) (hty : typeOf (.builtin id) = pure (.type "method_descriptor")) (hm : MtR X id r) (ho : PE X o to) (ha : PA X (e :: es) t)
    (hbase : attributeBase o name X.env (eval o X.env) = eval o X.env := by rfl)
    (hfew : ((backTo cpos (starEach (e :: es) X.env)).all (fun x => !x.1) && (backToKw cpos (keywordEach [] X.env)).all (fun x => x.1.isSome)
      && decide ((e :: es).length + ([] : List Keyword).length + (if ([] : List Keyword).isEmpty then 0 else 1) < 30)) = true := by rfl)
    (hline : (apos.endLine == cpos.line) = true := by rfl) (hs : starEach (e :: es) X.env = (false, eval e X.env) :: starEach es X.env := by rfl) (hplain : (backTo cpos (starEach es X.env)).any (·.1) = false := by rfl) :
    PE X (.Call (.Attribute o name apos) (e :: es) [] cpos) (tBMF r to t) := by
  refine ⟨fun pins s σ H Q I h => ?_⟩
  refine wpAny_Call_method_late hbase hfew hline rfl (thn (ho.run pins s σ H _ I h) fun v s1 ⟨x, H1, I1, r1, ty, q1⟩ => ?_)
  obtain ⟨a, xs, rfl, oo, ho2, hd⟩ := ty
  cases r1
  obtain ⟨g1, g2⟩ := I1.hok a _ ho2
  obtain ⟨hz, its, rv, hit⟩ := g2
  obtain ⟨o2, e2, hc, n2, hdat⟩ := hit
  rw [g1] at e2
  cases e2
  refine ⟨"tuple", id, F.plainAttrs_tuple, slot, hty, ⟨_, g1, hc⟩, fun b eb => ?_, ?_⟩
  · cases eb
    exact ⟨_, g1, hd⟩
  have hA := ha.run cpos pins s1 σ H1 _ I1 q1
  rw [hs] at hA ⊢
  refine Calls.callWith_builtin (by show (false || (backTo cpos (starEach es X.env)).any (·.1)) = false; rw [hplain] <;> rfl) (Calls.evalArgs_plain ?_)
  exact thn hA fun us s2 ⟨vs, H2, I2, r2, q2⟩ => hm pins s2 σ H2 (.ref a) vs _ us Q I2 (show RelV (.ref a) (Value.ref a) from rfl) r2 q2
theorem lay_ints : ∀ ns : List Int, PyData.canLayAll0 (ns.map PyData.int) = true
  | [] => rfl
  | n :: ns => by
    rw [List.map_cons, PyData.canLayAll0, lay_ints ns]
    rfl
/-- t.index(k), whole numbers, k there -/
def rIndexT (K : PySem.W.Frag) : V → List V → Hp → VK → Prop := fun x vs H Q => ∃ (a : Addr) (ns : List Int) (k : Int) (j : Nat), x = .ref a ∧ vs = [.int k] ∧ SqT K H a (ns.map V.int) ∧ ns[j]? = some k ∧ (∀ m, m < j → ns[m]? ≠ some k) ∧ Q (.int (j : Nat)) H
theorem mt_indexTI (hu : X.A.units + 65 < cLine) : MtR X "tuple.index" (rIndexT X.K) := by
  intro pins s σ H x xs v us Q I rx rxs h
  obtain ⟨a, ns, k, j, rfl, rfl, hl, hj, hno, q⟩ := h
  cases rx
  cases rxs with
  | cons ry rt =>
    rename_i uy ut
    cases rt
    obtain ⟨its, rv, pl, hlen⟩ := I.tuple hl
    obtain ⟨as, h4⟩ := Dp.readsAll I (ns.map PyData.int) _ its (dpAll_ints _ _ ns) rv
    obtain ⟨bs, r1⟩ := Dp.reads I (.int k) _ uy (.int k) ry
    have hjl := (List.getElem?_eq_some_iff.mp hj).1
    have hvl := rv.length
    rw [List.length_map] at hvl hlen
    obtain ⟨⟨cls, dd, data, sl⟩, ho, hc, n, hd'⟩ := id pl
    simp only at hc hd'
    subst hc hd'
    have hxs : PyData.canLayAll0 (ns.map PyData.int) = true := lay_ints ns
    have hmap : its.map (SeqAt.readOf s.heap) = ns.map PyData.int := SeqAt.readsAll_map _ its as hxs h4
    have at_ : ∀ (m : Nat) (hm : m < its.toArray.size) (z : Int), ns[m]? = some z → SeqAt.readOf s.heap its.toArray[m] = .int z := by
      intro m hm z hz
      have hml : m < its.length := by simpa using hm
      have e1 : (its.map (SeqAt.readOf s.heap))[m]? = some (.int z) := by rw [hmap, List.getElem?_map, hz]; rfl
      rw [List.getElem?_map, List.getElem?_eq_getElem hml] at e1
      have e2 : SeqAt.readOf s.heap its[m] = .int z := Option.some.inj e1
      simpa using e2
    have hj2 : j < its.toArray.size := by simp only [List.size_toArray]; omega
    refine call_meets F.slot_tuple_index ⟨_, ho, rfl⟩ F.entry_tuple_index (F.args_tuple_index_2 _ _)
      (TI.tuple_indexAt a its.toArray n dd sl uy (fun u => PyData.eqv (SeqAt.readOf s.heap u) (.int k)) j hj2 ?_ ?_) ⟨ho, SeqAt.items_eqAt (vs := its.toArray) (show ReadsAll s.heap its.toArray.toList (ns.map PyData.int) as from h4) r1 hxs rfl (Nat.lt_of_le_of_lt (Nat.add_le_add_left (Nat.min_le_right _ _) _) (by simp only [PyData.depth]; omega)), ?_⟩
    · show PyData.eqv (SeqAt.readOf s.heap its.toArray[j]) (.int k) = true
      rw [at_ j hj2 k hj]
      show (k == k) = true
      exact beq_self_eq_true k
    · intro m hm hmj
      have hmn : m < ns.length := by simp only [List.size_toArray] at hm; omega
      have hz : ns[m]? = some ns[m] := List.getElem?_eq_getElem hmn
      show PyData.eqv (SeqAt.readOf s.heap its.toArray[m]) (.int k) = false
      rw [at_ m hm _ hz]
      show (ns[m] == k) = false
      exact beq_eq_false_iff_ne.mpr fun z => hno m hmj (by rw [hz, z])
    · exact ⟨.int (j : Nat), H, I.tok _, ⟨_, rfl⟩, q⟩
/-- x.count(y), two names, x a list or a known tuple of whole numbers -/
def tCnt (K : PySem.W.Frag) (i j : Nat) : TE := fun σ H Q => ∃ (a : Addr) (ns : List Int) (k : Int), σ[i]? = some (some (.ref a)) ∧ σ[j]? = some (some (.int k)) ∧ (SqL K H a (ns.map V.int) ∨ TupF H a (ns.map V.int)) ∧ Q (.int (ns.count k : Nat)) H
theorem pe_cnt {e : Expr} {i j : Nat} (h1 : PE X e (tBM X.K "list" (rCountL X.K) (tVar i) (tCons (tVar j) tNil))) (h2 : PE X e (tBMF (rCountT X.K) (tVar i) (tCons (tVar j) tNil))) : PE X e (tCnt X.K i j) := by
  refine ⟨fun pins s σ H Q I h => ?_⟩
  obtain ⟨a, ns, k, e1, e2, h, q⟩ := h
  rcases h with h | h
  · exact h1.run pins s σ H Q I ⟨_, e1, .inl ⟨rfl, _, h⟩, _, e2, a, ns, k, rfl, rfl, h, q⟩
  · exact h2.run pins s σ H Q I ⟨_, e1, ⟨a, _, rfl, h⟩, _, e2, a, ns, k, rfl, rfl, h.sq, q⟩
end
/-- two promises of one def -/
theorem FnOk.or {P : Program} {w : World} {K : PySem.W.Frag} {mg : Str → Option Value} {base : Heap} {CX : CXT} {k : Nat} {f : Addr} {fd : FuncData} {ps : List Str} {s1 s2 : Sp} (F1 : FnOk P w K mg base CX k f fd ps s1) (F2 : FnOk P w K mg base CX k f fd ps s2) :
    FnOk P w K mg base CX k f fd ps (fun vs H Q E => s1 vs H Q E ∨ s2 vs H Q E) := by
  refine ⟨fun vs H Q E h => h.elim (F1.len vs H Q E) (F2.len vs H Q E), ?_⟩
  intro A outer s H args us vs Q E hr e b
  have h1 := F1.run A outer s H args us vs Q E hr e b
  have h2 := F2.run A outer s H args us vs Q E hr e b
  intros
  first
    | (rename_i h; exact h.elim (fun z => h1 (by assumption) z) (fun z => h2 (by assumption) z))
    | (rename_i h; exact h.elim h1 h2)
end L2

set_option Elab.async false
set_option linter.all false
set_option maxRecDepth 100000
set_option maxHeartbeats 2000000
/-! own rules: tuple(xs), xs a list or a tuple, in one reading -/
namespace L2
open PySem PySem.Spec PyProof.Rows L2
def rTupU : List V → Hp → VK → Prop := fun xs H Q => ∃ p ys, xs = [V.ref p] ∧ (H p = some (.lst ys) ∨ H p = some (.tup ys)) ∧ ∀ t H', Same H H' → H' t = some (.tup ys) → Q (.ref t) H'
theorem call_tupU {X : Cx} : CallR X (.type "tuple") rTupU := by
  intro pins s σ H xs us Q I r ⟨p, ys, e, h, q⟩
  rcases h with h | h
  · exact call_tuple_of pins s σ H xs us Q I r ⟨p, ys, e, .inl ⟨SqL.of h, fun l nl => q l _ (fun b o e => by rw [upd_ne (ne_of_none e nl)]; exact e) upd_same⟩⟩
  · exact call_tuple_of pins s σ H xs us Q I r ⟨p, ys, e, .inr ⟨SqT.of h, q p H (Same.refl _) h⟩⟩
def rCatU : R2 := fun x y H Q => ∃ a b xs ys, x = .ref a ∧ y = .ref b ∧ H a = some (.tup xs) ∧ H b = some (.tup ys) ∧ xs.length + ys.length ≤ sizeLine ∧ ∀ t H', Same H H' → H' t = some (.tup (xs ++ ys)) → Q (.ref t) H'
theorem op_catU {X : Cx} : OpR X (binaryOp .Add) rCatU := by
  intro pins s σ H x y v u Q I rx ry h
  obtain ⟨a, b, xs, ys, ex, ey, ha, hb, hz, q⟩ := h
  refine op_catA pins s σ H x y v u Q I rx ry ⟨a, b, xs, ys, ex, ey, SqT.of ha, SqT.of hb, hz, fun e => ?_, fun _ e => ?_, fun _ _ p np => q p _ (fun b o e => by rw [upd_ne (ne_of_none e np)]; exact e) upd_same⟩
  · exact q b H (fun _ _ e => e) (by rw [e]; exact hb)
  · exact q a H (fun _ _ e => e) (by rw [e, List.append_nil]; exact ha)
def rSlU : V → Option Int → Option Int → Hp → VK → Prop := fun x lo hi H Q => ∃ a xs, x = .ref a ∧ H a = some (.tup xs) ∧ ∀ (p : Addr) (H' : Hp), Same H H' → H' p = some (.tup (cutV xs lo hi)) → Q (.ref p) H'
theorem sl_tupU {X : Cx} : SlR X rSlU := by
  intro pins s σ H x v vl vu lo hi sl Q I rx hs pl pu h
  obtain ⟨a, xs, ex, hx, q⟩ := h
  refine sl_tupA pins s σ H x v vl vu lo hi sl Q I rx hs pl pu ⟨a, xs, ex, SqT.of hx, fun y => ?_, fun _ p np => q p _ (fun b o e => by rw [upd_ne (ne_of_none e np)]; exact e) upd_same⟩
  refine q a H (fun _ _ e => e) ?_
  have : cutV xs lo hi = xs := by
    unfold cutV
    rw [y.1, y.2, List.drop_zero, Nat.sub_zero, List.take_length]
  rw [this]
  exact hx
end L2
namespace Tw
open PySem PySem.Spec PyProof.Rows L2 PySem.W
section
variable {X : Cx} {CX : CXT} {k : Nat} {f C D : Addr} {fd : FuncData} {ps : List Str} {sp : Sp} {E : XK}
theorem op_eq_two (c : EqC X.K C f) (hd : PySem.W.notFirst X.K C (.ref D) = true) (F : FnOk X.prog X.w X.K X.mg X.base CX k f fd ps sp) (hr : Room k X.A) (hb : Binds X.K fd ps []) (hx : Passes CX X E) : OpR X (compareOp .Eq) (fun x y H Q =>
  ∃ a dx fs b dy gs, x = .ref a ∧ H a = some (.ins C dx fs) ∧ y = .ref b ∧ H b = some (.ins D dy gs) ∧ sp [.ref a, y] H (fun v H' => ∃ r, v = .bl r ∧ Q (.bl r) H') E) := by
  intro pins s σ H x y v u Q I rx ry ⟨a, dx, fs, b, dy, gs, ex, ha, ey, hb2, q⟩
  subst ex
  subst ey
  obtain rfl : v = Value.ref a := rx
  obtain rfl : u = Value.ref b := ry
  obtain ⟨mA, O, rr, _, _, _⟩ := ins_get I.hok ha
  obtain ⟨od, J, hl⟩ := O.look
  obtain ⟨mB, OB, rrB, _, _, _⟩ := ins_get I.hok hb2
  obtain ⟨odB, JB, hlB⟩ := OB.look
  obtain ⟨m0, hF⟩ := I.fr
  show wpAny _ _ (richCompare .Eq (.ref a) (.ref b)) _ _ _
  refine cmp_K hr.units0 hF I.ok.mod.kin J JB.type hd c.eq c.fn (thn (run_sub F ⟨hr, rfl⟩ hb hx I (.cons (relR a) (.cons (relR b) .nil)) q) fun r s' ⟨z, H', I', rz, b2, ez, q'⟩ => ?_)
  subst ez
  obtain rfl : r = Value.bool b2 := rz
  exact ⟨_, H', I', relB b2, q'⟩
end
end Tw

set_option Elab.async false
set_option linter.all false
set_option maxRecDepth 100000
set_option maxHeartbeats 2000000
/-! own rule: C() of a class that has no __init__ of its own -/
namespace L2
open PySem PySem.Spec PyProof.Rows PySem.W L2
structure MkO (K : PySem.W.Frag) (C : Addr) : Prop where
  makes : PySem.W.makesIn K C = true
  init : PySem.W.findIn K (.ref C) "__init__" = some (some (.builtin "object.__init__"))
  top : PySem.W.mroIn K C (.type "object") = some true
  kp : PySem.W.keepIn K (.ref C) = true
def tMakeO (C : Addr) : TE := fun σ H Q => ∀ x dx, H x = none → H dx = none → dx ≠ x → Q (.ref x) (upd (upd H dx (.own x)) x (.ins C dx []))
section
variable {X : Cx} {C : Addr} {x : Str} {p pos : Pos}
theorem run_makeO {pins : List (Addr × Obj)} {σ : St} {H : Hp} {s : Shared} {Q : VK} (M : MkO X.K C) (I : Inv X pins σ H s)
    (h : ∀ x dx, H x = none → H dx = none → dx ≠ x → Q (.ref x) (upd (upd H dx (.own x)) x (.ins C dx []))) :
    wpAny (model X.prog X.w) X.A (call (.ref C) []) (EP X pins σ Q) X.xe s := by
  have hq := h (s.heap.objs.size + 1) s.heap.objs.size (I.hok.fresh (Nat.le_succ _)) (I.hok.fresh (Nat.le_refl _)) (Nat.ne_of_lt (Nat.lt_succ_self _))
  have I2 := Inv.made (C := C) I
  refine wpAny_call (make_map0 I.kIn M.makes M.init (fun self => Looks.of_pure (oi_bind _)) ?_)
  have ho : ((s.heap.push PySem.W.emptyDict).push (PySem.W.instObj C s.heap.objs.size)).get? (s.heap.objs.size + 1) = some (PySem.W.instObj C s.heap.objs.size) := by
    have e := Heap.get?_push_size (s.heap.push PySem.W.emptyDict) (o := PySem.W.instObj C s.heap.objs.size) rfl
    rw [Heap.size_push] at e
    exact e
  have t1 : Looks (model X.prog X.w) ((s.heap.push PySem.W.emptyDict).push (PySem.W.instObj C s.heap.objs.size)) (typeOf (.ref (s.heap.objs.size + 1))) (.ref C) := NwA.type_at ho rfl
  have t2 : Looks (model X.prog X.w) ((s.heap.push PySem.W.emptyDict).push (PySem.W.instObj C s.heap.objs.size)) (isInstance (.ref (s.heap.objs.size + 1)) (.type "object")) true := t1.andThen (looks_mroIn I2.kIn M.top)
  refine codeAny_call_builtin oi_plain entry_oi (@check_slot (model X.prog X.w) _ _ _ "object.__init__" "object" "__init__" (.ref (s.heap.objs.size + 1)) [] [] _ oi_kind oi_split t2 (NwA.oi_args_any _ [] []) ?_)
  rw [oi_run]
  refine wpAny_pure ?_
  exact ⟨rfl, V.ref _, _, I2, rfl, hq⟩
theorem pe_makeO (M : MkO X.K C) (hg : Gl X x) (hm : X.mg x = some (.ref C)) (hdb : (x == ("__debug__" : Str)) = false := by decide) : PE X (.Call (.Name x p) [] [] pos) (tMakeO C) := by
  refine ⟨fun pins s σ H Q I h => ?_⟩
  refine wpAny_Call_Name_kw (ld_glob I hg hm ?_ hdb)
  exact PySem.W.callWith_K0 I.kIn M.kp (run_makeO M I h)
end
end L2

set_option Elab.async false
set_option linter.all false
set_option maxRecDepth 100000
set_option maxHeartbeats 2000000
namespace Tw
open PySem PySem.Spec PyProof.Rows L2
def topS (i : Nat) : Stmt := PySem.Challenge.pw_heaprows_k58_whole_keepers.main.body.getD i (.Pass ⟨0, 0, 0, 0⟩)
abbrev s_is_integer : Stmt := topS 18
theorem sc_is_integer : FnScope ["thing"] ["thing"] (defScope s_is_integer) := ⟨rfl, rfl, rfl, by decide +kernel, rfl, by decide +kernel, by decide +kernel⟩
abbrev s_is_integer_from : Stmt := topS 19
theorem sc_is_integer_from : FnScope ["thing", "least", "greatest"] ["thing", "least", "greatest"] (defScope s_is_integer_from) := ⟨rfl, rfl, rfl, by decide +kernel, rfl, by decide +kernel, by decide +kernel⟩
abbrev s_is_key : Stmt := topS 20
theorem sc_is_key : FnScope ["thing"] ["thing"] (defScope s_is_key) := ⟨rfl, rfl, rfl, by decide +kernel, rfl, by decide +kernel, by decide +kernel⟩
abbrev s_check_arms : Stmt := topS 21
theorem sc_check_arms : FnScope ["arms"] ["arms"] (defScope s_check_arms) := ⟨rfl, rfl, rfl, by decide +kernel, rfl, by decide +kernel, by decide +kernel⟩
abbrev s_check_many : Stmt := topS 22
theorem sc_check_many : FnScope ["many"] ["many"] (defScope s_check_many) := ⟨rfl, rfl, rfl, by decide +kernel, rfl, by decide +kernel, by decide +kernel⟩
abbrev s_check_place : Stmt := topS 23
theorem sc_check_place : FnScope ["place", "many"] ["place", "many"] (defScope s_check_place) := ⟨rfl, rfl, rfl, by decide +kernel, rfl, by decide +kernel, by decide +kernel⟩
abbrev s_check_key : Stmt := topS 24
theorem sc_check_key : FnScope ["key"] ["key"] (defScope s_check_key) := ⟨rfl, rfl, rfl, by decide +kernel, rfl, by decide +kernel, by decide +kernel⟩
abbrev s_check_room : Stmt := topS 25
theorem sc_check_room : FnScope ["room"] ["room"] (defScope s_check_room) := ⟨rfl, rfl, rfl, by decide +kernel, rfl, by decide +kernel, by decide +kernel⟩
abbrev s_row_of : Stmt := topS 26
theorem sc_row_of : FnScope ["row", "index", "key"] ["row"] (defScope s_row_of) := ⟨rfl, rfl, rfl, by decide +kernel, rfl, by decide +kernel, by decide +kernel⟩
abbrev s_t___init__ : Stmt := inClass (topS 28) 0
theorem sc_t___init__ : FnScope ["self", "many", "arms"] ["self", "many", "arms"] (defScope s_t___init__) := ⟨rfl, rfl, rfl, by decide +kernel, rfl, by decide +kernel, by decide +kernel⟩
abbrev s_t_of : Stmt := inClass (topS 28) 1
theorem sc_t_of : FnScope ["cls", "row", "arms"] ["cls", "row", "arms"] (defScope s_t_of) := ⟨rfl, rfl, rfl, by decide +kernel, rfl, by decide +kernel, by decide +kernel⟩
abbrev s_t___len__ : Stmt := inClass (topS 28) 2
theorem sc_t___len__ : FnScope ["self"] ["self"] (defScope s_t___len__) := ⟨rfl, rfl, rfl, by decide +kernel, rfl, by decide +kernel, by decide +kernel⟩
abbrev s_t___iter__ : Stmt := inClass (topS 28) 4
theorem sc_t___iter__ : FnScope ["self"] ["self"] (defScope s_t___iter__) := ⟨rfl, rfl, rfl, by decide +kernel, rfl, by decide +kernel, by decide +kernel⟩
abbrev s_t___getitem__ : Stmt := inClass (topS 28) 5
theorem sc_t___getitem__ : FnScope ["self", "place", "first"] ["self", "place"] (defScope s_t___getitem__) := ⟨rfl, rfl, rfl, by decide +kernel, rfl, by decide +kernel, by decide +kernel⟩
abbrev s_t_parent : Stmt := inClass (topS 28) 7
theorem sc_t_parent : FnScope ["self", "place"] ["self", "place"] (defScope s_t_parent) := ⟨rfl, rfl, rfl, by decide +kernel, rfl, by decide +kernel, by decide +kernel⟩
abbrev s_t_way_to : Stmt := inClass (topS 28) 8
theorem sc_t_way_to : FnScope ["self", "place", "way", "above"] ["self", "place"] (defScope s_t_way_to) := ⟨rfl, rfl, rfl, by decide +kernel, rfl, by decide +kernel, by decide +kernel⟩
abbrev s_faults : Stmt := topS 30
theorem sc_faults : FnScope ["row", "arms", "tree", "place"] ["row", "arms"] (defScope s_faults) := ⟨rfl, rfl, rfl, by decide +kernel, rfl, by decide +kernel, by decide +kernel⟩
abbrev s_heap_of : Stmt := topS 31
theorem sc_heap_of : FnScope ["row", "arms", "wrong"] ["row", "arms"] (defScope s_heap_of) := ⟨rfl, rfl, rfl, by decide +kernel, rfl, by decide +kernel, by decide +kernel⟩
abbrev s_check_filled : Stmt := topS 40
theorem sc_check_filled : FnScope ["heap"] ["heap"] (defScope s_check_filled) := ⟨rfl, rfl, rfl, by decide +kernel, rfl, by decide +kernel, by decide +kernel⟩
abbrev s_z___init__ : Stmt := inClass (topS 33) 0
theorem sc_z___init__ : FnScope ["self", "row", "way", "looks"] ["self", "row", "way", "looks"] (defScope s_z___init__) := ⟨rfl, rfl, rfl, by decide +kernel, rfl, by decide +kernel, by decide +kernel⟩
abbrev s_sift_up : Stmt := topS 34
theorem sc_sift_up : FnScope ["row", "place", "arms", "tree", "above", "keys", "way", "looks", "parent", "here"] ["row", "place", "arms"] (defScope s_sift_up) := ⟨rfl, rfl, rfl, by decide +kernel, rfl, by decide +kernel, by decide +kernel⟩
abbrev s_sift_down : Stmt := topS 35
theorem sc_sift_down : FnScope ["row", "place", "arms", "tree", "children", "keys", "way", "looks", "here", "child"] ["row", "place", "arms"] (defScope s_sift_down) := ⟨rfl, rfl, rfl, by decide +kernel, rfl, by decide +kernel, by decide +kernel⟩
abbrev s_least_child : Stmt := topS 36
theorem sc_least_child : FnScope ["keys", "children"] ["keys", "children"] (defScope s_least_child) := ⟨rfl, rfl, rfl, by decide +kernel, rfl, by decide +kernel, by decide +kernel⟩
abbrev s_push : Stmt := topS 38
theorem sc_push : FnScope ["row", "key", "arms", "heap"] ["row", "key", "arms"] (defScope s_push) := ⟨rfl, rfl, rfl, by decide +kernel, rfl, by decide +kernel, by decide +kernel⟩
abbrev s_put_for : Stmt := topS 39
theorem sc_put_for : FnScope ["row", "key", "arms", "heap"] ["row", "key", "arms"] (defScope s_put_for) := ⟨rfl, rfl, rfl, by decide +kernel, rfl, by decide +kernel, by decide +kernel⟩
abbrev s_e___init__ : Stmt := inClass (topS 42) 0
theorem sc_e___init__ : FnScope ["self", "room", "arms"] ["self", "room", "arms"] (defScope s_e___init__) := ⟨rfl, rfl, rfl, by decide +kernel, rfl, by decide +kernel, by decide +kernel⟩
abbrev s_e___len__ : Stmt := inClass (topS 42) 2
theorem sc_e___len__ : FnScope ["self"] ["self"] (defScope s_e___len__) := ⟨rfl, rfl, rfl, by decide +kernel, rfl, by decide +kernel, by decide +kernel⟩
abbrev s_e___contains__ : Stmt := inClass (topS 42) 3
theorem sc_e___contains__ : FnScope ["self", "thing"] ["self", "thing"] (defScope s_e___contains__) := ⟨rfl, rfl, rfl, by decide +kernel, rfl, by decide +kernel, by decide +kernel⟩
abbrev s_e_heap : Stmt := inClass (topS 42) 4
theorem sc_e_heap : FnScope ["self"] ["self"] (defScope s_e_heap) := ⟨rfl, rfl, rfl, by decide +kernel, rfl, by decide +kernel, by decide +kernel⟩
abbrev s_e_entered : Stmt := inClass (topS 42) 5
theorem sc_e_entered : FnScope ["self"] ["self"] (defScope s_e_entered) := ⟨rfl, rfl, rfl, by decide +kernel, rfl, by decide +kernel, by decide +kernel⟩
abbrev s_e_see : Stmt := inClass (topS 42) 6
theorem sc_e_see : FnScope ["self", "key", "gone", "sift"] ["self", "key"] (defScope s_e_see) := ⟨rfl, rfl, rfl, by decide +kernel, rfl, by decide +kernel, by decide +kernel⟩
abbrev s_e_ascending : Stmt := inClass (topS 42) 7
theorem sc_e_ascending : FnScope ["self"] ["self"] (defScope s_e_ascending) := ⟨rfl, rfl, rfl, by decide +kernel, rfl, by decide +kernel, by decide +kernel⟩
abbrev s_changes : Stmt := topS 43
theorem sc_changes : FnScope ["room", "row", "keeper", "key"] ["room", "row"] (defScope s_changes) := ⟨rfl, rfl, rfl, by decide +kernel, rfl, by decide +kernel, by decide +kernel⟩
abbrev s__law_number : Stmt := topS 45
theorem sc__law_number : FnScope ["script", "index", "cells", "cell", "low", "high", "total", "blend"] ["script", "index"] (defScope s__law_number) := ⟨rfl, rfl, rfl, by decide +kernel, rfl, by decide +kernel, by decide +kernel⟩
abbrev s__law_row : Stmt := topS 46
theorem sc__law_row : FnScope ["script", "at", "many", "span", "turn"] ["script", "at", "many", "span"] (defScope s__law_row) := ⟨rfl, rfl, rfl, by decide +kernel, rfl, by decide +kernel, by decide +kernel⟩
abbrev s__law_pushed : Stmt := topS 47
theorem sc__law_pushed : FnScope ["heap", "key", "wide", "found", "place", "upper"] ["heap", "key", "wide"] (defScope s__law_pushed) := ⟨rfl, rfl, rfl, by decide +kernel, rfl, by decide +kernel, by decide +kernel⟩
abbrev s__law_put : Stmt := topS 48
theorem sc__law_put : FnScope ["heap", "key", "wide", "found", "place", "one", "some", "least"] ["heap", "key", "wide"] (defScope s__law_put) := ⟨rfl, rfl, rfl, by decide +kernel, rfl, by decide +kernel, by decide +kernel⟩
abbrev s__law_things_right : Stmt := topS 49
theorem sc__law_things_right : FnScope ["keeper", "heap", "thing", "due", "key"] ["keeper", "heap"] (defScope s__law_things_right) := ⟨rfl, rfl, rfl, by decide +kernel, rfl, by decide +kernel, by decide +kernel⟩
abbrev s__law_right : Stmt := topS 50
theorem sc__law_right : FnScope ["room", "wide", "given", "other", "keeper", "heap", "entered", "seen", "stays", "key", "due", "most", "told"] ["room", "wide", "given", "other"] (defScope s__law_right) := ⟨rfl, rfl, rfl, by decide +kernel, rfl, by decide +kernel, by decide +kernel⟩
abbrev s_law : Stmt := topS 51
theorem sc_law : FnScope ["script", "seed", "room", "wide", "other", "key", "given"] ["script"] (defScope s_law) := ⟨rfl, rfl, rfl, by decide +kernel, rfl, by decide +kernel, by decide +kernel⟩
/-- where the text's defs stand -/
structure Ad where
  f_is_integer : Addr
  d_is_integer : FuncData
  f_is_integer_from : Addr
  d_is_integer_from : FuncData
  f_is_key : Addr
  d_is_key : FuncData
  f_check_arms : Addr
  d_check_arms : FuncData
  f_check_many : Addr
  d_check_many : FuncData
  f_check_place : Addr
  d_check_place : FuncData
  f_check_key : Addr
  d_check_key : FuncData
  f_check_room : Addr
  d_check_room : FuncData
  f_row_of : Addr
  d_row_of : FuncData
  f_t___init__ : Addr
  d_t___init__ : FuncData
  f_t_of : Addr
  d_t_of : FuncData
  f_t___len__ : Addr
  d_t___len__ : FuncData
  f_t___iter__ : Addr
  d_t___iter__ : FuncData
  f_t___getitem__ : Addr
  d_t___getitem__ : FuncData
  f_t_parent : Addr
  d_t_parent : FuncData
  f_t_way_to : Addr
  d_t_way_to : FuncData
  f_faults : Addr
  d_faults : FuncData
  f_heap_of : Addr
  d_heap_of : FuncData
  f_check_filled : Addr
  d_check_filled : FuncData
  f_z___init__ : Addr
  d_z___init__ : FuncData
  f_sift_up : Addr
  d_sift_up : FuncData
  f_sift_down : Addr
  d_sift_down : FuncData
  f_least_child : Addr
  d_least_child : FuncData
  f_push : Addr
  d_push : FuncData
  f_put_for : Addr
  d_put_for : FuncData
  f_e___init__ : Addr
  d_e___init__ : FuncData
  f_e___len__ : Addr
  d_e___len__ : FuncData
  f_e___contains__ : Addr
  d_e___contains__ : FuncData
  f_e_heap : Addr
  d_e_heap : FuncData
  f_e_entered : Addr
  d_e_entered : FuncData
  f_e_see : Addr
  d_e_see : FuncData
  f_e_ascending : Addr
  d_e_ascending : FuncData
  f_changes : Addr
  d_changes : FuncData
  f__law_number : Addr
  d__law_number : FuncData
  f__law_row : Addr
  d__law_row : FuncData
  f__law_pushed : Addr
  d__law_pushed : FuncData
  f__law_put : Addr
  d__law_put : FuncData
  f__law_things_right : Addr
  d__law_things_right : FuncData
  f__law_right : Addr
  d__law_right : FuncData
  f_law : Addr
  d_law : FuncData
  p_e_heap : Addr
  p_e_entered : Addr
  C : Addr
  po : Addr
  CS : Addr
  CK : Addr
  CM : Addr
  c_least_child : Addr
  P_least_child : Addr
/-- what the top has written -/
structure Tx (K : PySem.W.Frag) (mg : Str → Option Value) (A : Ad) : Prop where
  F_is_integer : Fun K "is_integer" "is_integer" s_is_integer A.f_is_integer A.d_is_integer
  m_is_integer : mg "is_integer" = some (.ref A.f_is_integer)
  F_is_integer_from : Fun K "is_integer_from" "is_integer_from" s_is_integer_from A.f_is_integer_from A.d_is_integer_from
  m_is_integer_from : mg "is_integer_from" = some (.ref A.f_is_integer_from)
  F_is_key : Fun K "is_key" "is_key" s_is_key A.f_is_key A.d_is_key
  m_is_key : mg "is_key" = some (.ref A.f_is_key)
  F_check_arms : Fun K "check_arms" "check_arms" s_check_arms A.f_check_arms A.d_check_arms
  m_check_arms : mg "check_arms" = some (.ref A.f_check_arms)
  F_check_many : Fun K "check_many" "check_many" s_check_many A.f_check_many A.d_check_many
  m_check_many : mg "check_many" = some (.ref A.f_check_many)
  F_check_place : Fun K "check_place" "check_place" s_check_place A.f_check_place A.d_check_place
  m_check_place : mg "check_place" = some (.ref A.f_check_place)
  F_check_key : Fun K "check_key" "check_key" s_check_key A.f_check_key A.d_check_key
  m_check_key : mg "check_key" = some (.ref A.f_check_key)
  F_check_room : Fun K "check_room" "check_room" s_check_room A.f_check_room A.d_check_room
  m_check_room : mg "check_room" = some (.ref A.f_check_room)
  F_row_of : Fun K "row_of" "row_of" s_row_of A.f_row_of A.d_row_of
  m_row_of : mg "row_of" = some (.ref A.f_row_of)
  F_t___init__ : FunD K "__init__" "Tree.__init__" (defArgs s_t___init__) (defBody s_t___init__) (defScope s_t___init__) [] [("arms", V.int 2)] A.f_t___init__ A.d_t___init__
  F_t_of : FunD K "of" "Tree.of" (defArgs s_t_of) (defBody s_t_of) (defScope s_t_of) [] [("arms", V.int 2)] A.f_t_of A.d_t_of
  F_t___len__ : Fun K "__len__" "Tree.__len__" s_t___len__ A.f_t___len__ A.d_t___len__
  D_t___len__ : Dn K A.C "__len__" A.f_t___len__
  F_t___iter__ : Fun K "__iter__" "Tree.__iter__" s_t___iter__ A.f_t___iter__ A.d_t___iter__
  D_t___iter__ : Dn K A.C "__iter__" A.f_t___iter__
  F_t___getitem__ : Fun K "__getitem__" "Tree.__getitem__" s_t___getitem__ A.f_t___getitem__ A.d_t___getitem__
  D_t___getitem__ : Dn K A.C "__getitem__" A.f_t___getitem__
  F_t_parent : Fun K "parent" "Tree.parent" s_t_parent A.f_t_parent A.d_t_parent
  M_t_parent : Meth K A.C "parent" A.f_t_parent
  F_t_way_to : Fun K "way_to" "Tree.way_to" s_t_way_to A.f_t_way_to A.d_t_way_to
  M_t_way_to : Meth K A.C "way_to" A.f_t_way_to
  F_faults : FunD K "faults" "faults" (defArgs s_faults) (defBody s_faults) (defScope s_faults) [] [("arms", V.int 2)] A.f_faults A.d_faults
  m_faults : mg "faults" = some (.ref A.f_faults)
  F_heap_of : Fun K "heap_of" "heap_of" s_heap_of A.f_heap_of A.d_heap_of
  m_heap_of : mg "heap_of" = some (.ref A.f_heap_of)
  F_check_filled : Fun K "check_filled" "check_filled" s_check_filled A.f_check_filled A.d_check_filled
  m_check_filled : mg "check_filled" = some (.ref A.f_check_filled)
  F_z___init__ : Fun K "__init__" "Sift.__init__" s_z___init__ A.f_z___init__ A.d_z___init__
  F_sift_up : FunD K "sift_up" "sift_up" (defArgs s_sift_up) (defBody s_sift_up) (defScope s_sift_up) [] [("arms", V.int 2)] A.f_sift_up A.d_sift_up
  m_sift_up : mg "sift_up" = some (.ref A.f_sift_up)
  F_sift_down : FunD K "sift_down" "sift_down" (defArgs s_sift_down) (defBody s_sift_down) (defScope s_sift_down) [] [("arms", V.int 2)] A.f_sift_down A.d_sift_down
  m_sift_down : mg "sift_down" = some (.ref A.f_sift_down)
  L_least_child : ∃ (oc : Value) (od : Option Addr) (kV doc pm : Value) (an : Option Addr) (ct : Value) (osl : Array (Option Value)), A.d_least_child = PySem.W.fnOf "least_child" "least_child" (defArgs s_least_child) (defBody s_least_child) (defScope s_least_child) .none kV doc pm an (.ref A.c_least_child) ct ∧ K.lookup A.f_least_child = some ⟨oc, od, .func A.d_least_child, osl⟩ ∧ PySem.W.codeIn K (.ref A.c_least_child) "least_child" = true
  F_least_child : Fun K "least_child" "least_child" s_least_child A.f_least_child A.d_least_child
  m_least_child : mg "least_child" = some (.ref A.f_least_child)
  F_push : FunD K "push" "push" (defArgs s_push) (defBody s_push) (defScope s_push) [] [("arms", V.int 2)] A.f_push A.d_push
  m_push : mg "push" = some (.ref A.f_push)
  F_put_for : FunD K "put_for" "put_for" (defArgs s_put_for) (defBody s_put_for) (defScope s_put_for) [] [("arms", V.int 2)] A.f_put_for A.d_put_for
  m_put_for : mg "put_for" = some (.ref A.f_put_for)
  F_e___init__ : FunD K "__init__" "Keeper.__init__" (defArgs s_e___init__) (defBody s_e___init__) (defScope s_e___init__) [] [("arms", V.int 2)] A.f_e___init__ A.d_e___init__
  F_e___len__ : Fun K "__len__" "Keeper.__len__" s_e___len__ A.f_e___len__ A.d_e___len__
  D_e___len__ : Dn K A.CK "__len__" A.f_e___len__
  F_e___contains__ : Fun K "__contains__" "Keeper.__contains__" s_e___contains__ A.f_e___contains__ A.d_e___contains__
  D_e___contains__ : Dn K A.CK "__contains__" A.f_e___contains__
  F_e_heap : Fun K "heap" "Keeper.heap" s_e_heap A.f_e_heap A.d_e_heap
  P_e_heap : PropOf K A.CK "heap" A.p_e_heap A.f_e_heap
  F_e_entered : Fun K "entered" "Keeper.entered" s_e_entered A.f_e_entered A.d_e_entered
  P_e_entered : PropOf K A.CK "entered" A.p_e_entered A.f_e_entered
  F_e_see : Fun K "see" "Keeper.see" s_e_see A.f_e_see A.d_e_see
  M_e_see : Meth K A.CK "see" A.f_e_see
  F_e_ascending : Fun K "ascending" "Keeper.ascending" s_e_ascending A.f_e_ascending A.d_e_ascending
  M_e_ascending : Meth K A.CK "ascending" A.f_e_ascending
  F_changes : Fun K "changes" "changes" s_changes A.f_changes A.d_changes
  m_changes : mg "changes" = some (.ref A.f_changes)
  F__law_number : Fun K "_law_number" "_law_number" s__law_number A.f__law_number A.d__law_number
  m__law_number : mg "_law_number" = some (.ref A.f__law_number)
  F__law_row : Fun K "_law_row" "_law_row" s__law_row A.f__law_row A.d__law_row
  m__law_row : mg "_law_row" = some (.ref A.f__law_row)
  F__law_pushed : Fun K "_law_pushed" "_law_pushed" s__law_pushed A.f__law_pushed A.d__law_pushed
  m__law_pushed : mg "_law_pushed" = some (.ref A.f__law_pushed)
  F__law_put : Fun K "_law_put" "_law_put" s__law_put A.f__law_put A.d__law_put
  m__law_put : mg "_law_put" = some (.ref A.f__law_put)
  F__law_things_right : Fun K "_law_things_right" "_law_things_right" s__law_things_right A.f__law_things_right A.d__law_things_right
  m__law_things_right : mg "_law_things_right" = some (.ref A.f__law_things_right)
  F__law_right : Fun K "_law_right" "_law_right" s__law_right A.f__law_right A.d__law_right
  m__law_right : mg "_law_right" = some (.ref A.f__law_right)
  F_law : Fun K "law" "law" s_law A.f_law A.d_law
  m_law : mg "law" = some (.ref A.f_law)
  c_GREATEST_KEY : mg "GREATEST_KEY" = some (.int 1000000000 0) ∨ ∃ t, mg "GREATEST_KEY" = some (.int 1000000000 t)
  c_MOST_ARMS : mg "MOST_ARMS" = some (.int 4 0) ∨ ∃ t, mg "MOST_ARMS" = some (.int 4 t)
  c_MOST_PLACES : mg "MOST_PLACES" = some (.int 12 0) ∨ ∃ t, mg "MOST_PLACES" = some (.int 12 t)
  c_MOST_ROOM : mg "MOST_ROOM" = some (.int 12 0) ∨ ∃ t, mg "MOST_ROOM" = some (.int 12 t)
  g_all : mg "all" = none
  g_bool : mg "bool" = none
  g_enumerate : mg "enumerate" = none
  g_int : mg "int" = none
  g_isinstance : mg "isinstance" = none
  g_iter : mg "iter" = none
  g_len : mg "len" = none
  g_list : mg "list" = none
  g_min : mg "min" = none
  g_range : mg "range" = none
  g_reversed : mg "reversed" = none
  g_sorted : mg "sorted" = none
  g_sum : mg "sum" = none
  g_tuple : mg "tuple" = none
  cT : Cls K A.C
  nMany : NoAttr K A.C "many"
  nArms : NoAttr K A.C "arms"
  nPl : NoAttr K A.C "_places"
  mC : mg "Tree" = some (.ref A.C)
  mkC : Mk K A.C A.f_t___init__
  cr : ClX.CRead K A.C (.type "type")
  cof : ClX.CMet K A.C (.type "type") "of" A.po A.f_t_of
  cTS : Cls K A.CS
  nRow : NoAttr K A.CS "row"
  nWay : NoAttr K A.CS "way"
  nLooks : NoAttr K A.CS "looks"
  mCS : mg "Sift" = some (.ref A.CS)
  mkCS : Mk K A.CS A.f_z___init__
  cTK : Cls K A.CK
  kRoom : NoAttr K A.CK "room"
  kArms : NoAttr K A.CK "arms"
  kHeap : NoAttr K A.CK "_heap"
  kEnt : NoAttr K A.CK "_entered"
  kMark : NoAttr K A.CK "_mark"
  mCK : mg "Keeper" = some (.ref A.CK)
  mkCK : Mk K A.CK A.f_e___init__
  cTM : Cls K A.CM
  mCM : mg "Mark" = some (.ref A.CM)
  mkCM : L2.MkO K A.CM
def TT (A : Ad) : List (Addr × Str) := [(A.P_least_child, ("least_child" : Str) ++ ".<locals>." ++ "<lambda>")]

end Tw

set_option Elab.async false
set_option linter.all false
set_option maxRecDepth 100000
set_option maxHeartbeats 2000000
namespace Tw
open PySem PySem.Spec PyProof.Rows L2
section
variable {P : Program} {w : World} {K : PySem.W.Frag} {mg : Str → Option Value} {base : Heap} {A : Ad}
open LamX (ExtN Tabs TabS)
theorem b_ca (T : Tx K mg A) : L2.Binds K A.d_check_arms ["arms"] [] := T.F_check_arms.binds fun _ _ _ _ _ _ us hl => match us, hl with | [_], _ => rfl
theorem b_cr (T : Tx K mg A) : L2.Binds K A.d_check_room ["room"] [] := T.F_check_room.binds fun _ _ _ _ _ _ us hl => match us, hl with | [_], _ => rfl
theorem b_ii (T : Tx K mg A) : L2.Binds K A.d_is_integer_from ["thing", "least", "greatest"] [] := T.F_is_integer_from.binds fun _ _ _ _ _ _ us hl => match us, hl with | [_, _, _], _ => rfl
theorem b_key (T : Tx K mg A) : L2.Binds K A.d_is_key ["thing"] [] := T.F_is_key.binds fun _ _ _ _ _ _ us hl => match us, hl with | [_], _ => rfl
theorem cst {x : Str} {n : Int} (h : mg x = some (.int n 0) ∨ ∃ t, mg x = some (.int n t)) : ∃ t, mg x = some (.int n t) := h.elim (fun e => ⟨0, e⟩) id
theorem extN_of {H H' : Hp} (s : Same H H') : ExtN H H' := fun b o e _ => s b o e
theorem inV_ints (m : Int) : ∀ p : List Int, inV (V.int m) (p.map V.int) = decide (m ∈ p)
  | [] => by simp [inV]
  | a :: p => by
    have ih := inV_ints m p
    unfold inV at ih ⊢
    show (eqV (V.int a) (V.int m) || (p.map V.int).any fun y => eqV y (V.int m)) = _
    rw [ih]
    by_cases h : m = a
    · subst h
      rw [show eqV (V.int m) (V.int m) = true from decide_eq_true rfl, Bool.true_or, decide_eq_true List.mem_cons_self]
    · rw [show eqV (V.int a) (V.int m) = false from decide_eq_false (fun z => h z.symm), Bool.false_or]
      exact decide_eq_decide.mpr ⟨fun z => List.mem_cons_of_mem _ z, fun z => (List.mem_cons.mp z).resolve_left h⟩
theorem ints_flat : ∀ p : List Int, (p.map V.int).all flatV = true
  | [] => rfl
  | a :: p => by
    show (flatV (V.int a) && (p.map V.int).all flatV) = true
    rw [ints_flat p]
    rfl
theorem new_up {C x dx : Addr} {H : Hp} (nx : H x = none) (ndx : H dx = none) (nex : dx ≠ x) : Same H (upd (upd H dx (.own x)) x (.ins C dx [])) :=
  (Same.up ndx).trans (Same.up (by rw [upd_ne nex.symm]; exact nx))
/-- True just for ints -/
def spIs (K : PySem.W.Frag) : Sp := fun vs H Q _ => ∃ x : V, vs = [x] ∧
  ((∃ i, x = .int i ∧ Q (.bl true) H) ∨ (∃ n b1 b2, TyX K H x (.type n) ∧ kitB n "int" = some b1 ∧ kitB n "bool" = some b2 ∧ (b1 && !b2) = false ∧ Q (.bl false) H))
theorem ok_is (T : Tx K mg A) : FnOk P w K mg base CX0 1 A.f_is_integer A.d_is_integer ["thing"] (spIs K) := by
  refine T.F_is_integer.ok sc_is_integer (fun vs H Q E h => ?_) (fun cdv B outer s H vs Q E hr h => ?_)
  · obtain ⟨x, rfl, _⟩ := h
    rfl
  · obtain ⟨x, rfl, h⟩ := h
    refine ⟨_, pss_one (ps_ret (pe_and (pe_callB call_isi (by rfl) T.g_isinstance (by decide +kernel) (pa_cons (pv 0) (pa_cons (pe_bltn (v := .ty "int") (by rfl) T.g_int (by decide +kernel) rfl) pa_nil)))
      (pe_one (pe_not (pe_callB call_isi (by rfl) T.g_isinstance (by decide +kernel) (pa_cons (pv 0) (pa_cons (pe_bltn (v := .ty "bool") (by rfl) T.g_bool (by decide +kernel) rfl) pa_nil))))))), ?_⟩
    rcases h with ⟨i, rfl, q⟩ | ⟨n, b1, b2, ty, k1, k2, hb, q⟩
    · refine ⟨_, rfl, _, _, .type "int", .type "int", true, rfl, .ty "int", .base (.int i), kit_ty (by decide +kernel), true, rfl, iteT ?_⟩
      exact ⟨_, rfl, _, _, .type "int", .type "bool", false, rfl, .ty "bool", .base (.int i), kit_ty (by decide +kernel), false, rfl, q⟩
    · refine ⟨_, rfl, _, _, .type n, .type "int", b1, rfl, .ty "int", ty, kit_ty k1, b1, rfl, ?_⟩
      cases b1 with
      | false => exact iteF q
      | true =>
        cases b2 with
        | false => cases hb
        | true => exact iteT ⟨_, rfl, _, _, .type n, .type "bool", true, rfl, .ty "bool", ty, kit_ty k2, true, rfl, q⟩
theorem b_is (T : Tx K mg A) : L2.Binds K A.d_is_integer ["thing"] [] := T.F_is_integer.binds fun _ _ _ _ _ _ us hl => match us, hl with | [_], _ => rfl
/-- True just for ints within; other things by their class -/
def spII (K : PySem.W.Frag) : Sp := fun vs H Q _ => ∃ (x : V) (a b : Int), vs = [x, .int a, .int b] ∧
  ((∃ i, x = .int i ∧ Q (.bl (decide (a ≤ i ∧ i ≤ b))) H) ∨ (∃ n b1 b2, TyX K H x (.type n) ∧ kitB n "int" = some b1 ∧ kitB n "bool" = some b2 ∧ (b1 && !b2) = false ∧ Q (.bl false) H))
theorem ok_ii (T : Tx K mg A) : FnOk P w K mg base CX0 2 A.f_is_integer_from A.d_is_integer_from ["thing", "least", "greatest"] (spII K) := by
  refine T.F_is_integer_from.ok sc_is_integer_from (fun vs H Q E h => ?_) (fun cdv B outer s H vs Q E hr h => ?_)
  · obtain ⟨x, a, b, rfl, _⟩ := h
    rfl
  · obtain ⟨x, a, b, rfl, h⟩ := h
    refine ⟨_, pss_one (ps_ret (pe_and (pe_call (ok_is T) hr (by rfl) T.m_is_integer T.F_is_integer.kp (b_is T) .nil pass0 (pa_cons (pv 0) pa_nil))
        (pe_one (pe_chain op_le op_le (pv 1) (pv 0) (pv 2))))), ?_⟩
    rcases h with ⟨i, rfl, q⟩ | h
    · refine ⟨_, rfl, _, rfl, .inl ⟨i, rfl, true, rfl, iteT ?_⟩⟩
      refine ⟨_, rfl, _, rfl, _, _, rfl, rfl, _, rfl, ?_⟩
      by_cases h1 : a ≤ i
      · rw [decide_eq_true h1]
        refine iteT ⟨_, rfl, _, _, rfl, rfl, ?_⟩
        have e : decide (a ≤ i ∧ i ≤ b) = decide (i ≤ b) := by simp [h1]
        rw [e] at q
        exact q
      · rw [decide_eq_false h1]
        have e : decide (a ≤ i ∧ i ≤ b) = false := by simp [h1]
        rw [e] at q
        exact iteF q
    · obtain ⟨n, b1, b2, ty, k1, k2, hb, q⟩ := h
      exact ⟨_, rfl, _, rfl, .inr ⟨n, b1, b2, ty, k1, k2, hb, false, rfl, iteF q⟩⟩
def spCa : Sp := fun vs H Q _ => ∃ i : Int, vs = [.int i] ∧ (1 ≤ i ∧ i ≤ 4) ∧ Q .non H
theorem ok_ca (T : Tx K mg A) : FnOk P w K mg base CX0 3 A.f_check_arms A.d_check_arms ["arms"] spCa := by
  refine T.F_check_arms.ok sc_check_arms (fun vs H Q E h => ?_) (fun cdv B outer s H vs Q E hr h => ?_)
  · obtain ⟨i, rfl, _⟩ := h
    rfl
  · obtain ⟨i, rfl, hi, q⟩ := h
    obtain ⟨t, hg⟩ := cst T.c_MOST_ARMS
    refine ⟨_, pss_one (ps_if (pt_not (pt_val (pe_call (ok_ii T) hr (by rfl) T.m_is_integer_from T.F_is_integer_from.kp (b_ii T) .nil pass0
      (pa_cons (pv 0) (pa_cons pe_int (pa_cons (pe_glob (by rfl) hg (relI _ _)) pa_nil)))))) (pss_one ps_never) pss_nil), ?_⟩
    refine ⟨_, rfl, _, _, _, rfl, .inl ⟨i, rfl, _, rfl, ?_⟩⟩
    rw [decide_eq_true hi]
    exact iteF q
def spCr : Sp := fun vs H Q _ => ∃ r : Nat, vs = [.int r] ∧ (1 ≤ r ∧ r ≤ 12) ∧ Q .non H
theorem ok_cr (T : Tx K mg A) : FnOk P w K mg base CX0 3 A.f_check_room A.d_check_room ["room"] spCr := by
  refine T.F_check_room.ok sc_check_room (fun vs H Q E h => ?_) (fun cdv B outer s H vs Q E hr h => ?_)
  · obtain ⟨r, rfl, _⟩ := h
    rfl
  · obtain ⟨r, rfl, hi, q⟩ := h
    obtain ⟨t, hg⟩ := cst T.c_MOST_ROOM
    refine ⟨_, (pss_one (ps_if (pt_not (pt_val (pe_call (ok_ii T) (hr.mono (by decide)) (by rfl) T.m_is_integer_from T.F_is_integer_from.kp (b_ii T) .nil pass0 (pa_cons (pv 0) (pa_cons pe_int (pa_cons (pe_glob (by rfl) hg (relI _ _)) pa_nil)))))) (pss_one ps_never) pss_nil)), ?_⟩
    refine ⟨_, rfl, _, _, _, rfl, .inl ⟨r, rfl, _, rfl, ?_⟩⟩
    rw [decide_eq_true (show (1 : Int) ≤ (r : Nat) ∧ ((r : Nat) : Int) ≤ 12 by omega)]
    exact iteF q
end
end Tw

set_option Elab.async false
set_option linter.all false
set_option maxRecDepth 100000
set_option maxHeartbeats 2000000
namespace Tw
open PySem PySem.Spec PyProof.Rows L2
section
variable {P : Program} {w : World} {K : PySem.W.Frag} {mg : Str → Option Value} {base : Heap} {A : Ad}
open LamX (ExtN Tabs TabS)
theorem int_deq (a b : Int) : decide (V.int a = V.int b) = decide (a = b) := by
  by_cases h : a = b
  · rw [decide_eq_true h, decide_eq_true (by rw [h])]
  · rw [decide_eq_false h, decide_eq_false fun z => h (by injection z)]
/-! keepers -/
def fdK (r w : Int) (t : Addr) (n : Int) (m : V) : List (Str × V) := [("room", .int r), ("arms", .int w), ("_heap", .ref t), ("_entered", .int n), ("_mark", m)]
theorem fdK_eq (r w : Int) (t : Addr) (n : Int) (m : V) : putF "_mark" m (putF "_entered" (.int n) (putF "_heap" (.ref t) (putF "arms" (.int w) (putF "room" (.int r) [])))) = fdK r w t n m := by
  have h1 : ("room" : Str) ≠ "arms" := by decide +kernel
  have h2 : ("room" : Str) ≠ "_heap" := by decide +kernel
  have h3 : ("room" : Str) ≠ "_entered" := by decide +kernel
  have h4 : ("room" : Str) ≠ "_mark" := by decide +kernel
  have h5 : ("arms" : Str) ≠ "_heap" := by decide +kernel
  have h6 : ("arms" : Str) ≠ "_entered" := by decide +kernel
  have h7 : ("arms" : Str) ≠ "_mark" := by decide +kernel
  have h8 : ("_heap" : Str) ≠ "_entered" := by decide +kernel
  have h9 : ("_heap" : Str) ≠ "_mark" := by decide +kernel
  have ha : ("_entered" : Str) ≠ "_mark" := by decide +kernel
  unfold fdK
  simp only [putF, if_neg h1, if_neg h2, if_neg h3, if_neg h4, if_neg h5, if_neg h6, if_neg h7, if_neg h8, if_neg h9, if_neg ha]
theorem fdK_heap (r w : Int) (t t' : Addr) (n : Int) (m : V) : putF "_heap" (.ref t') (fdK r w t n m) = fdK r w t' n m := by
  have h2 : ("room" : Str) ≠ "_heap" := by decide +kernel
  have h5 : ("arms" : Str) ≠ "_heap" := by decide +kernel
  unfold fdK
  simp only [putF, if_neg h2, if_neg h5, if_true]
theorem fdK_ent (r w : Int) (t : Addr) (n n' : Int) (m : V) : putF "_entered" (.int n') (fdK r w t n m) = fdK r w t n' m := by
  have h2 : ("room" : Str) ≠ "_entered" := by decide +kernel
  have h5 : ("arms" : Str) ≠ "_entered" := by decide +kernel
  have h8 : ("_heap" : Str) ≠ "_entered" := by decide +kernel
  unfold fdK
  simp only [putF, if_neg h2, if_neg h5, if_neg h8, if_true]
theorem lk_ne {f g : Str} {v : V} {l : List (Str × V)} (h : g ≠ f) : List.lookup g ((f, v) :: l) = List.lookup g l := by
  have hb : (g == f) = false := beq_eq_false_iff_ne.mpr h
  simp only [List.lookup, hb]
theorem lk_eq {f : Str} {v : V} {l : List (Str × V)} : List.lookup f ((f, v) :: l) = some v := by
  have hb : (f == f) = true := beq_iff_eq.mpr rfl
  simp only [List.lookup, hb]
theorem fdK_room (r w : Int) (t : Addr) (n : Int) (m : V) : (fdK r w t n m).lookup ("room" : Str) = some (.int r) := lk_eq
theorem fdK_arms (r w : Int) (t : Addr) (n : Int) (m : V) : (fdK r w t n m).lookup ("arms" : Str) = some (.int w) := (lk_ne (by decide +kernel)).trans lk_eq
theorem fdK_hp (r w : Int) (t : Addr) (n : Int) (m : V) : (fdK r w t n m).lookup ("_heap" : Str) = some (.ref t) := (lk_ne (by decide +kernel)).trans ((lk_ne (by decide +kernel)).trans lk_eq)
theorem fdK_en (r w : Int) (t : Addr) (n : Int) (m : V) : (fdK r w t n m).lookup ("_entered" : Str) = some (.int n) := (lk_ne (by decide +kernel)).trans ((lk_ne (by decide +kernel)).trans ((lk_ne (by decide +kernel)).trans lk_eq))
theorem fdK_no {f : Str} (r w : Int) (t : Addr) (n : Int) (m : V) (h1 : f ≠ "room") (h2 : f ≠ "arms") (h3 : f ≠ "_heap") (h4 : f ≠ "_entered") (h5 : f ≠ "_mark") : (fdK r w t n m).lookup f = none := by
  unfold fdK
  rw [lk_ne h1, lk_ne h2, lk_ne h3, lk_ne h4, lk_ne h5]
  rfl
/-- a keeper: its room, arms, the number that came in, its heap -/
structure KAt (C : Addr) (H : Hp) (p : Addr) (r w n : Nat) (t : Addr) (ks : List Int) : Prop where
  ob : ∃ dx m, H p = some (.ins C dx (fdK r w t n m))
  hp : H t = some (.tup (ks.map V.int))
theorem KAt.ext {C : Addr} {H H' : Hp} {p r w n t : Nat} {ks : List Int} (h : KAt C H p r w n t ks) (e : LamX.ExtN H H') : KAt C H' p r w n t ks :=
  let ⟨⟨dx, m, h1⟩, h2⟩ := h; ⟨⟨dx, m, e _ _ h1 (fun _ z => nomatch z)⟩, e _ _ h2 (fun _ z => nomatch z)⟩
theorem KAt.same {C : Addr} {H H' : Hp} {p r w n t : Nat} {ks : List Int} (h : KAt C H p r w n t ks) (s : Same H H') : KAt C H' p r w n t ks := h.ext (extN_of s)
theorem KAt.ins {C : Addr} {H : Hp} {p r w n t : Nat} {ks : List Int} (h : KAt C H p r w n t ks) : ∃ dx fs, H p = some (.ins C dx fs) := let ⟨⟨dx, m, h1⟩, _⟩ := h; ⟨dx, _, h1⟩
/-- all but one object and the tables stay -/
def ButP (p : Addr) (H H' : Hp) : Prop := ∀ b o, H b = some o → (∀ ps, o ≠ .tbl ps) → b ≠ p → H' b = some o
theorem ButP.of {p : Addr} {H H' : Hp} (e : LamX.ExtN H H') : ButP p H H' := fun b o h n _ => e b o h n
theorem ButP.trans {p : Addr} {H H1 H2 : Hp} (a : ButP p H H1) (b : ButP p H1 H2) : ButP p H H2 := fun c o h n k => b c o (a c o h n k) n k
theorem ButP.put {p : Addr} {H : Hp} (o : HO) : ButP p H (upd H p o) := fun b u h _ k => by rw [upd_ne k]; exact h
theorem KAt.but {C : Addr} {H H' : Hp} {x p r w n t : Nat} {ks : List Int} (h : KAt C H p r w n t ks) {C2 d2 : Addr} {f2 : List (Str × V)} (hx : H x = some (.ins C2 d2 f2)) (b : ButP x H H') (hne : p ≠ x) : KAt C H' p r w n t ks := by
  obtain ⟨⟨dx, m, h1⟩, h2⟩ := h
  exact ⟨⟨dx, m, b _ _ h1 (fun _ z => nomatch z) hne⟩, b _ _ h2 (fun _ z => nomatch z) (ne_of h2 hx (by intro z; cases z))⟩
theorem tabs_ins {Ts : List (Addr × Str)} {H : Hp} {p C dx : Addr} {fs fs' : List (Str × V)} (t : Tabs Ts H) (h : H p = some (.ins C dx fs)) : Tabs Ts (upd H p (.ins C dx fs')) := fun q hq => by
  obtain ⟨ps, h1, h2, h3⟩ := t q hq
  refine ⟨ps, by rw [upd_ne (ne_of h1 h (by intro z; cases z))]; exact h1, h2, fun pos cv hc => ?_⟩
  obtain ⟨c, e1, e2⟩ := h3 pos cv hc
  exact ⟨c, e1, by rw [upd_ne (ne_of e2 h (by intro z; cases z))]; exact e2⟩
def spKeyA (K : PySem.W.Frag) : Sp := fun vs H Q _ => ∃ x : V, vs = [x] ∧
  ((∃ i, x = .int i ∧ Q (.bl (decide (-1000000000 ≤ i ∧ i ≤ 1000000000))) H) ∨ (∃ n b1 b2, TyX K H x (.type n) ∧ kitB n "int" = some b1 ∧ kitB n "bool" = some b2 ∧ (b1 && !b2) = false ∧ Q (.bl false) H))
theorem ok_keyA (T : Tx K mg A) : FnOk P w K mg base CX0 3 A.f_is_key A.d_is_key ["thing"] (spKeyA K) := by
  refine T.F_is_key.ok sc_is_key (fun vs H Q E h => ?_) (fun cdv B outer s H vs Q E hr h => ?_)
  · obtain ⟨i, rfl, _⟩ := h
    rfl
  · obtain ⟨x, rfl, q⟩ := h
    obtain ⟨t, hg⟩ := cst T.c_GREATEST_KEY
    refine ⟨_, pss_one (ps_ret (pe_call (ok_ii T) hr (by rfl) T.m_is_integer_from T.F_is_integer_from.kp (b_ii T) .nil pass0
      (pa_cons (pv 0) (pa_cons (pe_un un_neg (pe_glob (by rfl) hg (relI _ _))) (pa_cons (pe_glob (by rfl) hg (relI _ _)) pa_nil))))), ?_⟩
    exact ⟨_, rfl, _, rfl, x, _, _, rfl, q⟩
/-! Keeper's own -/
def spIK (C : Addr) : Sp := fun vs H Q _ => ∃ (p dx r w : Nat), vs = [.ref p, .int r, .int w] ∧ (1 ≤ r ∧ r ≤ 12) ∧ (1 ≤ w ∧ w ≤ 4) ∧ H p = some (.ins C dx []) ∧
  ∀ (H' : Hp) (t : Addr), (∀ b o, H b = some o → b ≠ p → H' b = some o) → KAt C H' p r w 0 t [] → Q .non H'
theorem ok_iK (T : Tx K mg A) : FnOk P w K mg base CX0 4 A.f_e___init__ A.d_e___init__ ["self", "room", "arms"] (spIK A.CK) := by
  refine T.F_e___init__.ok sc_e___init__ (fun vs H Q E h => ?_) (fun cdv B outer s H vs Q E hr h => ?_)
  · obtain ⟨p, dx, r, w, rfl, _⟩ := h
    rfl
  · obtain ⟨p, dx, r, w, rfl, hr1, hw, hp, q⟩ := h
    refine ⟨_, (pss_cons (ps_expr (pe_call (ok_ca T) (hr.mono (by decide)) (by rfl) T.m_check_arms T.F_check_arms.kp (b_ca T) .nil pass0 (pa_cons (pv 2) pa_nil)))
      (pss_cons (ps_expr (pe_call (ok_cr T) (hr.mono (by decide)) (by rfl) T.m_check_room T.F_check_room.kp (b_cr T) .nil pass0 (pa_cons (pv 1) pa_nil)))
      (pss_cons (ps_fld (pv 0) (pv 1) rfl)
      (pss_cons (ps_fld (pv 0) (pv 2) rfl)
      (pss_cons (ps_fld (pv 0) (pe_tup pa_nil) rfl)
      (pss_cons (ps_fld (pv 0) pe_int rfl)
      (pss_one (ps_fld (pv 0) (pe_makeO T.mkCM (by rfl) T.mCM) rfl)))))))), ?_⟩
    refine ⟨_, rfl, w, rfl, ⟨by omega, by omega⟩, _, rfl, r, rfl, hr1, ?_⟩
    refine ⟨_, rfl, _, rfl, p, A.CK, dx, _, rfl, hp, T.cTK, T.kRoom, by show 0 < 1000; decide, ?_⟩
    refine ⟨_, rfl, _, rfl, p, A.CK, dx, _, rfl, upd_same, T.cTK, T.kArms, by show 1 < 1000; decide, ?_⟩
    have fr : ∀ b o, H b = some o → b ≠ p → (upd (upd H p (.ins A.CK dx (putF "room" (.int r) []))) p (.ins A.CK dx (putF "arms" (.int w) (putF "room" (.int r) [])))) b = some o := fun b o e n => by rw [upd_ne n, upd_ne n]; exact e
    have hp1 : (upd (upd H p (.ins A.CK dx (putF "room" (.int r) []))) p (.ins A.CK dx (putF "arms" (.int w) (putF "room" (.int r) [])))) p = _ := upd_same
    generalize upd (upd H p (.ins A.CK dx (putF "room" (.int r) []))) p (.ins A.CK dx (putF "arms" (.int w) (putF "room" (.int r) []))) = H1 at fr hp1
    refine ⟨by show 0 ≤ sizeLine; decide, fun t nt => ?_⟩
    have st := Same.up (o := .tup []) nt
    have et := upd_same (H := H1) (a := t) (o := .tup [])
    have hp2 := st _ _ hp1
    have fr2 : ∀ b o, H b = some o → b ≠ p → upd H1 t (.tup []) b = some o := fun b o e n => st _ _ (fr b o e n)
    generalize upd H1 t (.tup []) = H2 at et hp2 fr2
    have htp : t ≠ p := ne_of et hp2 (by intro z; cases z)
    refine ⟨_, rfl, p, A.CK, dx, _, rfl, hp2, T.cTK, T.kHeap, by show 2 < 1000; decide, ?_⟩
    refine ⟨_, rfl, p, A.CK, dx, _, rfl, upd_same, T.cTK, T.kEnt, by show 3 < 1000; decide, ?_⟩
    have fr3 : ∀ b o, H b = some o → b ≠ p → (upd (upd H2 p (.ins A.CK dx (putF "_heap" (.ref t) (putF "arms" (.int w) (putF "room" (.int r) []))))) p (.ins A.CK dx (putF "_entered" (.int 0) (putF "_heap" (.ref t) (putF "arms" (.int w) (putF "room" (.int r) [])))))) b = some o := fun b o e n => by rw [upd_ne n, upd_ne n]; exact fr2 b o e n
    have hp3 : (upd (upd H2 p (.ins A.CK dx (putF "_heap" (.ref t) (putF "arms" (.int w) (putF "room" (.int r) []))))) p (.ins A.CK dx (putF "_entered" (.int 0) (putF "_heap" (.ref t) (putF "arms" (.int w) (putF "room" (.int r) [])))))) p = _ := upd_same
    have et3 : (upd (upd H2 p (.ins A.CK dx (putF "_heap" (.ref t) (putF "arms" (.int w) (putF "room" (.int r) []))))) p (.ins A.CK dx (putF "_entered" (.int 0) (putF "_heap" (.ref t) (putF "arms" (.int w) (putF "room" (.int r) [])))))) t = _ := (upd_ne htp).trans ((upd_ne htp).trans et)
    generalize upd (upd H2 p (.ins A.CK dx (putF "_heap" (.ref t) (putF "arms" (.int w) (putF "room" (.int r) []))))) p (.ins A.CK dx (putF "_entered" (.int 0) (putF "_heap" (.ref t) (putF "arms" (.int w) (putF "room" (.int r) []))))) = H3 at fr3 hp3 et3
    refine fun x d2 nx nd2 nex => ?_
    have s4 := new_up (C := A.CM) nx nd2 nex
    have hp4 := s4 _ _ hp3
    have et4 := s4 _ _ et3
    refine ⟨_, rfl, p, A.CK, dx, _, rfl, hp4, T.cTK, T.kMark, by show 4 < 1000; decide, ?_⟩
    refine q _ t (fun b o e n => by rw [upd_ne n]; exact s4 _ _ (fr3 b o e n)) ⟨⟨dx, .ref x, ?_⟩, by rw [upd_ne htp]; exact et4⟩
    rw [upd_same, ← fdK_eq]
    rfl
theorem kb_iK (T : Tx K mg A) : ∃ mv : List Value, KBn K A.d_e___init__ ["self", "room", "arms"] 2 ["arms"] (fun us ws => us ++ (mv ++ ws)) (fun vs zs => vs ++ zs) := by
  obtain ⟨mv, h⟩ := T.F_e___init__.kbinds0 (ps := ["self", "room", "arms"]) 2 ["arms"] [] (fun us mv ws => us ++ (mv ++ ws)) (by simp) (by simp) (fun r1 r2 r3 => r1.append (r2.append r3))
    (fun D doc pm an cdv ct us mv ws h1 h2 h3 => by
      match us, mv, ws, h1, h2, h3 with
      | [a, b], [], [c], _, _, _ => rfl)
  exact ⟨mv, h⟩
theorem bd_iK (T : Tx K mg A) : ∃ ds, Vals [V.int 2] ds ∧ L2.Binds K A.d_e___init__ ["self", "room", "arms"] ds := by
  refine T.F_e___init__.binds0 2 (by simp) rfl (fun D doc pm an cdv ct us ks h1 h2 => ?_)
  match us, ks, h1, h2 with
  | [a, b], [c], _, _ => exact ⟨_, _, _, _, _, _, rfl, rfl, rfl⟩
def spElen (C : Addr) : Sp := fun vs H Q _ => ∃ (p r w n t : Nat) (ks : List Int), vs = [.ref p] ∧ KAt C H p r w n t ks ∧ Q (.int (ks.length : Nat)) H
theorem ok_elen (T : Tx K mg A) : FnOk P w K mg base CX0 1 A.f_e___len__ A.d_e___len__ ["self"] (spElen A.CK) := by
  refine T.F_e___len__.ok sc_e___len__ (fun vs H Q E h => ?_) (fun cdv B outer s H vs Q E hr h => ?_)
  · obtain ⟨p, r, w, n, t, ks, rfl, _⟩ := h
    rfl
  · obtain ⟨p, r, w, n, t, ks, rfl, ⟨⟨dx, m, h1⟩, h2⟩, q⟩ := h
    refine ⟨_, (pss_one (ps_ret (pe_callB call_len_seq (by rfl) T.g_len PySem.boot_len (pa_cons (pe_fld (pv 0) rfl) pa_nil)))), ?_⟩
    refine ⟨_, rfl, p, A.CK, dx, _, _, rfl, h1, T.cTK, T.kHeap, fdK_hp _ _ _ _ _, t, _, rfl, .inr (SqT.of h2), ?_⟩
    rw [List.length_map]
    exact q
theorem b_elen (T : Tx K mg A) : L2.Binds K A.d_e___len__ ["self"] [] := T.F_e___len__.binds fun _ _ _ _ _ _ us hl => match us, hl with | [_], _ => rfl
def spEcont (K : PySem.W.Frag) (C : Addr) : Sp := fun vs H Q _ => ∃ (p r w n t : Nat) (ks : List Int) (x : V), vs = [.ref p, x] ∧ KAt C H p r w n t ks ∧ (∀ z ∈ ks, -1000000000 ≤ z ∧ z ≤ 1000000000) ∧
  ((∃ i : Int, x = .int i ∧ Q (.bl (decide (i ∈ ks))) H) ∨ (∃ c b1 b2, TyX K H x (.type c) ∧ kitB c "int" = some b1 ∧ kitB c "bool" = some b2 ∧ (b1 && !b2) = false ∧ Q (.bl false) H))
theorem ok_econt (T : Tx K mg A) : FnOk P w K mg base CX0 4 A.f_e___contains__ A.d_e___contains__ ["self", "thing"] (spEcont K A.CK) := by
  refine T.F_e___contains__.ok sc_e___contains__ (fun vs H Q E h => ?_) (fun cdv B outer s H vs Q E hr h => ?_)
  · obtain ⟨p, r, w, n, t, ks, x, rfl, _⟩ := h
    rfl
  · obtain ⟨p, r, w, n, t, ks, x, rfl, ⟨⟨dx, m, h1⟩, h2⟩, hb, q⟩ := h
    refine ⟨_, (pss_one (ps_ret (pe_and (pe_call (ok_keyA T) (hr.mono (by decide)) (by rfl) T.m_is_key T.F_is_key.kp (b_key T) .nil pass0 (pa_cons (pv 1) pa_nil)) (pe_one (pe_cmpR (r := L2.rIn K false) op_in_seq (pv 1) (pe_fld (pv 0) rfl) (by rfl)))))), ?_⟩
    rcases q with ⟨i, rfl, q⟩ | ⟨c, b1, b2, ty, k1, k2, k3, q⟩
    · refine ⟨_, rfl, _, rfl, .inl ⟨i, rfl, ?_⟩⟩
      by_cases hi : -1000000000 ≤ i ∧ i ≤ 1000000000
      · rw [decide_eq_true hi]
        refine ⟨_, rfl, iteT ⟨_, rfl, _, rfl, p, A.CK, dx, _, _, rfl, h1, T.cTK, T.kHeap, fdK_hp _ _ _ _ _, t, _, rfl, .inr (SqT.of h2), rfl, ints_flat _, ?_⟩⟩
        rw [if_neg Bool.false_ne_true, inV_ints]
        exact q
      · rw [decide_eq_false hi]
        rw [decide_eq_false (fun z => hi (hb i z))] at q
        exact ⟨_, rfl, iteF q⟩
    · exact ⟨_, rfl, x, rfl, .inr ⟨c, b1, b2, ty, k1, k2, k3, ⟨_, rfl, iteF q⟩⟩⟩
theorem b_econt (T : Tx K mg A) : L2.Binds K A.d_e___contains__ ["self", "thing"] [] := T.F_e___contains__.binds fun _ _ _ _ _ _ us hl => match us, hl with | [_, _], _ => rfl
def spEheap (C : Addr) : Sp := fun vs H Q _ => ∃ (p r w n t : Nat) (ks : List Int), vs = [.ref p] ∧ KAt C H p r w n t ks ∧ Q (.ref t) H
theorem ok_eheap (T : Tx K mg A) : FnOk P w K mg base CX0 1 A.f_e_heap A.d_e_heap ["self"] (spEheap A.CK) := by
  refine T.F_e_heap.ok sc_e_heap (fun vs H Q E h => ?_) (fun cdv B outer s H vs Q E hr h => ?_)
  · obtain ⟨p, r, w, n, t, ks, rfl, _⟩ := h
    rfl
  · obtain ⟨p, r, w, n, t, ks, rfl, ⟨⟨dx, m, h1⟩, h2⟩, q⟩ := h
    refine ⟨_, (pss_one (ps_ret (pe_fld (pv 0) rfl))), ?_⟩
    exact ⟨_, rfl, p, A.CK, dx, _, _, rfl, h1, T.cTK, T.kHeap, fdK_hp _ _ _ _ _, q⟩
theorem b_eheap (T : Tx K mg A) : L2.Binds K A.d_e_heap ["self"] [] := T.F_e_heap.binds fun _ _ _ _ _ _ us hl => match us, hl with | [_], _ => rfl
def spEent (C : Addr) : Sp := fun vs H Q _ => ∃ (p r w n t : Nat) (ks : List Int), vs = [.ref p] ∧ KAt C H p r w n t ks ∧ Q (.int n) H
theorem ok_eent (T : Tx K mg A) : FnOk P w K mg base CX0 1 A.f_e_entered A.d_e_entered ["self"] (spEent A.CK) := by
  refine T.F_e_entered.ok sc_e_entered (fun vs H Q E h => ?_) (fun cdv B outer s H vs Q E hr h => ?_)
  · obtain ⟨p, r, w, n, t, ks, rfl, _⟩ := h
    rfl
  · obtain ⟨p, r, w, n, t, ks, rfl, ⟨⟨dx, m, h1⟩, h2⟩, q⟩ := h
    refine ⟨_, (pss_one (ps_ret (pe_fld (pv 0) rfl))), ?_⟩
    exact ⟨_, rfl, p, A.CK, dx, _, _, rfl, h1, T.cTK, T.kEnt, fdK_en _ _ _ _ _, q⟩
theorem b_eent (T : Tx K mg A) : L2.Binds K A.d_e_entered ["self"] [] := T.F_e_entered.binds fun _ _ _ _ _ _ us hl => match us, hl with | [_], _ => rfl

end
end Tw

set_option Elab.async false
set_option linter.all false
set_option maxRecDepth 100000
set_option maxHeartbeats 2000000
namespace Tw
open PySem PySem.Spec PyProof.Rows L2
section
variable {P : Program} {w : World} {K : PySem.W.Frag} {mg : Str → Option Value} {base : Heap} {A : Ad}
open LamX (ExtN Tabs TabS)
def keyAt (ks : List Int) (p : Nat) : Int := ks.getD p 0
def HeapL (n w : Nat) (ks : List Int) : Prop := ∀ c, 1 ≤ c → c < n → keyAt ks ((c - 1) / w) ≤ keyAt ks c
/-- a list or a tuple -/
def Sq (H : Hp) (a : Addr) (xs : List V) : Prop := H a = some (.lst xs) ∨ H a = some (.tup xs)
def RowIn (H : Hp) (a : Addr) (ns : List Int) : Prop := Sq H a (ns.map V.int) ∧ ns.length ≤ 12 ∧ (∀ n ∈ ns, -1000000000 ≤ n ∧ n ≤ 1000000000)
theorem b_ck (T : Tx K mg A) : L2.Binds K A.d_check_key ["key"] [] := T.F_check_key.binds fun _ _ _ _ _ _ us hl => match us, hl with | [_], _ => rfl
/-- the faults of a row -/
def faultB (ns : List Int) (w p : Nat) : Bool := decide (0 < p) && decide (ns.getD p 0 < ns.getD ((p - 1) / w) 0)
def faultL (ns : List Int) (w : Nat) : List Nat := (List.range ns.length).filter (faultB ns w)
/-- the children as the law looks for them -/
def kidL (n w i : Nat) : List Nat := ((List.range (n - 1)).filter fun j => decide (j / w = i)).map (· + 1)
def swp (ks : List Int) (a b : Nat) : List Int := (ks.set a (keyAt ks b)).set b (keyAt ks a)
def leastC (ks : List Int) (l : List Nat) : Nat := l.getD (PySem.argBest (fun i j => decide (keyAt ks (l.getD i 0) < keyAt ks (l.getD j 0))) (l.length - 1)) 0
def goDown (n w : Nat) : Nat → List Int → Nat → List Nat → Nat → List Int × List Nat × Nat
  | 0, ks, _, way, lk => (ks, way, lk)
  | f + 1, ks, p, way, lk => if kidL n w p = [] then (ks, way, lk) else
      if keyAt ks (leastC ks (kidL n w p)) < keyAt ks p then goDown n w f (swp ks p (leastC ks (kidL n w p))) (leastC ks (kidL n w p)) (way ++ [leastC ks (kidL n w p)]) (lk + (kidL n w p).length)
      else (ks, way, lk + (kidL n w p).length)
def goUp (w : Nat) : Nat → List Int → Nat → List Nat → Nat → List Int × List Nat × Nat
  | 0, ks, _, way, lk => (ks, way, lk)
  | f + 1, ks, p, way, lk => if p = 0 then (ks, way, lk) else
      if keyAt ks p < keyAt ks ((p - 1) / w) then goUp w f (swp ks p ((p - 1) / w)) ((p - 1) / w) (way ++ [(p - 1) / w]) (lk + 1) else (ks, way, lk + 1)
theorem heap_fault {n w : Nat} {ks : List Int} (hl : ks.length = n) (h : HeapL n w ks) : faultL ks w = [] := by
  refine List.eq_nil_iff_forall_not_mem.mpr fun p hp => ?_
  unfold faultL at hp
  obtain ⟨h1, h2⟩ := List.mem_filter.mp hp
  unfold faultB at h2
  obtain ⟨h3, h4⟩ := Bool.and_eq_true_iff.mp h2
  have h1 := List.mem_range.mp h1
  have h3 := of_decide_eq_true h3
  have h4 := of_decide_eq_true h4
  have := h p (by omega) (by omega)
  unfold keyAt at this
  omega
theorem kb_push (T : Tx K mg A) : ∃ mv : List Value, KBn K A.d_push ["row", "key", "arms"] 2 ["arms"] (fun us ws => us ++ (mv ++ ws)) (fun vs zs => vs ++ zs) := by
  obtain ⟨mv, h⟩ := T.F_push.kbinds0 (ps := ["row", "key", "arms"]) 2 ["arms"] [] (fun us mv ws => us ++ (mv ++ ws)) (by simp) (by simp) (fun r1 r2 r3 => r1.append (r2.append r3))
    (fun D doc pm an cdv ct us mv ws h1 h2 h3 => by
      match us, mv, ws, h1, h2, h3 with
      | [a, b], [], [c], _, _, _ => rfl)
  exact ⟨mv, h⟩
theorem kb_put (T : Tx K mg A) : ∃ mv : List Value, KBn K A.d_put_for ["row", "key", "arms"] 2 ["arms"] (fun us ws => us ++ (mv ++ ws)) (fun vs zs => vs ++ zs) := by
  obtain ⟨mv, h⟩ := T.F_put_for.kbinds0 (ps := ["row", "key", "arms"]) 2 ["arms"] [] (fun us mv ws => us ++ (mv ++ ws)) (by simp) (by simp) (fun r1 r2 r3 => r1.append (r2.append r3))
    (fun D doc pm an cdv ct us mv ws h1 h2 h3 => by
      match us, mv, ws, h1, h2, h3 with
      | [a, b], [], [c], _, _, _ => rfl)
  exact ⟨mv, h⟩
theorem key_at {ks : List Int} {p : Nat} (h : p < ks.length) : atI (ks.map V.int) (p : Int) = some (V.int (keyAt ks p)) := by
  have e : (ks.map V.int)[p]? = some (V.int (keyAt ks p)) := by
    unfold keyAt
    rw [List.getElem?_map, List.getD_eq_getElem?_getD, List.getElem?_eq_getElem h]
    rfl
  exact atI_nat e
/-- is_key of an int -/
def spKey : Sp := fun vs H Q _ => ∃ i : Int, vs = [.int i] ∧ Q (.bl (decide (-1000000000 ≤ i ∧ i ≤ 1000000000))) H
theorem ok_key (T : Tx K mg A) : FnOk P w K mg base CX0 3 A.f_is_key A.d_is_key ["thing"] spKey := by
  refine T.F_is_key.ok sc_is_key (fun vs H Q E h => ?_) (fun cdv B outer s H vs Q E hr h => ?_)
  · obtain ⟨i, rfl, _⟩ := h
    rfl
  · obtain ⟨i, rfl, q⟩ := h
    obtain ⟨t, hg⟩ := cst T.c_GREATEST_KEY
    refine ⟨_, pss_one (ps_ret (pe_call (ok_ii T) hr (by rfl) T.m_is_integer_from T.F_is_integer_from.kp (b_ii T) .nil pass0
      (pa_cons (pv 0) (pa_cons (pe_un un_neg (pe_glob (by rfl) hg (relI _ _))) (pa_cons (pe_glob (by rfl) hg (relI _ _)) pa_nil))))), ?_⟩
    exact ⟨_, rfl, _, rfl, _, _, _, rfl, .inl ⟨i, rfl, q⟩⟩
def spCk : Sp := fun vs H Q _ => ∃ i : Int, vs = [.int i] ∧ (-1000000000 ≤ i ∧ i ≤ 1000000000) ∧ Q .non H
theorem ok_ck (T : Tx K mg A) : FnOk P w K mg base CX0 4 A.f_check_key A.d_check_key ["key"] spCk := by
  refine T.F_check_key.ok sc_check_key (fun vs H Q E h => ?_) (fun cdv B outer s H vs Q E hr h => ?_)
  · obtain ⟨i, rfl, _⟩ := h
    rfl
  · obtain ⟨i, rfl, hi, q⟩ := h
    refine ⟨_, (pss_one (ps_if (pt_not (pt_val (pe_call (ok_key T) (hr.mono (by decide)) (by rfl) T.m_is_key T.F_is_key.kp (b_key T) .nil pass0 (pa_cons (pv 0) pa_nil)))) (pss_one ps_never) pss_nil)), ?_⟩
    refine ⟨_, rfl, i, rfl, _, rfl, ?_⟩
    rw [decide_eq_true hi]
    exact iteF q
def vi (l : List Nat) : List V := l.map fun i => V.int (i : Nat)
/-- its attributes -/
def tf (n w t : Nat) : List (Str × V) := putF "_places" (.ref t) (putF "arms" (.int w) (putF "many" (.int n) []))
/-- the places of a tree -/
def pl (n : Nat) : List V := (List.range n).map fun i => V.int (i : Nat)
/-- a tree of n places and w arms stands at p -/
structure TreeAt (C : Addr) (H : Hp) (p n w : Nat) : Prop where
  ob : ∃ dx t, H p = some (.ins C dx (tf n w t)) ∧ H t = some (.tup (pl n))
  hn : n ≤ 12
  hw : 1 ≤ w ∧ w ≤ 4
theorem TreeAt.same {C : Addr} {H H' : Hp} {p n w : Nat} (h : TreeAt C H p n w) (s : Same H H') : TreeAt C H' p n w :=
  ⟨let ⟨dx, t, a, b⟩ := h.ob; ⟨dx, t, s _ _ a, s _ _ b⟩, h.hn, h.hw⟩
theorem Sq.same {H H' : Hp} {a : Addr} {xs : List V} (h : Sq H a xs) (s : Same H H') : Sq H' a xs := h.elim (fun e => .inl (s _ _ e)) fun e => .inr (s _ _ e)
theorem RowIn.same {H H' : Hp} {a : Addr} {ns : List Int} (h : RowIn H a ns) (s : Same H H') : RowIn H' a ns := ⟨h.1.same s, h.2⟩
theorem b_iter (T : Tx K mg A) : L2.Binds K A.d_t___iter__ ["self"] [] := T.F_t___iter__.binds fun _ _ _ _ _ _ us hl => match us, hl with | [_], _ => rfl
theorem kb_of (T : Tx K mg A) : ∃ mv : List Value, KBn K A.d_t_of ["cls", "row", "arms"] 2 ["arms"] (fun us ws => us ++ (mv ++ ws)) (fun vs zs => vs ++ zs) := by
  obtain ⟨mv, h⟩ := T.F_t_of.kbinds0 (ps := ["cls", "row", "arms"]) 2 ["arms"] [] (fun us mv ws => us ++ (mv ++ ws)) (by simp) (by simp) (fun r1 r2 r3 => r1.append (r2.append r3))
    (fun D doc pm an cdv ct us mv ws h1 h2 h3 => by
      match us, mv, ws, h1, h2, h3 with
      | [a, b], [], [c], _, _, _ => rfl)
  exact ⟨mv, h⟩
theorem tf_no (n w t : Nat) {m : Str} (h1 : ¬ m = "many") (h2 : ¬ m = "arms") (h3 : ¬ m = "_places") : (tf n w t).lookup m = none := by
  unfold tf
  rw [lookup_putF, if_neg h3, lookup_putF, if_neg h2, lookup_putF, if_neg h1]
  rfl
theorem b_par (T : Tx K mg A) : L2.Binds K A.d_t_parent ["self", "place"] [] := T.F_t_parent.binds fun _ _ _ _ _ _ us hl => match us, hl with | [_, _], _ => rfl
/-- the parent as the program says it -/
def parV (w p : Nat) : V := if p = 0 then .non else .int ((p - 1) / w : Nat)
def spCp : Sp := fun vs H Q _ => ∃ i n : Int, vs = [.int i, .int n] ∧ (0 ≤ i ∧ i < n) ∧ Q .non H
theorem ok_cp (T : Tx K mg A) : FnOk P w K mg base CX0 3 A.f_check_place A.d_check_place ["place", "many"] spCp := by
  refine T.F_check_place.ok sc_check_place (fun vs H Q E h => ?_) (fun cdv B outer s H vs Q E hr h => ?_)
  · obtain ⟨i, n, rfl, _⟩ := h
    rfl
  · obtain ⟨i, n, rfl, hi, q⟩ := h
    refine ⟨_, pss_one (ps_if (pt_not (pt_val (pe_call (ok_ii T) hr (by rfl) T.m_is_integer_from T.F_is_integer_from.kp (b_ii T) .nil pass0
      (pa_cons (pv 0) (pa_cons pe_int (pa_cons (pe_op op_sub (pv 1) pe_int) pa_nil)))))) (pss_one ps_never) pss_nil), ?_⟩
    refine ⟨_, rfl, _, rfl, _, _, rfl, rfl, _, _, _, rfl, .inl ⟨i, rfl, _, rfl, ?_⟩⟩
    rw [decide_eq_true (show 0 ≤ i ∧ i ≤ n - 1 by omega)]
    exact iteF q
theorem b_cp (T : Tx K mg A) : L2.Binds K A.d_check_place ["place", "many"] [] := T.F_check_place.binds fun _ _ _ _ _ _ us hl => match us, hl with | [_, _], _ => rfl
theorem n1 : ¬ (("many" : Str) = "arms") := by decide +kernel
theorem n2 : ¬ (("many" : Str) = "_places") := by decide +kernel
theorem tf_many (n w t : Nat) : (tf n w t).lookup ("many" : Str) = some (.int n) := by
  unfold tf
  rw [lookup_putF, if_neg n2, lookup_putF, if_neg n1, lookup_putF, if_pos rfl]
theorem n3 : ¬ (("arms" : Str) = "_places") := by decide +kernel
theorem tf_arms (n w t : Nat) : (tf n w t).lookup ("arms" : Str) = some (.int w) := by
  unfold tf
  rw [lookup_putF, if_neg n3, lookup_putF, if_pos rfl]
def spPar (C : Addr) : Sp := fun vs H Q _ => ∃ (p n w i : Nat), vs = [.ref p, .int i] ∧ TreeAt C H p n w ∧ i < n ∧ Q (parV w i) H
theorem ok_par (T : Tx K mg A) : FnOk P w K mg base CX0 4 A.f_t_parent A.d_t_parent ["self", "place"] (spPar A.C) := by
  refine T.F_t_parent.ok sc_t_parent (fun vs H Q E h => ?_) (fun cdv B outer s H vs Q E hr h => ?_)
  · obtain ⟨p, n, w, i, rfl, _⟩ := h
    rfl
  · obtain ⟨p, n, w, i, rfl, t, hi, q⟩ := h
    obtain ⟨dx, l, h1, h2⟩ := t.ob
    refine ⟨_, pss_cons (ps_expr (pe_call (ok_cp T) hr (by rfl) T.m_check_place T.F_check_place.kp (b_cp T) .nil pass0 (pa_cons (pv 1) (pa_cons (pe_fld (pv 0) rfl) pa_nil))))
      (pss_cons (ps_if (pt_cmpR op_eq (pv 1) pe_int (nomark _)) (pss_one (ps_ret pe_non)) pss_nil)
      (pss_one (ps_ret (pe_op op_fdivN (pe_op op_sub (pv 1) pe_int) (pe_fld (pv 0) rfl))))), ?_⟩
    refine ⟨_, rfl, _, rfl, p, A.C, dx, _, _, rfl, h1, T.cT, T.nMany, tf_many _ _ _, _, _, rfl, ⟨by omega, by omega⟩, ?_⟩
    refine ⟨_, rfl, rfl, _, rfl, ?_⟩
    by_cases h0 : i = 0
    · rw [decide_eq_true (show V.int (i : Nat) = V.int 0 by rw [h0]; rfl)]
      refine iteT ?_
      unfold parV at q
      rw [if_pos h0] at q
      exact q
    · rw [decide_eq_false (show ¬ V.int (i : Nat) = V.int 0 by intro z; injection z with z; omega)]
      refine iteF ?_
      refine ⟨_, rfl, _, _, rfl, rfl, _, rfl, p, A.C, dx, _, _, rfl, h1, T.cT, T.nArms, tf_arms _ _ _, _, _, rfl, rfl, ⟨by have := t.hw; omega, by have := t.hw; omega⟩, ?_⟩
      unfold parV at q
      rw [if_neg h0] at q
      have e : Int.fdiv ((i : Int) - 1) (w : Int) = ((i - 1) / w : Nat) := by
        rw [Int.fdiv_eq_ediv_of_nonneg _ (by omega), show ((i : Int) - 1) = ((i - 1 : Nat) : Int) by omega]
        rfl
      show Q (V.int (Int.fdiv ((i : Int) - 1) (w : Int))) H
      rw [e]
      exact q
theorem ok_iter (T : Tx K mg A) : FnIt P w K mg base 2 A.f_t___iter__ A.d_t___iter__ ["self"] (spIter K A.C "_places") := by
  refine fnIt_of T.F_t___iter__ sc_t___iter__ (fun cdv B outer s H vs Q hr h => ?_)
  obtain ⟨a, dx, fs, t, zs, rfl, ha, hf, ht, q⟩ := h
  refine ⟨_, pss_one (ps_ret (pe_callB call_iterT (by rfl) T.g_iter (by decide +kernel) (pa_cons (pe_fld (pv 0) rfl) pa_nil))), ?_⟩
  exact ⟨_, rfl, a, A.C, dx, _, _, rfl, ha, T.cT, T.nPl, hf, t, zs, rfl, ht, q⟩
theorem kb_init (T : Tx K mg A) : ∃ mv : List Value, KBn K A.d_t___init__ ["self", "many", "arms"] 2 ["arms"] (fun us ws => us ++ (mv ++ ws)) (fun vs zs => vs ++ zs) := by
  obtain ⟨mv, h⟩ := T.F_t___init__.kbinds0 (ps := ["self", "many", "arms"]) 2 ["arms"] [] (fun us mv ws => us ++ (mv ++ ws)) (by simp) (by simp) (fun r1 r2 r3 => r1.append (r2.append r3))
    (fun D doc pm an cdv ct us mv ws h1 h2 h3 => by
      match us, mv, ws, h1, h2, h3 with
      | [a, b], [], [c], _, _, _ => rfl)
  exact ⟨mv, h⟩
def spCm : Sp := fun vs H Q _ => ∃ i : Int, vs = [.int i] ∧ (0 ≤ i ∧ i ≤ 12) ∧ Q .non H
theorem ok_cm (T : Tx K mg A) : FnOk P w K mg base CX0 3 A.f_check_many A.d_check_many ["many"] spCm := by
  refine T.F_check_many.ok sc_check_many (fun vs H Q E h => ?_) (fun cdv B outer s H vs Q E hr h => ?_)
  · obtain ⟨i, rfl, _⟩ := h
    rfl
  · obtain ⟨i, rfl, hi, q⟩ := h
    obtain ⟨t, hg⟩ := cst T.c_MOST_PLACES
    refine ⟨_, pss_one (ps_if (pt_not (pt_val (pe_call (ok_ii T) hr (by rfl) T.m_is_integer_from T.F_is_integer_from.kp (b_ii T) .nil pass0
      (pa_cons (pv 0) (pa_cons pe_int (pa_cons (pe_glob (by rfl) hg (relI _ _)) pa_nil)))))) (pss_one ps_never) pss_nil), ?_⟩
    refine ⟨_, rfl, _, _, _, rfl, .inl ⟨i, rfl, _, rfl, ?_⟩⟩
    rw [decide_eq_true hi]
    exact iteF q
theorem b_cm (T : Tx K mg A) : L2.Binds K A.d_check_many ["many"] [] := T.F_check_many.binds fun _ _ _ _ _ _ us hl => match us, hl with | [_], _ => rfl
theorem rg_pl (n : Nat) : rgV 0 (n : Int) = pl n := by
  unfold rgV pl
  rw [show ((n : Int) - 0).toNat = n by omega]
  exact congrArg (fun f => (List.range n).map f) (funext fun i => by rw [Int.zero_add])
def spInit (C : Addr) : Sp := fun vs H Q _ => ∃ (p dx n w : Nat), vs = [.ref p, .int n, .int w] ∧ n ≤ 12 ∧ (1 ≤ w ∧ w ≤ 4) ∧ H p = some (.ins C dx []) ∧
  ∀ (H' : Hp), (∀ b o, H b = some o → b ≠ p → H' b = some o) → TreeAt C H' p n w → Q .non H'
theorem ok_init (T : Tx K mg A) : FnOk P w K mg base CX0 4 A.f_t___init__ A.d_t___init__ ["self", "many", "arms"] (spInit A.C) := by
  refine T.F_t___init__.ok sc_t___init__ (fun vs H Q E h => ?_) (fun cdv B outer s H vs Q E hr h => ?_)
  · obtain ⟨p, dx, n, w, rfl, _⟩ := h
    rfl
  · obtain ⟨p, dx, n, w, rfl, hn, hw, hp, q⟩ := h
    refine ⟨_, PSs.nox (pss_cons (ps_expr (pe_call (ok_ca T) hr (by rfl) T.m_check_arms T.F_check_arms.kp (b_ca T) .nil pass0 (pa_cons (pv 2) pa_nil)))
      (pss_cons (ps_expr (pe_call (ok_cm T) hr (by rfl) T.m_check_many T.F_check_many.kp (b_cm T) .nil pass0 (pa_cons (pv 1) pa_nil)))
      (pss_cons (ps_fld (pv 0) (pv 1) rfl) (pss_cons (ps_fld (pv 0) (pv 2) rfl)
      (pss_one (ps_fld (pv 0) (pe_tupRg rfl (by rfl) T.g_tuple (prg_1 (by rfl) T.g_range (pv 1))) rfl)))))), ?_⟩
    refine ⟨_, rfl, _, rfl, ⟨by omega, by omega⟩, _, rfl, _, rfl, ⟨by omega, by omega⟩, ?_⟩
    refine ⟨_, rfl, _, rfl, p, A.C, dx, _, rfl, hp, T.cT, T.nMany, (by show 0 < 1000; decide), ?_⟩
    refine ⟨_, rfl, _, rfl, p, A.C, dx, _, rfl, upd_same, T.cT, T.nArms, (by show 1 < 1000; decide), ?_⟩
    refine ⟨_, rfl, _, rfl, RgOk.of_le (by omega) (by omega) (by omega) (by omega), fun t ht => ?_⟩
    have npt : p ≠ t := fun z => by
      rw [z, upd_same] at ht
      cases ht
    refine ⟨_, rfl, p, A.C, dx, _, rfl, Eq.trans (upd_ne npt) upd_same, T.cT, T.nPl, (by simp only [putF, n1, if_false]; show 2 < 1000; decide), ?_⟩
    refine q _ (fun b o e hb => ?_) ⟨⟨dx, t, upd_same, ?_⟩, hn, hw⟩
    · have nbt : b ≠ t := ne_of_none (by rw [upd_ne hb, upd_ne hb]; exact e) ht
      rw [upd_ne hb, upd_ne nbt, upd_ne hb, upd_ne hb]
      exact e
    · rw [upd_ne npt.symm, upd_same, rg_pl]
theorem Sq.len {K : PySem.W.Frag} {H : Hp} {a : Addr} {xs : List V} (h : Sq H a xs) : SqL K H a xs ∨ SqT K H a xs := h.elim (fun e => .inl (SqL.of e)) fun e => .inr (SqT.of e)
/-- keys go in, a tuple of them comes out -/
def spRow (K : PySem.W.Frag) : Sp := fun vs H Q _ => ∃ (a : Addr) (ns : List Int), vs = [.ref a] ∧ Sq H a (ns.map V.int) ∧ ns.length ≤ 12 ∧ (∀ n ∈ ns, -1000000000 ≤ n ∧ n ≤ 1000000000) ∧
  ∀ H' p, Same H H' → H' p = some (.tup (ns.map V.int)) → Q (.ref p) H'
theorem ok_row (T : Tx K mg A) : FnOk P w K mg base CX0 4 A.f_row_of A.d_row_of ["row"] (spRow K) := by
  refine T.F_row_of.ok sc_row_of (fun vs H Q E h => ?_) (fun cdv B outer s H vs Q E hr h => ?_)
  · obtain ⟨a, ns, rfl, _⟩ := h
    rfl
  · obtain ⟨a, ns, rfl, ha, hl, hk, q⟩ := h
    obtain ⟨t, hg⟩ := cst T.c_MOST_PLACES
    refine ⟨_, pss_cons (ps_if (PW.pt (pw_or (pt_not (pt_val (pe_callB call_isiT (by rfl) T.g_isinstance (by decide +kernel) (pa_cons (pv 0) (pa_cons (pe_tup (pa_cons (pe_bltn (v := .ty "list") (by rfl) T.g_list (by decide +kernel) rfl) (pa_cons (pe_bltn (v := .ty "tuple") (by rfl) T.g_tuple (by decide +kernel) rfl) pa_nil))) pa_nil)))))
        (pw_or1 (pt_cmpR op_gt (pe_callB call_len_seq (by rfl) T.g_len PySem.boot_len (pa_cons (pv 0) pa_nil)) (pe_glob (by rfl) hg (relI _ _)) (nomark _))))) (pss_one ps_never) pss_nil)
      (C8.pss_cut (ps_for PassesOwn.never rfl (pi_enS (by rfl) T.g_enumerate (pa_cons (pv 0) pa_nil)) (pg_tup rfl (pgs_cons (pg_name (i := 1) sc_row_of.nd rfl (Or.inl rfl)) (pgs_cons (pg_name (i := 2) sc_row_of.nd rfl (Or.inl rfl)) pgs_nil)))
        (pss_one (ps_if (pt_not (pt_val (pe_call (ok_key T) hr (by rfl) T.m_is_key T.F_is_key.kp (b_key T) .nil pass0 (pa_cons (pv 2) pa_nil)))) (pss_one ps_never) pss_nil)))
      (pss_one (ps_ret (pe_callTy call_tuple_of (by rfl) T.g_tuple (by decide +kernel) (pa_cons (pv 0) pa_nil))))), ?_⟩
    refine ⟨_, rfl, by show 2 ≤ sizeLine; decide, fun tp htp => ?_⟩
    have ha1 : Sq (upd H tp (.tup [.ty "list", .ty "tuple"])) a (ns.map V.int) := ha.same (Same.up htp)
    have isi : ∃ c b1, TyX K (upd H tp (.tup [.ty "list", .ty "tuple"])) (.ref a) (.type c) ∧ PySem.W.kitOne K (.type c) (.type "list") = some b1 ∧ (b1 = false → PySem.W.kitOne K (.type c) (.type "tuple") = some true) := by
      rcases ha1 with h | h
      · exact ⟨"list", true, .base (.lst h), kit_ty (by decide +kernel), fun z => by cases z⟩
      · exact ⟨"tuple", false, .base (.tup h), kit_ty (by decide +kernel), fun _ => kit_ty (by decide +kernel)⟩
    obtain ⟨c, b1, ty, k1, k2⟩ := isi
    refine ⟨_, tp, _, .type c, [.type "list", .type "tuple"], true, rfl, upd_same, .cons (.ty _) (.cons (.ty _) .nil), ty, kitAny_cons k1 (fun z => kitAny_cons (k2 z) (fun z => by cases z) (fun _ => rfl)) (fun _ => rfl), true, rfl, ?_⟩
    refine iteF ⟨_, rfl, a, _, rfl, ha1.len, _, _, rfl, rfl, _, rfl, ite2 (fun z => ?_) (fun _ => ?_)⟩
    · exfalso
      rw [List.length_map] at z
      have := of_decide_eq_true z
      omega
    refine ⟨fun σ H' => ∃ z y, σ = [some (.ref a), z, y] ∧ Same H H', ?_, ?_⟩
    · rcases ha with ha | ha
      · refine ⟨_, rfl, a, _, rfl, .inl ⟨SqL.of ((Same.up htp) _ _ ha), for_it (walk_enum (xs := ns.map V.int)) (fun i σ H' => ∃ z y, σ = [some (.ref a), z, y] ∧ Same H H') ⟨none, none, rfl, Same.up htp⟩ (fun i σ H' _ ⟨_, _, _, s⟩ => SqL.of (s _ _ ha)) ?_ ?_⟩⟩
        · rintro i v σ H2 H3 hi ⟨z, y, rfl, s⟩ ⟨T', x, x2, rfl, hT, rfl, e1, e2⟩
          obtain ⟨hi', rfl⟩ := ints_at e2
          cases e1
          refine ⟨_, _, rfl, SqT.of upd_same, rfl, _, _, rfl, _, _, rfl, rfl, ?_⟩
          refine ⟨_, rfl, _, rfl, _, rfl, ?_⟩
          rw [decide_eq_true (hk _ (List.getElem_mem hi'))]
          exact iteF ⟨_, _, rfl, s.trans (Same.up hT)⟩
        · rintro σ H2 ⟨z, y, rfl, s⟩
          exact ⟨_, _, rfl, s⟩
      · refine ⟨_, rfl, a, _, rfl, .inr ⟨SqT.of ((Same.up htp) _ _ ha), for_it (walk_enumT (xs := ns.map V.int)) (fun i σ H' => ∃ z y, σ = [some (.ref a), z, y] ∧ Same H H') ⟨none, none, rfl, Same.up htp⟩ (fun i σ H' _ ⟨_, _, _, s⟩ => SqT.of (s _ _ ha)) ?_ ?_⟩⟩
        · rintro i v σ H2 H3 hi ⟨z, y, rfl, s⟩ ⟨T', x, x2, rfl, hT, rfl, e1, e2⟩
          obtain ⟨hi', rfl⟩ := ints_at e2
          cases e1
          refine ⟨_, _, rfl, SqT.of upd_same, rfl, _, _, rfl, _, _, rfl, rfl, ?_⟩
          refine ⟨_, rfl, _, rfl, _, rfl, ?_⟩
          rw [decide_eq_true (hk _ (List.getElem_mem hi'))]
          exact iteF ⟨_, _, rfl, s.trans (Same.up hT)⟩
        · rintro σ H2 ⟨z, y, rfl, s⟩
          exact ⟨_, _, rfl, s⟩
    · rintro σ H2 ⟨z, y, rfl, s⟩
      rcases ha with ha | ha
      · exact ⟨_, rfl, a, _, rfl, .inl ⟨SqL.of (s _ _ ha), fun p hp => q _ _ (s.trans (Same.up hp)) upd_same⟩⟩
      · exact ⟨_, rfl, a, _, rfl, .inr ⟨SqT.of (s _ _ ha), q _ _ s (s _ _ ha)⟩⟩
theorem b_row (T : Tx K mg A) : L2.Binds K A.d_row_of ["row"] [] := T.F_row_of.binds fun _ _ _ _ _ _ us hl => match us, hl with | [_], _ => rfl
def spOf (K : PySem.W.Frag) (C : Addr) : Sp := fun vs H Q _ => ∃ (a w : Nat) (ns : List Int), vs = [.ref C, .ref a, .int w] ∧ (1 ≤ w ∧ w ≤ 4) ∧ Sq H a (ns.map V.int) ∧ ns.length ≤ 12 ∧ (∀ n ∈ ns, -1000000000 ≤ n ∧ n ≤ 1000000000) ∧
  ∀ (H' : Hp) p, Same H H' → H p = none → TreeAt C H' p ns.length w → Q (.ref p) H'
theorem ok_of (T : Tx K mg A) : FnOk P w K mg base CX0 6 A.f_t_of A.d_t_of ["cls", "row", "arms"] (spOf K A.C) := by
  obtain ⟨mv, kb⟩ := kb_init T
  refine T.F_t_of.ok sc_t_of (fun vs H Q E h => ?_) (fun cdv B outer s H vs Q E hr h => ?_)
  · obtain ⟨a, w, ns, rfl, _⟩ := h
    rfl
  · obtain ⟨a, w, ns, rfl, hw, ha, hl, hk, q⟩ := h
    refine ⟨_, PSs.nox (pss_cons (ps_expr (pe_call (ok_ca T) (hr.mono (by decide)) (by rfl) T.m_check_arms T.F_check_arms.kp (b_ca T) .nil pass0 (pa_cons (pv 2) pa_nil)))
      (pss_one (ps_ret (pe_makeLK (i := 0) T.mkC (ok_init T) hr kb pass0 (pa_cons (pe_callB call_len_seq (by rfl) T.g_len PySem.boot_len (pa_cons (pe_call (ok_row T) (hr.mono (by decide)) (by rfl) T.m_row_of T.F_row_of.kp (b_row T) .nil pass0 (pa_cons (pv 1) pa_nil)) pa_nil)) pa_nil)
        (pk_cons (pv 2) pk_nil) rfl (Or.inl rfl))))), ?_⟩
    refine ⟨_, rfl, _, rfl, ⟨by omega, by omega⟩, rfl, _, rfl, a, ns, rfl, ha, hl, hk, fun H1 p s1 hp => ?_⟩
    refine ⟨p, _, rfl, .inr (SqT.of hp), _, rfl, rfl, rfl, fun x dx nx ndx nex => ?_⟩
    refine ⟨x, dx, ns.length, w, by rw [List.length_map]; rfl, hl, hw, upd_same, fun H2 k2 t2 => ⟨rfl, q H2 x (fun b o e => k2 b o ?_ (ne_of_none (s1 _ _ e) nx)) (s1.free nx) t2⟩⟩
    rw [upd_ne (ne_of_none (s1 _ _ e) nx), upd_ne (ne_of_none (s1 _ _ e) ndx)]
    exact s1 _ _ e
theorem tf_pl (n w t : Nat) : (tf n w t).lookup ("_places" : Str) = some (.ref t) := by
  unfold tf
  rw [lookup_putF, if_pos rfl]
theorem pl_len (n : Nat) : (pl n).length = n := by unfold pl; rw [List.length_map, List.length_range]
theorem ix_sq {H : Hp} {a : Addr} {ns : List Int} {i : Nat} {Q : VK} (h : Sq H a (ns.map V.int)) (hi : i < ns.length) (q : Q (.int (ns.getD i 0)) H) : rIx K (.ref a) (.int i) H Q := by
  have e : (ns.map V.int)[i]? = some (V.int (ns.getD i 0)) := by
    rw [List.getElem?_map, List.getElem?_eq_getElem hi, List.getD_eq_getElem?_getD, List.getElem?_eq_getElem hi]
    rfl
  rcases h with h | h
  · exact .inl ⟨a, _, _, _, rfl, rfl, SqL.of h, atI_nat e, q⟩
  · exact .inr (.inl ⟨a, _, _, _, rfl, rfl, SqT.of h, atI_nat e, q⟩)
theorem filt_pick (l : List Nat) (b : Nat → Bool) : vi (l.filter b) = l.filterMap fun j => if b j = true then some (V.int (j : Nat)) else none := by
  unfold vi
  induction l with
  | nil => rfl
  | cons a l ih =>
    by_cases h : b a = true
    · rw [List.filter_cons_of_pos h, List.map_cons, ih, List.filterMap_cons, if_pos h]
    · rw [List.filter_cons_of_neg h, ih, List.filterMap_cons, if_neg h]
def spFau : Sp := fun vs H Q _ => ∃ (a w : Nat) (ns : List Int), vs = [.ref a, .int w] ∧ (1 ≤ w ∧ w ≤ 4) ∧ RowIn H a ns ∧ ∀ H' q, Same H H' → H q = none → H' q = some (.lst (vi (faultL ns w))) → Q (.ref q) H'
theorem ok_fau (T : Tx K mg A) : FnOk P w K mg base CX0 7 A.f_faults A.d_faults ["row", "arms"] spFau := by
  obtain ⟨mo, ko⟩ := kb_of T
  refine T.F_faults.ok sc_faults (fun vs H Q E h => ?_) (fun cdv B outer s H vs Q E hr h => ?_)
  · obtain ⟨a, w, ns, rfl, _⟩ := h
    rfl
  · obtain ⟨a, w, ns, rfl, hw, hrow, q⟩ := h
    have nd := sc_faults.nd
    refine ⟨_, PSs.nox (pss_cons (ps_set (i := 2) nd rfl (Or.inr rfl) (pe_cmethK (pe_glob (v := .ref A.C) (by rfl) T.mC (relR _)) T.cr T.cof (ok_of T) hr ko pass0 (pa_cons (pv 0) pa_nil) (pk_cons (pv 1) pk_nil)))
      (pss_one (ps_ret (pe_lc (own := [("place", 3)]) (g := gName 3) rfl nd (pi_own T.D_t___iter__ (ok_iter T) (hr.mono (by decide)) (b_iter T) (pv 2)) (blkOk_by (own := [("place", 3)]) (N := ["row", "arms", "tree", "place"]) (sc := defScope s_faults) (by decide +kernel))
        (fun _ _ _ _ _ => pg_name (i := 3) nd rfl (Or.inl rfl))
        (fun _ _ _ _ _ => pts_one (PW.pt (pw_and (pt_cmpR op_gt (pv 3) pe_int (nomark _)) (pw_and1 (pt_cmpR op_lt (pe_ix (r := rIx K) ix_seq (pv 0) (pv 3) (fun _ _ => rfl))
          (pe_ix (r := rIx K) ix_seq (pv 0) (pe_meth (pv 2) T.cT T.M_t_parent (ok_par T) (hr.mono (by decide)) (b_par T) .nil pass0 (pa_cons (pv 3) pa_nil)) (fun _ _ => rfl)) (nomark _))))))
        (fun _ _ _ _ _ => pv 3))))), ?_⟩
    refine ⟨rfl, _, rfl, _, rfl, rfl, rfl, a, w, ns, rfl, hw, hrow.1, hrow.2.1, hrow.2.2, fun H1 p s1 p0 t1 => ?_⟩
    obtain ⟨dx, l, h1, h2⟩ := t1.ob
    have noP : (tf ns.length w l).lookup ("parent" : Str) = none := tf_no _ _ _ (by decide +kernel) (by decide +kernel) (by decide +kernel)
    have hlen := hrow.2.1
    refine ⟨_, rfl, p, dx, _, l, _, rfl, h1, tf_pl _ _ _, SqT.of h2, fun D hD => ?_⟩
    refine lc_it (walk_tup (xs := pl ns.length)) (PickI H1 D (List.range ns.length) fun j => if faultB ns w j = true then some (V.int (j : Nat)) else none) (pick_start hD) (fun k H' _ h => SqT.of (h.s _ _ h2)) ?_ ?_
    · rintro k x H2 H3 hk pk ⟨rfl, ex⟩
      obtain ⟨hk', rfl⟩ := map_at ex
      rw [List.getElem_range]
      have hk2 : k < ns.length := by rw [List.length_range] at hk'; exact hk'
      have hrow3 := (hrow.1.same s1).same pk.s
      refine ⟨rfl, _, rfl, _, _, rfl, rfl, _, rfl, ?_⟩
      by_cases h0 : 0 < k
      · rw [decide_eq_true (show (0 : Int) < (k : Nat) by omega)]
        have ep : parV w k = V.int ((k - 1) / w : Nat) := by unfold parV; rw [if_neg (by omega)]
        have hlt : (k - 1) / w < k := Nat.lt_of_le_of_lt (Nat.div_le_self _ _) (by omega)
        refine iteT ⟨_, rfl, _, rfl, ix_sq hrow3 hk2 ⟨_, rfl, _, rfl, p, dx, _, rfl, pk.s _ _ h1, noP, _, rfl, p, ns.length, w, k, rfl, t1.same pk.s, hk2, ?_⟩⟩
        rw [ep]
        refine ix_sq hrow3 (by omega) ⟨_, _, rfl, rfl, _, rfl, ?_⟩
        have ef : faultB ns w k = decide (ns.getD k 0 < ns.getD ((k - 1) / w) 0) := by unfold faultB; rw [decide_eq_true h0, Bool.true_and]
        by_cases hf : ns.getD k 0 < ns.getD ((k - 1) / w) 0
        · rw [decide_eq_true hf] at ef ⊢
          exact iteT ⟨_, rfl, pick_yes hk' (by rw [List.length_range]; omega) (by rw [List.getElem_range, ef]; rfl) (Same.refl _) pk⟩
        · rw [decide_eq_false hf] at ef ⊢
          exact iteF (pick_no hk' (by rw [List.getElem_range, ef]; rfl) (Same.refl _) pk)
      · rw [decide_eq_false (show ¬ (0 : Int) < (k : Nat) by omega)]
        have ef : faultB ns w k = false := by unfold faultB; rw [decide_eq_false h0, Bool.false_and]
        exact iteF (iteF (pick_no hk' (by rw [List.getElem_range, ef]; rfl) (Same.refl _) pk))
    · intro H2 pk
      have ac := pick_end (by rw [pl_len, List.length_range]) pk
      refine q _ D (s1.trans ac.s) (s1.free hD) ?_
      rw [ac.a]
      unfold faultL
      rw [filt_pick]
theorem kb_fau (T : Tx K mg A) : ∃ mv : List Value, KBn K A.d_faults ["row", "arms"] 1 ["arms"] (fun us ws => us ++ (mv ++ ws)) (fun vs zs => vs ++ zs) := by
  obtain ⟨mv, h⟩ := T.F_faults.kbinds0 (ps := ["row", "arms"]) 1 ["arms"] [] (fun us mv ws => us ++ (mv ++ ws)) (by simp) (by simp) (fun r1 r2 r3 => r1.append (r2.append r3))
    (fun D doc pm an cdv ct us mv ws h1 h2 h3 => by
      match us, mv, ws, h1, h2, h3 with
      | [a], [], [c], _, _, _ => rfl)
  exact ⟨mv, h⟩
def rTupOf (K : PySem.W.Frag) : List V → Hp → VK → Prop := fun xs H Q => ∃ p ys, xs = [V.ref p] ∧ ((SqL K H p ys ∧ ∀ l, H l = none → Q (.ref l) (upd H l (.tup ys))) ∨ SqT K H p ys ∧ Q (.ref p) H)
theorem call_tupK {X : Cx} : CallR X (.type "tuple") (rTupOf X.K) := call_tuple_of
def spHp : Sp := fun vs H Q _ => ∃ (r w : Nat) (ks : List Int), vs = [.ref r, .int w] ∧ (1 ≤ w ∧ w ≤ 4) ∧ RowIn H r ks ∧ faultL ks w = [] ∧ ∀ H' q, Same H H' → H' q = some (.tup (ks.map V.int)) → Q (.ref q) H'
theorem ok_hp (T : Tx K mg A) : FnOk P w K mg base CX0 8 A.f_heap_of A.d_heap_of ["row", "arms"] spHp := by
  obtain ⟨mf, kf⟩ := kb_fau T
  refine T.F_heap_of.ok sc_heap_of (fun vs H Q E h => ?_) (fun cdv B outer s H vs Q E hr h => ?_)
  · obtain ⟨r, w, ks, rfl, _⟩ := h
    rfl
  · obtain ⟨r, w, ks, rfl, hw, hrow, hf, q⟩ := h
    have nd := sc_heap_of.nd
    refine ⟨_, PSs.nox (pss_cons (ps_set (i := 2) nd rfl (Or.inl rfl) (pe_callN (ok_fau T) (hr.mono (by decide)) (by rfl) T.m_faults T.F_faults.kp kf pass0 (pa_cons (pv 0) pa_nil) (pk_cons (pv 1) pk_nil)))
      (pss_cons (ps_if (pt_truth (pv 2) (fun _ => rfl)) (pss_one ps_never) pss_nil)
      (pss_one (ps_ret (pe_callTy (r := rTupOf K) call_tupK (by rfl) T.g_tuple (by decide +kernel) (pa_cons (pv 0) pa_nil)))))), ?_⟩
    refine ⟨_, rfl, _, rfl, rfl, rfl, r, w, ks, rfl, hw, hrow, fun H1 d s1 d0 hd => ?_⟩
    refine ⟨_, rfl, !(vi (faultL ks w)).isEmpty, .inl ⟨_, SqL.of hd, rfl⟩, ?_⟩
    rw [hf]
    refine iteF ?_
    rcases hrow.1.same s1 with h | h
    · exact ⟨_, rfl, r, _, rfl, .inl ⟨SqL.of h, fun t nt => q _ t (s1.trans (Same.up nt)) upd_same⟩⟩
    · exact ⟨_, rfl, r, _, rfl, .inr ⟨SqT.of h, q _ r s1 h⟩⟩
end
end Tw

set_option Elab.async false
set_option linter.all false
set_option maxRecDepth 100000
set_option maxHeartbeats 2000000
namespace Tw
open PySem PySem.Spec PyProof.Rows L2
section
variable {P : Program} {w : World} {K : PySem.W.Frag} {mg : Str → Option Value} {base : Heap} {A : Ad}
open LamX (ExtN Tabs TabS)
theorem b_hp (T : Tx K mg A) : L2.Binds K A.d_heap_of ["row", "arms"] [] := T.F_heap_of.binds fun _ _ _ _ _ _ us hl => match us, hl with | [_, _], _ => rfl
def upF : Nat → Nat → Nat → List Nat
  | 0, _, p => [p]
  | k + 1, w, p => if p = 0 then [0] else p :: upF k w ((p - 1) / w)
def upL (w p : Nat) : List Nat := upF 13 w p
def wayL (w p : Nat) : List Nat := (upL w p).reverse
theorem swp_len (ks : List Int) (a b : Nat) : (swp ks a b).length = ks.length := by unfold swp; rw [List.length_set, List.length_set]
theorem goUp_go {w f : Nat} {ks : List Int} {p : Nat} {way : List Nat} {lk : Nat} (h0 : p ≠ 0) (h : keyAt ks p < keyAt ks ((p - 1) / w)) : goUp w (f + 1) ks p way lk = goUp w f (swp ks p ((p - 1) / w)) ((p - 1) / w) (way ++ [(p - 1) / w]) (lk + 1) := by
  rw [goUp, if_neg h0, if_pos h]
theorem goUp_stay {w f : Nat} {ks : List Int} {p : Nat} {way : List Nat} {lk : Nat} (h0 : p ≠ 0) (h : ¬ keyAt ks p < keyAt ks ((p - 1) / w)) : goUp w (f + 1) ks p way lk = (ks, way, lk + 1) := by
  rw [goUp, if_neg h0, if_neg h]
/-- what stood before an instance was made stands behind its making -/
theorem new_same {C x dx : Addr} {H H' : Hp} (nx : H x = none) (ndx : H dx = none) (k : ∀ b o, (upd (upd H dx (.own x)) x (.ins C dx [])) b = some o → b ≠ x → H' b = some o) : Same H H' := fun b o e => by
  refine k b o ?_ (ne_of_none e nx)
  rw [upd_ne (ne_of_none e nx), upd_ne (ne_of_none e ndx)]
  exact e
theorem b_way (T : Tx K mg A) : L2.Binds K A.d_t_way_to ["self", "place"] [] := T.F_t_way_to.binds fun _ _ _ _ _ _ us hl => match us, hl with | [_, _], _ => rfl
theorem vi_len (l : List Nat) : (vi l).length = l.length := by unfold vi; rw [List.length_map]
theorem up_len : ∀ w, w < 5 → ∀ p, p < 13 → 1 ≤ w → (upL w p).length ≤ 13 := by decide +kernel
theorem vi_app (a b : List Nat) : vi (a ++ b) = vi a ++ vi b := by unfold vi; rw [List.map_append]
theorem up_eq : ∀ w, w < 5 → ∀ p, p < 13 → 1 ≤ w → upL w p = if p = 0 then [0] else p :: upL w ((p - 1) / w) := by decide +kernel
theorem vi_rev (a : List Nat) : (vi a).reverse = vi a.reverse := by unfold vi; rw [List.map_reverse]
/-- a number that falls while a place goes up -/
def muV : Option (Option V) → Nat
  | some (some (V.int z)) => z.toNat + 1
  | _ => 0
def spWay (C : Addr) : Sp := fun vs H Q _ => ∃ (p n w i : Nat), vs = [.ref p, .int i] ∧ TreeAt C H p n w ∧ i < n ∧ ∀ H' q, Same H H' → H q = none → H' q = some (.tup (vi (wayL w i))) → Q (.ref q) H'
theorem ok_way (T : Tx K mg A) : FnOk P w K mg base CX0 5 A.f_t_way_to A.d_t_way_to ["self", "place"] (spWay A.C) := by
  refine T.F_t_way_to.ok sc_t_way_to (fun vs H Q E h => ?_) (fun cdv B outer s H vs Q E hr h => ?_)
  · obtain ⟨p, n, w, i, rfl, _⟩ := h
    rfl
  · obtain ⟨p, n, w, i, rfl, t, hi, q⟩ := h
    refine ⟨_, pss_cons (ps_set (i := 2) sc_t_way_to.nd rfl (Or.inl rfl) (pe_lst (pa_cons (pv 1) pa_nil)))
      (pss_cons (ps_set (i := 3) sc_t_way_to.nd rfl (Or.inl rfl) (pe_meth (pv 0) T.cT T.M_t_parent (ok_par T) hr (b_par T) .nil pass0 (pa_cons (pv 1) pa_nil)))
      (pss_cons (ps_while PassesOwn.never (pt_cmpR op_notN (pv 3) pe_non (nomark _))
        (pss_cons (ps_expr (pe_bm PySem.F.plainAttrs_list PySem.F.slot_list_append PySem.F.type_list_append mt_append (pv 2) (pa_cons (pv 3) pa_nil)))
        (pss_one (ps_set (i := 3) sc_t_way_to.nd rfl (Or.inl rfl) (pe_meth (pv 0) T.cT T.M_t_parent (ok_par T) hr (b_par T) .nil pass0 (pa_cons (pv 3) pa_nil))))))
      (pss_one (ps_ret (pe_callTy call_tuple_of (by rfl) T.g_tuple (by decide +kernel) (pa_cons (pe_revL (pv 2)) pa_nil)))))), ?_⟩
    obtain ⟨dx, l, h1, h2⟩ := t.ob
    have noP : (tf n w l).lookup ("parent" : Str) = none := tf_no _ _ _ (by decide +kernel) (by decide +kernel) (by decide +kernel)
    refine ⟨_, rfl, by show 1 ≤ sizeLine; decide, fun d hd => ?_⟩
    have s1 : Same H (upd H d (.lst [V.int (i : Nat)])) := Same.up hd
    refine ⟨_, rfl, p, dx, _, rfl, s1 _ _ h1, noP, _, rfl, p, n, w, i, rfl, t.same s1, hi, ?_⟩
    refine while_by (fun σ H' => ∃ (c : Nat) (acc : List Nat), σ = [some (.ref p), some (.int i), some (.ref d), some (parV w c)] ∧ c < n ∧ Acc H d (vi (acc ++ [c])) H' ∧ acc ++ upL w c = upL w i ∧ acc.length ≤ 12)
      (fun σ _ => muV σ[3]?) ⟨i, [], rfl, hi, ⟨s1, hd, upd_same⟩, rfl, Nat.zero_le _⟩ ?_ ?_
    · rintro σ H' ⟨c, acc, rfl, hc, ac, ea, hl⟩
      have hn := t.hn
      have hw := t.hw
      have eu := up_eq w (by omega) c (by omega) hw.1
      refine ⟨_, rfl, rfl, _, rfl, ?_⟩
      by_cases h0 : c = 0
      · have ev : parV w c = V.non := by unfold parV; rw [if_pos h0]
        rw [ev, decide_eq_true (rfl : V.non = V.non)]
        refine iteF ?_
        rw [if_pos h0] at eu
        refine ⟨_, rfl, d, _, rfl, SqL.of ac.a, fun r hr0 => ⟨r, _, rfl, .inl ⟨SqL.of upd_same, fun u hu => q _ u (ac.s.trans ((Same.up hr0).trans (Same.up hu))) (ac.s.free ((Same.up hr0).free hu)) ?_⟩⟩⟩
        unfold wayL
        rw [upd_same, vi_rev, ← ea, eu, h0]
      · have ev : parV w c = V.int ((c - 1) / w : Nat) := by unfold parV; rw [if_neg h0]
        rw [ev, decide_eq_false (show ¬ V.int ((c - 1) / w : Nat) = V.non from fun z => nomatch z)]
        refine iteT ?_
        rw [if_neg h0] at eu
        have hlt : (c - 1) / w < c := Nat.lt_of_le_of_lt (Nat.div_le_self _ _) (by omega)
        have hL : acc.length + 1 + (upL w ((c - 1) / w)).length = (upL w i).length := by
          rw [← ea, eu, List.length_append, List.length_cons]
          omega
        have hL2 := up_len w (by omega) i (by omega) hw.1
        have hL3 := up_eq w (by omega) ((c - 1) / w) (by omega) hw.1
        have hL4 : 1 ≤ (upL w ((c - 1) / w)).length := by
          rw [hL3]
          split
          · exact Nat.le_refl _
          · rw [List.length_cons]; omega
        refine ⟨_, rfl, .inl ⟨rfl, _, SqL.of ac.a⟩, _, rfl, d, _, _, rfl, rfl, ac.a, small1000 (by rw [vi_len, List.length_append, List.length_singleton]; omega), ?_⟩
        have e2 : vi (acc ++ [c]) ++ [V.int ((c - 1) / w : Nat)] = vi (acc ++ [c] ++ [(c - 1) / w]) := by rw [vi_app (acc ++ [c])]; rfl
        rw [e2]
        have ac2 : Acc H d (vi (acc ++ [c] ++ [(c - 1) / w])) (upd H' d (.lst (vi (acc ++ [c] ++ [(c - 1) / w])))) := ac.push
        refine ⟨_, rfl, p, dx, _, rfl, ac2.s _ _ h1, noP, _, rfl, p, n, w, (c - 1) / w, rfl, t.same ac2.s, by omega, ?_⟩
        refine ⟨⟨(c - 1) / w, acc ++ [c], rfl, by omega, ac2, ?_, by rw [List.length_append, List.length_singleton]; omega⟩, ?_⟩
        · rw [← ea, eu, List.append_assoc]
          rfl
        · show muV (some (some (parV w ((c - 1) / w)))) < muV (some (some (V.int ((c - 1) / w : Nat))))
          unfold parV
          split
          · show 0 < _
            exact Nat.succ_pos _
          · rename_i h9
            show (((((c - 1) / w - 1) / w : Nat) : Int)).toNat + 1 < ((((c - 1) / w : Nat) : Int)).toNat + 1
            rw [Int.toNat_natCast, Int.toNat_natCast]
            exact Nat.succ_lt_succ (Nat.lt_of_le_of_lt (Nat.div_le_self _ _) (Nat.sub_lt (Nat.pos_of_ne_zero h9) Nat.one_pos))
    · rintro σ' H1 Q1 Q2 mono ⟨v, hv, e1, b1, e2, z⟩
      exact ⟨v, hv, e1, b1, e2, mono _ _ z⟩
def wz (l : List Nat) : List Int := l.map fun i => ((i : Nat) : Int)
theorem vi_ints (l : List Nat) : vi l = (l.map fun i => ((i : Nat) : Int)).map V.int := by unfold vi; rw [List.map_map]; rfl
theorem vi_wz (l : List Nat) : vi l = (wz l).map V.int := vi_ints l
theorem ixN_nat {n p : Nat} (h : p < n) : ixN n (p : Int) = some p := by
  unfold ixN
  rw [if_pos (by omega), if_pos (by omega), Int.toNat_natCast]
theorem last_at {xs : List V} {y : V} : atI (xs ++ [y]) (-1) = some y := by
  unfold atI ixN
  rw [if_neg (by omega), if_pos (by simp; omega), show ((-1 : Int) + ((xs ++ [y]).length : Nat)).toNat = xs.length by rw [List.length_append, List.length_singleton]; omega]
  simp
theorem set_int (ks : List Int) (p : Nat) (v : Int) : (ks.map V.int).set p (V.int v) = (ks.set p v).map V.int := (List.map_set ..).symm
theorem up_chain : ∀ w, w < 5 → ∀ p, p < 13 → 1 ≤ w → ∀ i, i < (upL w p).length - 1 → (upL w p).getD i 0 ≠ 0 ∧ ((upL w p).getD i 0 - 1) / w = (upL w p).getD (i + 1) 0 := by decide +kernel
theorem up_ends : ∀ w, w < 5 → ∀ p, p < 13 → 1 ≤ w → (upL w p).getD ((upL w p).length - 1) 0 = 0 ∧ 1 ≤ (upL w p).length ∧ (upL w p).getD 0 0 = p ∧ ∀ i, i < (upL w p).length → (upL w p).getD i 0 ≤ p := by decide +kernel
def zf (t1 t2 lk : Nat) : List (Str × V) := putF "looks" (.int lk) (putF "way" (.ref t2) (putF "row" (.ref t1) []))
/-- a Sift stands at p -/
def SiftAt (C : Addr) (H : Hp) (p : Addr) (ks ws : List Int) (lk : Nat) : Prop := ∃ (dx t1 t2 : Addr), H p = some (.ins C dx (zf t1 t2 lk)) ∧ H t1 = some (.tup (ks.map V.int)) ∧ H t2 = some (.tup (ws.map V.int))
theorem SiftAt.ext {C : Addr} {H H' : Hp} {p : Addr} {ks ws : List Int} {lk : Nat} (h : SiftAt C H p ks ws lk) (e : ∀ b o, H b = some o → (∀ ps, o ≠ .tbl ps) → H' b = some o) : SiftAt C H' p ks ws lk := by
  obtain ⟨dx, t1, t2, a, b, c⟩ := h
  exact ⟨dx, t1, t2, e _ _ a (fun ps z => nomatch z), e _ _ b (fun ps z => nomatch z), e _ _ c (fun ps z => nomatch z)⟩
theorem SiftAt.same {C : Addr} {H H' : Hp} {p : Addr} {ks ws : List Int} {lk : Nat} (h : SiftAt C H p ks ws lk) (s : Same H H') : SiftAt C H' p ks ws lk := h.ext fun b o e _ => s b o e
theorem m1 : ¬ (("row" : Str) = "way") := by decide +kernel
def spZi (C : Addr) : Sp := fun vs H Q _ => ∃ (p dx a b lk : Nat) (ks ws : List Int), vs = [.ref p, .ref a, .ref b, .int lk] ∧ H p = some (.ins C dx []) ∧ Sq H a (ks.map V.int) ∧ Sq H b (ws.map V.int) ∧ 
  ∀ (H' : Hp), (∀ b o, H b = some o → b ≠ p → H' b = some o) → SiftAt C H' p ks ws lk → Q .non H'
theorem ok_zi (T : Tx K mg A) : FnOk P w K mg base CX0 2 A.f_z___init__ A.d_z___init__ ["self", "row", "way", "looks"] (spZi A.CS) := by
  refine T.F_z___init__.ok sc_z___init__ (fun vs H Q E h => ?_) (fun cdv B outer s H vs Q E hr h => ?_)
  · obtain ⟨p, dx, a, b, lk, ks, ws, rfl, _⟩ := h
    rfl
  · obtain ⟨p, dx, a, b, lk, ks, ws, rfl, hp, ha, hb, q⟩ := h
    refine ⟨_, C8.pss_cut (ps_fld (pv 0) (pe_callTy call_tuple_of (by rfl) T.g_tuple (by decide +kernel) (pa_cons (pv 1) pa_nil)) rfl)
      (C8.pss_cut (ps_fld (pv 0) (pe_callTy call_tuple_of (by rfl) T.g_tuple (by decide +kernel) (pa_cons (pv 2) pa_nil)) rfl)
      (pss_one (ps_fld (pv 0) (pv 3) rfl))), ?_⟩
    have npa : p ≠ a := fun z => by rcases ha with h | h <;> rw [← z, hp] at h <;> cases h
    have npb : p ≠ b := fun z => by rcases hb with h | h <;> rw [← z, hp] at h <;> cases h
    refine ⟨fun σ H' => ∃ t1 : Addr, σ = L2.start ["self", "row", "way", "looks"] [.ref p, .ref a, .ref b, .int lk] ∧ (∀ c o, H c = some o → c ≠ p → H' c = some o) ∧ H' p = some (.ins A.CS dx (putF "row" (.ref t1) [])) ∧ H' t1 = some (.tup (ks.map V.int)) ∧ t1 ≠ p, ?_, ?_⟩
    · have go : ∀ (H1 : Hp) (t1 : Addr), Same H H1 → H1 t1 = some (.tup (ks.map V.int)) → ∃ t2 : Addr, (L2.start ["self", "row", "way", "looks"] [.ref p, .ref a, .ref b, .int lk]) = L2.start ["self", "row", "way", "looks"] [.ref p, .ref a, .ref b, .int lk] ∧ (∀ c o, H c = some o → c ≠ p → upd H1 p (.ins A.CS dx (putF "row" (.ref t1) [])) c = some o) ∧ upd H1 p (.ins A.CS dx (putF "row" (.ref t1) [])) p = some (.ins A.CS dx (putF "row" (.ref t2) [])) ∧ upd H1 p (.ins A.CS dx (putF "row" (.ref t1) [])) t2 = some (.tup (ks.map V.int)) ∧ t2 ≠ p := fun H1 t1 s1 e1 => by
        have n1 : t1 ≠ p := fun z => by rw [z, s1 _ _ hp] at e1; cases e1
        exact ⟨t1, rfl, fun c o e n => by rw [upd_ne n]; exact s1 _ _ e, upd_same, by rw [upd_ne n1]; exact e1, n1⟩
      rcases ha with h | h
      · exact ⟨_, rfl, a, _, rfl, .inl ⟨SqL.of h, fun t1 ht1 => ⟨_, rfl, p, A.CS, dx, _, rfl, (Same.up ht1) _ _ hp, T.cTS, T.nRow, (by show 0 < 1000; decide), go _ t1 (Same.up ht1) upd_same⟩⟩⟩
      · exact ⟨_, rfl, a, _, rfl, .inr ⟨SqT.of h, _, rfl, p, A.CS, dx, _, rfl, hp, T.cTS, T.nRow, (by show 0 < 1000; decide), go H a (Same.refl _) h⟩⟩
    rintro σ H1 ⟨t1, rfl, k1, hp1, e1, n1⟩
    have hb1 : Sq H1 b (ws.map V.int) := hb.elim (fun h => .inl (k1 _ _ h npb.symm)) fun h => .inr (k1 _ _ h npb.symm)
    refine ⟨fun σ H' => ∃ t2 : Addr, σ = L2.start ["self", "row", "way", "looks"] [.ref p, .ref a, .ref b, .int lk] ∧ (∀ c o, H1 c = some o → c ≠ p → H' c = some o) ∧ H' p = some (.ins A.CS dx (putF "way" (.ref t2) (putF "row" (.ref t1) []))) ∧ H' t2 = some (.tup (ws.map V.int)) ∧ t2 ≠ p, ?_, ?_⟩
    · have go : ∀ (H2 : Hp) (t2 : Addr), Same H1 H2 → H2 t2 = some (.tup (ws.map V.int)) → ∃ t3 : Addr, (L2.start ["self", "row", "way", "looks"] [.ref p, .ref a, .ref b, .int lk]) = L2.start ["self", "row", "way", "looks"] [.ref p, .ref a, .ref b, .int lk] ∧ (∀ c o, H1 c = some o → c ≠ p → upd H2 p (.ins A.CS dx (putF "way" (.ref t2) (putF "row" (.ref t1) []))) c = some o) ∧ upd H2 p (.ins A.CS dx (putF "way" (.ref t2) (putF "row" (.ref t1) []))) p = some (.ins A.CS dx (putF "way" (.ref t3) (putF "row" (.ref t1) []))) ∧ upd H2 p (.ins A.CS dx (putF "way" (.ref t2) (putF "row" (.ref t1) []))) t3 = some (.tup (ws.map V.int)) ∧ t3 ≠ p := fun H2 t2 s2 e2 => by
        have n2 : t2 ≠ p := fun z => by rw [z, s2 _ _ hp1] at e2; cases e2
        exact ⟨t2, rfl, fun c o e n => by rw [upd_ne n]; exact s2 _ _ e, upd_same, by rw [upd_ne n2]; exact e2, n2⟩
      rcases hb1 with h | h
      · exact ⟨_, rfl, b, _, rfl, .inl ⟨SqL.of h, fun t2 ht2 => ⟨_, rfl, p, A.CS, dx, _, rfl, (Same.up ht2) _ _ hp1, T.cTS, T.nWay, (by show 1 < 1000; decide), go _ t2 (Same.up ht2) upd_same⟩⟩⟩
      · exact ⟨_, rfl, b, _, rfl, .inr ⟨SqT.of h, _, rfl, p, A.CS, dx, _, rfl, hp1, T.cTS, T.nWay, (by show 1 < 1000; decide), go H1 b (Same.refl _) h⟩⟩
    rintro σ H2 ⟨t2, rfl, k2, hp2, e2, n2⟩
    refine ⟨_, rfl, _, rfl, p, A.CS, dx, _, rfl, hp2, T.cTS, T.nLooks, (by simp only [putF, m1, if_false]; show 2 < 1000; decide), ?_⟩
    refine q _ (fun c o e hc => ?_) ⟨dx, t1, t2, upd_same, ?_, ?_⟩
    · rw [upd_ne hc]
      exact k2 _ _ (k1 _ _ e hc) hc
    · rw [upd_ne n1]
      exact k2 _ _ e1 n1
    · rw [upd_ne n2]
      exact e2
theorem b_zi (T : Tx K mg A) : L2.Binds K A.d_z___init__ ["self", "row", "way", "looks"] [] := T.F_z___init__.binds fun _ _ _ _ _ _ us hl => match us, hl with | [_, _, _, _], _ => rfl
/-- two lists of one's own -/
structure Two (H : Hp) (D W : Addr) (xs ys : List V) (H' : Hp) : Prop where
  s : Same H H'
  d : H' D = some (.lst xs)
  w : H' W = some (.lst ys)
  nD : H D = Option.none
  nW : H W = Option.none
  ne : D ≠ W
theorem Two.setD {H H' : Hp} {D W : Addr} {xs ys zs : List V} (h : Two H D W xs ys H') : Two H D W zs ys (upd H' D (.lst zs)) :=
  ⟨fun b o e => by rw [upd_ne (ne_of_none e h.nD)]; exact h.s _ _ e, upd_same, by rw [upd_ne h.ne.symm]; exact h.w, h.nD, h.nW, h.ne⟩
theorem Two.setW {H H' : Hp} {D W : Addr} {xs ys zs : List V} (h : Two H D W xs ys H') : Two H D W xs zs (upd H' W (.lst zs)) :=
  ⟨fun b o e => by rw [upd_ne (ne_of_none e h.nW)]; exact h.s _ _ e, by rw [upd_ne h.ne]; exact h.d, upd_same, h.nD, h.nW, h.ne⟩
theorem Two.same {H H' H2 : Hp} {D W : Addr} {xs ys : List V} (h : Two H D W xs ys H') (s : Same H' H2) : Two H D W xs ys H2 := ⟨h.s.trans s, s _ _ h.d, s _ _ h.w, h.nD, h.nW, h.ne⟩
theorem cut_last (xs : List V) (h : xs ≠ []) : cutV xs none (some (-1)) = xs.take (xs.length - 1) ∧ ¬ (HT.sIx xs.length 0 none = 0 ∧ HT.sIx xs.length xs.length (some (-1)) = xs.length) := by
  have hl := List.length_pos_iff.mpr h
  have e : HT.sIx xs.length xs.length (some (-1)) = xs.length - 1 := by
    unfold HT.sIx
    simp
    try omega
  have e0 : HT.sIx xs.length 0 none = 0 := rfl
  refine ⟨?_, fun z => ?_⟩
  · unfold cutV
    rw [e, e0]
    simp
  · rw [e] at z
    omega
theorem rev_at {U : List Nat} {i : Nat} (h : i + 1 < U.length) : ((U.reverse).take (U.length - 1))[(U.length - 1) - 1 - i]? = some (U.getD (i + 1) 0) := by
  rw [List.getElem?_take_of_lt (by omega), List.getElem?_reverse (by omega), List.getD_eq_getElem?_getD, show U.length - 1 - (U.length - 1 - 1 - i) = i + 1 by omega, List.getElem?_eq_getElem h]
  rfl
theorem goUp_root {w f : Nat} {ks : List Int} {way : List Nat} {lk : Nat} : goUp w f ks 0 way lk = (ks, way, lk) := by
  cases f with
  | zero => rfl
  | succ f => rw [goUp, if_pos rfl]
def resSift (C : Addr) (H : Hp) (q : Addr) (r : List Int × List Nat × Nat) : Prop := SiftAt C H q r.1 (wz r.2.1) r.2.2
def spUp (C : Addr) : Sp := fun vs H Q _ => ∃ (r p w : Nat) (ks : List Int), vs = [.ref r, .int p, .int w] ∧ (1 ≤ w ∧ w ≤ 4) ∧ RowIn H r ks ∧ p < ks.length ∧
  ∀ (H' : Hp) (q : Addr), Same H H' → resSift C H' q (goUp w 20 ks p [p] 0) → Q (.ref q) H'
theorem ok_up (T : Tx K mg A) : FnOk P w K mg base CX0 7 A.f_sift_up A.d_sift_up ["row", "place", "arms"] (spUp A.CS) := by
  obtain ⟨mo, ko⟩ := kb_of T
  refine T.F_sift_up.ok sc_sift_up (fun vs H Q E h => ?_) (fun cdv B outer s H vs Q E hr h => ?_)
  · obtain ⟨r, p, w, ks, rfl, _⟩ := h
    rfl
  · obtain ⟨r, p, w, ks, rfl, hw, hrow, hp, q⟩ := h
    have nd := sc_sift_up.nd
    refine ⟨_, PSs.nox (pss_cons (ps_set (i := 3) nd rfl (Or.inl rfl) (pe_cmethK (pe_glob (v := .ref A.C) (by rfl) T.mC (relR _)) T.cr T.cof (ok_of T) hr ko pass0 (pa_cons (pv 0) pa_nil) (pk_cons (pv 2) pk_nil)))
      (pss_cons (ps_set (i := 4) nd rfl (Or.inl rfl) (pe_slice sl_tup (pe_meth (pv 3) T.cT T.M_t_way_to (ok_way T) (hr.mono (by decide)) (b_way T) .nil pass0 (pa_cons (pv 1) pa_nil)) po_none (po_some (pe_un un_neg pe_int))))
      (pss_cons (ps_set (i := 5) nd rfl (Or.inl rfl) (pe_callTy call_list_of (by rfl) T.g_list (by decide +kernel) (pa_cons (pv 0) pa_nil)))
      (pss_cons (ps_set (i := 6) nd rfl (Or.inl rfl) (pe_lst (pa_cons (pv 1) pa_nil)))
      (pss_cons (ps_set (i := 7) nd rfl (Or.inl rfl) pe_int)
      (C8.pss_cut (ps_for PassesOwn.never rfl (pi_reversed (by rfl) T.g_reversed (pa_cons (pe_callTy call_list_of (by rfl) T.g_list (by decide +kernel) (pa_cons (pv 4) pa_nil)) pa_nil)) (pg_name (i := 8) nd rfl (Or.inl rfl)) (pss_cons (ps_set (i := 9) nd rfl (Or.inl rfl) (pe_ix ix_list (pv 6) (pe_un un_neg pe_int) (fun _ _ => rfl)))
      (pss_cons (ps_aug (i := 7) nd rfl (Or.inl rfl) pe_int ip_add)
      (pss_cons (ps_if (pt_cmpR op_ge (pe_ix ix_list (pv 5) (pv 9) (fun _ _ => rfl)) (pe_ix ix_list (pv 5) (pv 8) (fun _ _ => rfl)) (nomark _)) (pss_one ps_break) pss_nil)
      (pss_cons (ps_asg (pe_tup (pa_cons (pe_ix ix_list (pv 5) (pv 8) (fun _ _ => rfl)) (pa_cons (pe_ix ix_list (pv 5) (pv 9) (fun _ _ => rfl)) pa_nil))) (pg_tup rfl (pgs_cons (pg_sub (pv 5) (pv 9) set_list) (pgs_cons (pg_sub (pv 5) (pv 8) set_list) pgs_nil))))
      (pss_one (ps_expr (pe_bm PySem.F.plainAttrs_list PySem.F.slot_list_append PySem.F.type_list_append mt_append (pv 6) (pa_cons (pv 8) pa_nil)))))))))
      (pss_one (ps_ret (pe_make T.mkCS (ok_zi T) (hr.mono (by decide)) (by rfl) T.mCS (b_zi T) .nil pass0 (pa_cons (pv 5) (pa_cons (pv 6) (pa_cons (pv 7) pa_nil)))))))))))), ?_⟩
    refine ⟨rfl, _, rfl, _, rfl, rfl, rfl, r, w, ks, rfl, hw, hrow.1, hrow.2.1, hrow.2.2, fun H1 tr s1 p0 t1 => ?_⟩
    obtain ⟨dx, l, h1, h2⟩ := t1.ob
    have noW : (tf ks.length w l).lookup ("way_to" : Str) = none := tf_no _ _ _ (by decide +kernel) (by decide +kernel) (by decide +kernel)
    have hk12 := hrow.2.1
    obtain ⟨u0, u1, u2, u3⟩ := up_ends w (by omega) p (by omega) hw.1
    have uc := up_chain w (by omega) p (by omega) hw.1
    have ul := up_len w (by omega) p (by omega) hw.1
    refine ⟨_, rfl, tr, dx, _, rfl, h1, noW, _, rfl, tr, ks.length, w, p, rfl, t1, hp, fun H2 t0 s2 n2 e2 => ?_⟩
    have ew : wayL w p = (upL w p).reverse := rfl
    have wl : (vi (wayL w p)).length = (upL w p).length := by rw [vi_len, ew, List.length_reverse]
    obtain ⟨c1, c2⟩ := cut_last (vi (wayL w p)) (List.length_pos_iff.mp (by rw [wl]; omega))
    refine ⟨_, rfl, _, rfl, t0, _, rfl, SqT.of e2, c2, fun ab nab => ?_⟩
    rw [c1, wl]
    have s3 : Same H2 (upd H2 ab (.tup ((vi (wayL w p)).take ((upL w p).length - 1)))) := Same.up nab
    have e3 : upd H2 ab (.tup ((vi (wayL w p)).take ((upL w p).length - 1))) ab = some (.tup ((vi (wayL w p)).take ((upL w p).length - 1))) := upd_same
    generalize upd H2 ab (.tup ((vi (wayL w p)).take ((upL w p).length - 1))) = H3 at s3 e3
    have s13 : Same H H3 := s1.trans (s2.trans s3)
    refine ⟨_, rfl, r, _, rfl, (hrow.1.same s13).len, fun D nD => ?_⟩
    refine ⟨_, rfl, by show 1 ≤ sizeLine; decide, fun W nW => ?_⟩
    have nDW : D ≠ W := ne_of_none (upd_same (H := H3) (a := D)) nW
    have two0 : Two H3 D W (ks.map V.int) (vi [p]) (upd (upd H3 D (.lst (ks.map V.int))) W (.lst [V.int (p : Nat)])) :=
      ⟨(Same.up nD).trans (Same.up nW), by rw [upd_ne nDW]; exact upd_same, upd_same, nD, (Same.up nD).free nW, nDW⟩
    generalize upd (upd H3 D (.lst (ks.map V.int))) W (.lst [V.int (p : Nat)]) = H4 at two0
    -- the loop
    refine ⟨fun σ' H' => ∃ (x8 x9 : Option V), σ' = [some (.ref r), some (.int p), some (.int w), some (.ref tr), some (.ref ab), some (.ref D), some (.ref W), some (.int ((goUp w 20 ks p [p] 0).2.2 : Nat)), x8, x9] ∧ Two H3 D W ((goUp w 20 ks p [p] 0).1.map V.int) (vi (goUp w 20 ks p [p] 0).2.1) H', ?_, ?_⟩
    · refine ⟨_, rfl, ab, _, rfl, .inr (SqT.of (two0.s _ _ e3)), fun c nc => ?_⟩
      have two1 := two0.same (Same.up (o := .lst ((vi (wayL w p)).take ((upL w p).length - 1))) nc)
      have ec : upd H4 c (.lst ((vi (wayL w p)).take ((upL w p).length - 1))) c = some (.lst ((vi (wayL w p)).take ((upL w p).length - 1))) := upd_same
      have nDc : D ≠ c := ne_of_none two0.d nc
      have nWc : W ≠ c := ne_of_none two0.w nc
      generalize upd H4 c (.lst ((vi (wayL w p)).take ((upL w p).length - 1))) = H5 at two1 ec
      have zl : ((vi (wayL w p)).take ((upL w p).length - 1)).length = (upL w p).length - 1 := by rw [List.length_take, wl]; omega
      refine ⟨c, _, rfl, SqL.of ec, RT.for_Itv (fun i σ' H' => ∃ (ks' : List Int) (way : List Nat) (lk : Nat) (x8 x9 : Option V), σ' = [some (.ref r), some (.int p), some (.int w), some (.ref tr), some (.ref ab), some (.ref D), some (.ref W), some (.int lk), x8, x9] ∧ Two H3 D W (ks'.map V.int) (vi (way ++ [(upL w p).getD i 0])) H' ∧
        H' c = some (.lst ((vi (wayL w p)).take ((upL w p).length - 1))) ∧ i ≤ (upL w p).length - 1 ∧ ks'.length = ks.length ∧ way.length = i ∧ goUp w 20 ks p [p] 0 = goUp w (20 - i) ks' ((upL w p).getD i 0) (way ++ [(upL w p).getD i 0]) lk) ?_ ?_ ?_ ?_⟩
      · exact ⟨ks, [], 0, none, none, rfl, by rw [u2]; exact two1, ec, by omega, rfl, rfl, by rw [u2]; rfl⟩
      · rintro i σ' H' ⟨_, _, _, _, _, _, _, h, _⟩
        exact SqL.of h
      · rintro i x σ' H' hi hx ⟨ks', way, lk, x8, x9, rfl, two, hc, hi2, hkl, hwl, eg⟩
        rw [zl] at hi hx
        obtain ⟨n0, np⟩ := uc i hi
        have hx2 : x = V.int (((upL w p).getD (i + 1) 0 : Nat) : Int) := by
          have e := rev_at (U := upL w p) (i := i) (by omega)
          rw [← ew] at e
          unfold vi at hx
          rw [← List.map_take, List.getElem?_map, e] at hx
          exact (Option.some.inj hx).symm
        subst hx2
        have b1 := u3 i (by omega)
        have b2 := u3 (i + 1) (by omega)
        have hc1 : (upL w p).getD i 0 < ks'.length := by omega
        have hc2 : (upL w p).getD (i + 1) 0 < ks'.length := by omega
        have hlast : atI (vi (way ++ [(upL w p).getD i 0])) (-1) = some (V.int (((upL w p).getD i 0 : Nat) : Int)) := by
          rw [vi_app]
          exact last_at
        have hlen14 : (way ++ [(upL w p).getD i 0]).length ≤ 900 := by rw [List.length_append, List.length_singleton]; omega
        have ef : 20 - i = (20 - (i + 1)) + 1 := by omega
        generalize (upL w p).getD i 0 = cur at *
        generalize (upL w p).getD (i + 1) 0 = nx at *
        rw [ef] at eg
        refine ⟨_, rfl, _, rfl, W, _, _, _, rfl, rfl, SqL.of two.w, hlast, ?_⟩
        refine ⟨_, rfl, _, _, rfl, rfl, ?_⟩
        refine ⟨_, rfl, _, rfl, D, _, _, _, rfl, rfl, SqL.of two.d, key_at hc1, _, rfl, _, rfl, D, _, _, _, rfl, rfl, SqL.of two.d, key_at hc2, _, _, rfl, rfl, _, rfl, ?_⟩
        by_cases hlt : keyAt ks' cur < keyAt ks' nx
        · rw [decide_eq_false (show ¬ keyAt ks' cur ≥ keyAt ks' nx by omega)]
          refine iteF ?_
          rw [goUp_go n0 (by rw [np]; exact hlt), np] at eg
          refine ⟨_, rfl, _, rfl, D, _, _, _, rfl, rfl, SqL.of two.d, key_at hc2, _, rfl, _, rfl, D, _, _, _, rfl, rfl, SqL.of two.d, key_at hc1, by show 2 ≤ sizeLine; decide, fun t ht => ?_⟩
          have ntc : c ≠ t := ne_of_none hc ht
          have two2 := two.same (Same.up (o := .tup [V.int (keyAt ks' nx), V.int (keyAt ks' cur)]) ht)
          have hc3 := (Same.up (o := .tup [V.int (keyAt ks' nx), V.int (keyAt ks' cur)]) ht) _ _ hc
          have et : upd H' t (.tup [V.int (keyAt ks' nx), V.int (keyAt ks' cur)]) t = some (.tup [V.int (keyAt ks' nx), V.int (keyAt ks' cur)]) := upd_same
          generalize upd H' t (.tup [V.int (keyAt ks' nx), V.int (keyAt ks' cur)]) = G at two2 hc3 et
          refine ⟨t, _, rfl, SqT.of et, rfl, _, _, rfl, _, rfl, _, rfl, D, _, _, cur, rfl, rfl, two2.d, ixN_nat (by rw [List.length_map]; exact hc1), ?_⟩
          rw [set_int]
          have two3 : Two H3 D W ((ks'.set cur (keyAt ks' nx)).map V.int) (vi (way ++ [cur])) (upd G D (.lst ((ks'.set cur (keyAt ks' nx)).map V.int))) := two2.setD
          have hc4 : upd G D (.lst ((ks'.set cur (keyAt ks' nx)).map V.int)) c = some (.lst ((vi (wayL w p)).take ((upL w p).length - 1))) := by rw [upd_ne nDc.symm]; exact hc3
          generalize upd G D (.lst ((ks'.set cur (keyAt ks' nx)).map V.int)) = G2 at two3 hc4
          refine ⟨_, _, rfl, _, rfl, _, rfl, D, _, _, nx, rfl, rfl, two3.d, ixN_nat (by rw [List.length_map, List.length_set]; exact hc2), ?_⟩
          rw [set_int, show (ks'.set cur (keyAt ks' nx)).set nx (keyAt ks' cur) = swp ks' cur nx from rfl]
          have two4 : Two H3 D W ((swp ks' cur nx).map V.int) (vi (way ++ [cur])) (upd G2 D (.lst ((swp ks' cur nx).map V.int))) := two3.setD
          have hc5 : upd G2 D (.lst ((swp ks' cur nx).map V.int)) c = some (.lst ((vi (wayL w p)).take ((upL w p).length - 1))) := by rw [upd_ne nDc.symm]; exact hc4
          generalize upd G2 D (.lst ((swp ks' cur nx).map V.int)) = G3 at two4 hc5
          refine ⟨rfl, _, rfl, .inl ⟨rfl, _, SqL.of two4.w⟩, _, rfl, W, _, _, rfl, rfl, two4.w, small1000 (by rw [vi_len]; omega), ?_⟩
          have em : vi (way ++ [cur]) ++ [V.int (nx : Nat)] = vi ((way ++ [cur]) ++ [nx]) := by rw [vi_app (way ++ [cur])]; rfl
          rw [em]
          refine ⟨swp ks' cur nx, way ++ [cur], lk + 1, _, _, rfl, two4.setW, by rw [upd_ne nWc.symm]; exact hc5, by omega, by rw [swp_len]; exact hkl, by rw [List.length_append, hwl]; rfl, eg⟩
        · rw [decide_eq_true (show keyAt ks' cur ≥ keyAt ks' nx by omega)]
          refine iteT ?_
          rw [goUp_stay n0 (by rw [np]; exact hlt)] at eg
          rw [eg]
          exact ⟨_, _, rfl, two⟩
      · rintro σ' H' ⟨ks', way, lk, x8, x9, rfl, two, hc, hi2, hkl, hwl, eg⟩
        rw [zl, u0, goUp_root] at eg
        rw [zl, u0] at two
        rw [eg]
        exact ⟨x8, x9, rfl, two⟩
    · rintro σ' H' ⟨x8, x9, rfl, two⟩
      refine ⟨_, rfl, _, rfl, _, rfl, fun x dx2 nx ndx nex => ?_⟩
      have hD := (Same.up (o := .own x) ndx) _ _ two.d
      have hW := (Same.up (o := .own x) ndx) _ _ two.w
      have nx2 : upd H' dx2 (.own x) x = none := by rw [upd_ne nex.symm]; exact nx
      refine ⟨x, dx2, D, W, _, (goUp w 20 ks p [p] 0).1, wz (goUp w 20 ks p [p] 0).2.1, rfl, upd_same, .inl ((Same.up nx2) _ _ hD), .inl (by rw [← vi_wz]; exact (Same.up nx2) _ _ hW), fun H6 k6 st => ⟨rfl, q H6 x ?_ st⟩⟩
      exact s13.trans (two.s.trans (new_same nx ndx k6))
theorem kb_up (T : Tx K mg A) : ∃ mv : List Value, KBn K A.d_sift_up ["row", "place", "arms"] 2 ["arms"] (fun us ws => us ++ (mv ++ ws)) (fun vs zs => vs ++ zs) := by
  obtain ⟨mv, h⟩ := T.F_sift_up.kbinds0 (ps := ["row", "place", "arms"]) 2 ["arms"] [] (fun us mv ws => us ++ (mv ++ ws)) (by simp) (by simp) (fun r1 r2 r3 => r1.append (r2.append r3))
    (fun D doc pm an cdv ct us mv ws h1 h2 h3 => by
      match us, mv, ws, h1, h2, h3 with
      | [a, b], [], [c], _, _, _ => rfl)
  exact ⟨mv, h⟩
theorem map_one (l : List Int) (x : Int) : l.map V.int ++ [V.int x] = (l ++ [x]).map V.int := by rw [List.map_append]; rfl
def spPush (A : Ad) : Sp := fun vs H Q _ => ∃ (r w : Nat) (k : Int) (ks : List Int), vs = [.ref r, .int k, .int w] ∧ (1 ≤ w ∧ w ≤ 4) ∧ RowIn H r ks ∧ faultL ks w = [] ∧ (-1000000000 ≤ k ∧ k ≤ 1000000000) ∧ ks.length < 12 ∧
  ∀ (H' : Hp) (q : Addr), Same H H' → resSift A.CS H' q (goUp w 20 (ks ++ [k]) ks.length [ks.length] 0) → Q (.ref q) H'
theorem ok_push (T : Tx K mg A) : FnOk P w K mg base CX0 9 A.f_push A.d_push ["row", "key", "arms"] (spPush A) := by
  obtain ⟨mu, ku⟩ := kb_up T
  refine T.F_push.ok sc_push (fun vs H Q E h => ?_) (fun cdv B outer s H vs Q E hr h => ?_)
  · obtain ⟨r, w, k, ks, rfl, _⟩ := h
    rfl
  · obtain ⟨r, w, k, ks, rfl, hw, hrow, hf, hk, hlt, q⟩ := h
    have nd := sc_push.nd
    obtain ⟨t12, hg⟩ := cst T.c_MOST_PLACES
    refine ⟨_, PSs.nox (pss_cons (ps_set (i := 3) nd rfl (Or.inl rfl) (pe_call (ok_hp T) (hr.mono (by decide)) (by rfl) T.m_heap_of T.F_heap_of.kp (b_hp T) .nil pass0 (pa_cons (pv 0) (pa_cons (pv 2) pa_nil))))
      (pss_cons (ps_expr (pe_call (ok_ck T) (hr.mono (by decide)) (by rfl) T.m_check_key T.F_check_key.kp (b_ck T) .nil pass0 (pa_cons (pv 1) pa_nil)))
      (pss_cons (ps_if (pt_cmpR op_eq (pe_callB call_len_seq (by rfl) T.g_len PySem.boot_len (pa_cons (pv 3) pa_nil)) (pe_glob (by rfl) hg (relI _ _)) (nomark _)) (pss_one ps_never) pss_nil)
      (pss_one (ps_ret (pe_callN (ok_up T) (hr.mono (by decide)) (by rfl) T.m_sift_up T.F_sift_up.kp ku pass0 (pa_cons (pe_op op_catA (pv 3) (pe_tup (pa_cons (pv 1) pa_nil))) (pa_cons (pe_callB call_len_seq (by rfl) T.g_len PySem.boot_len (pa_cons (pv 3) pa_nil)) pa_nil)) (pk_cons (pv 2) pk_nil))))))), ?_⟩
    refine ⟨_, rfl, _, rfl, r, w, ks, rfl, hw, hrow, hf, fun H1 t s1 e1 => ?_⟩
    refine ⟨_, rfl, k, rfl, hk, ?_⟩
    refine ⟨_, rfl, t, _, rfl, .inr (SqT.of e1), rfl, _, rfl, ?_⟩
    rw [decide_eq_false (show ¬ V.int ((ks.map V.int).length : Nat) = V.int 12 by rw [List.length_map]; intro z; injection z with z; omega)]
    refine iteF ?_
    refine ⟨_, rfl, _, rfl, by show 1 ≤ sizeLine; decide, fun u nu => ?_⟩
    have su := Same.up (o := .tup [V.int k]) nu
    refine ⟨t, u, _, _, rfl, rfl, SqT.of (su _ _ e1), SqT.of upd_same, Nat.le_of_lt (small1000 (by rw [List.length_map, List.length_singleton]; omega)), fun hn => ?_, fun _ z => (nomatch z), fun hn _ c nc => ?_⟩
    · have e0 : ks = [] := List.map_eq_nil_iff.mp hn
      obtain ⟨c, rfl⟩ : ∃ c, c = u := ⟨u, rfl⟩
      have s2 := su
      have ec : upd H1 c (.tup [V.int k]) c = some (.tup ((ks ++ [k]).map V.int)) := by rw [e0]; exact upd_same
      clear su
      generalize upd H1 c (.tup [V.int k]) = H2 at s2 ec
      refine ⟨_, rfl, t, _, rfl, .inr (SqT.of (s2 _ _ e1)), _, rfl, rfl, rfl, c, ks.length, w, ks ++ [k], by rw [List.length_map]; rfl, hw, ⟨.inr ec, by rw [List.length_append, List.length_singleton]; omega, ?_⟩, by rw [List.length_append, List.length_singleton]; omega, fun H3 u s3 ru => q H3 u (s1.trans (s2.trans s3)) ru⟩
      intro z hz
      rcases List.mem_append.mp hz with y | y
      · exact hrow.2.2 z y
      · rw [List.mem_singleton.mp y]
        exact hk
    · rw [map_one]
      have s2 := su.trans (Same.up (o := .tup ((ks ++ [k]).map V.int)) nc)
      have ec : upd (upd H1 u (.tup [V.int k])) c (.tup ((ks ++ [k]).map V.int)) c = some (.tup ((ks ++ [k]).map V.int)) := upd_same
      generalize upd (upd H1 u (.tup [V.int k])) c (.tup ((ks ++ [k]).map V.int)) = H2 at s2 ec
      refine ⟨_, rfl, t, _, rfl, .inr (SqT.of (s2 _ _ e1)), _, rfl, rfl, rfl, c, ks.length, w, ks ++ [k], by rw [List.length_map]; rfl, hw, ⟨.inr ec, by rw [List.length_append, List.length_singleton]; omega, ?_⟩, by rw [List.length_append, List.length_singleton]; omega, fun H3 u s3 ru => q H3 u (s1.trans (s2.trans s3)) ru⟩
      intro z hz
      rcases List.mem_append.mp hz with y | y
      · exact hrow.2.2 z y
      · rw [List.mem_singleton.mp y]
        exact hk
end
end Tw

set_option Elab.async false
set_option linter.all false
set_option maxRecDepth 100000
set_option maxHeartbeats 2000000
namespace Tw
open PySem PySem.Spec PyProof.Rows L2
section
variable {P : Program} {w : World} {K : PySem.W.Frag} {mg : Str → Option Value} {base : Heap} {A : Ad}
open LamX (ExtN Tabs TabS)
theorem tabs_upd {T : List (Addr × Str)} {H : Hp} {D : Addr} {xs : List V} {o : HO} (t : Tabs T H) (h : H D = some (.lst xs)) : Tabs T (upd H D o) := fun p hp => by
  obtain ⟨ps, h1, h2, h3⟩ := t p hp
  refine ⟨ps, by rw [upd_ne (ne_of h1 h (by intro z; cases z))]; exact h1, h2, fun pos cv hc => ?_⟩
  obtain ⟨c, e1, e2⟩ := h3 pos cv hc
  exact ⟨c, e1, by rw [upd_ne (ne_of e2 h (by intro z; unfold LamX.CodeO at z; cases z))]; exact e2⟩
/-- two lists of one's own, where code may be made -/
structure TwoE (T : List (Addr × Str)) (H : Hp) (D W : Addr) (xs ys : List V) (H' : Hp) : Prop where
  e : ExtN H H'
  t : Tabs T H'
  d : H' D = some (.lst xs)
  w : H' W = some (.lst ys)
  nD : H D = Option.none
  nW : H W = Option.none
  ne : D ≠ W
section
variable {T : List (Addr × Str)} {H H' H2 : Hp} {D W : Addr} {xs ys zs : List V}
theorem TwoE.setD (h : TwoE T H D W xs ys H') : TwoE T H D W zs ys (upd H' D (.lst zs)) :=
  ⟨fun b o e n => by rw [upd_ne (ne_of_none e h.nD)]; exact h.e _ _ e n, tabs_upd h.t h.d, upd_same, by rw [upd_ne h.ne.symm]; exact h.w, h.nD, h.nW, h.ne⟩
theorem TwoE.setW (h : TwoE T H D W xs ys H') : TwoE T H D W xs zs (upd H' W (.lst zs)) :=
  ⟨fun b o e n => by rw [upd_ne (ne_of_none e h.nW)]; exact h.e _ _ e n, tabs_upd h.t h.w, by rw [upd_ne h.ne]; exact h.d, upd_same, h.nD, h.nW, h.ne⟩
theorem TwoE.same (h : TwoE T H D W xs ys H') (s : Same H' H2) : TwoE T H D W xs ys H2 := ⟨h.e.trans (extN_of s), h.t.ext s, s _ _ h.d, s _ _ h.w, h.nD, h.nW, h.ne⟩
theorem TwoE.ext (h : TwoE T H D W xs ys H') (e : ExtN H' H2) (t : Tabs T H2) : TwoE T H D W xs ys H2 := ⟨h.e.trans e, t, e _ _ h.d (fun ps z => nomatch z), e _ _ h.w (fun ps z => nomatch z), h.nD, h.nW, h.ne⟩
end
theorem TreeAt.ext {C : Addr} {H H' : Hp} {p n w : Nat} (h : TreeAt C H p n w) (e : ExtN H H') : TreeAt C H' p n w :=
  ⟨let ⟨dx, t, a, b⟩ := h.ob; ⟨dx, t, e _ _ a (fun ps z => nomatch z), e _ _ b (fun ps z => nomatch z)⟩, h.hn, h.hw⟩
theorem Sq.ext {H H' : Hp} {a : Addr} {xs : List V} (h : Sq H a xs) (e : ExtN H H') : Sq H' a xs := h.elim (fun x => .inl (e _ _ x (fun ps z => nomatch z))) fun x => .inr (e _ _ x (fun ps z => nomatch z))
theorem RowIn.ext {H H' : Hp} {a : Addr} {ns : List Int} (h : RowIn H a ns) (e : ExtN H H') : RowIn H' a ns := ⟨h.1.ext e, h.2⟩
theorem b_gi (T : Tx K mg A) : L2.Binds K A.d_t___getitem__ ["self", "place"] [] := T.F_t___getitem__.binds fun _ _ _ _ _ _ us hl => match us, hl with | [_, _], _ => rfl
/-- the children of a place, as the program cuts them -/
def kids (n w i : Nat) : List V := cutV (pl n) (some ((i : Int) * (w : Int) + 1)) (some ((i : Int) * (w : Int) + 1 + (w : Int)))
def spGi (C : Addr) : Sp := fun vs H Q _ => ∃ (p n w i : Nat), vs = [.ref p, .int i] ∧ TreeAt C H p n w ∧ i < n ∧ ∀ H' q, Same H H' → H' q = some (.tup (kids n w i)) → Q (.ref q) H'
theorem ok_gi (T : Tx K mg A) : FnOk P w K mg base CX0 4 A.f_t___getitem__ A.d_t___getitem__ ["self", "place"] (spGi A.C) := by
  refine T.F_t___getitem__.ok sc_t___getitem__ (fun vs H Q E h => ?_) (fun cdv B outer s H vs Q E hr h => ?_)
  · obtain ⟨p, n, w, i, rfl, _⟩ := h
    rfl
  · obtain ⟨p, n, w, i, rfl, t, hi, q⟩ := h
    obtain ⟨dx, l, h1, h2⟩ := t.ob
    refine ⟨_, pss_cons (ps_expr (pe_call (ok_cp T) hr (by rfl) T.m_check_place T.F_check_place.kp (b_cp T) .nil pass0 (pa_cons (pv 1) (pa_cons (pe_fld (pv 0) rfl) pa_nil))))
      (pss_cons (ps_set (i := 2) sc_t___getitem__.nd rfl (Or.inl rfl) (pe_op op_add (pe_op op_mul (pv 1) (pe_fld (pv 0) rfl)) pe_int))
      (pss_one (ps_ret (pe_slice sl_tup (pe_fld (pv 0) rfl) (po_some (pv 2)) (po_some (pe_op op_add (pv 2) (pe_fld (pv 0) rfl))))))), ?_⟩
    refine ⟨_, rfl, _, rfl, p, A.C, dx, _, _, rfl, h1, T.cT, T.nMany, tf_many _ _ _, _, _, rfl, ⟨by omega, by omega⟩, ?_⟩
    refine ⟨_, rfl, _, rfl, p, A.C, dx, _, _, rfl, h1, T.cT, T.nArms, tf_arms _ _ _, _, _, rfl, rfl, .inl ⟨by have := t.hn; omega, by have := t.hn; omega⟩, _, _, rfl, rfl, ?_⟩
    refine ⟨_, rfl, p, A.C, dx, _, _, rfl, h1, T.cT, T.nPl, tf_pl _ _ _, ?_⟩
    refine ⟨_, rfl, _, rfl, _, rfl, _, rfl, p, A.C, dx, _, _, rfl, h1, T.cT, T.nArms, tf_arms _ _ _, _, _, rfl, rfl, _, rfl, ?_⟩
    refine ⟨l, pl n, rfl, SqT.of h2, fun z => ?_, fun r hr0 => q _ r (Same.up hr0) upd_same⟩
    have z1 := z.1
    rw [pl_len, show ((i : Int) * (w : Int) + 1) = ((i * w + 1 : Nat) : Int) by push_cast; rfl, HT.sIx_nat] at z1
    omega
def kidsN (n w i : Nat) : List Nat := ((List.range n).drop (min (i * w + 1) n)).take (min (i * w + 1 + w) n - min (i * w + 1) n)
theorem kids_same : ∀ n, n < 13 → ∀ w, w < 5 → ∀ i, i < n → 1 ≤ w → kidsN n w i = kidL n w i := by decide +kernel
theorem kids_eq (n w i : Nat) : kids n w i = vi (kidsN n w i) := by
  unfold kids cutV kidsN
  rw [pl_len, show ((i : Int) * (w : Int) + 1) = ((i * w + 1 : Nat) : Int) by push_cast; rfl, show (((i * w + 1 : Nat) : Int) + (w : Int)) = ((i * w + 1 + w : Nat) : Int) by push_cast; rfl, HT.sIx_nat, HT.sIx_nat]
  unfold vi pl
  rw [List.map_take, List.map_drop]
theorem least_of {ks : List Int} {l : List Nat} {j : Nat} (h : Cl.FirstLeast (fun i => keyAt ks (l.getD i 0)) l.length j) : l.getD j 0 = leastC ks l := by
  have h0 := h.1
  obtain ⟨n, en⟩ : ∃ n, l.length = n + 1 := ⟨l.length - 1, by omega⟩
  have b := Cl.best_is (fun i => keyAt ks (l.getD i 0)) n
  rw [← en] at b
  unfold leastC
  rw [Cl.first_one h b, show l.length - 1 = n by omega]
theorem least_mem {ks : List Int} {l : List Nat} (h : l ≠ []) : leastC ks l ∈ l := by
  obtain ⟨n, en⟩ : ∃ n, l.length = n + 1 := ⟨l.length - 1, by have := List.length_pos_iff.mpr h; omega⟩
  have b := Cl.best_is (fun i => keyAt ks (l.getD i 0)) n
  rw [← en] at b
  rw [← least_of b, List.getD_eq_getElem?_getD, List.getElem?_eq_getElem b.1]
  exact List.getElem_mem b.1
theorem kid_len : ∀ n, n < 13 → ∀ w, w < 5 → ∀ i, i < n → 1 ≤ w → (kidL n w i).length ≤ 4 := by decide +kernel
theorem kid_in {n w i j : Nat} (hw : 1 ≤ w) (h : j ∈ kidL n w i) : i < j ∧ j < n := by
  unfold kidL at h
  obtain ⟨k, hk, rfl⟩ := List.mem_map.mp h
  obtain ⟨h1, h2⟩ := List.mem_filter.mp hk
  have h1 := List.mem_range.mp h1
  have h2 := of_decide_eq_true h2
  have : k / w ≤ k := Nat.div_le_self _ _
  omega
/-- least_child -/
def spLc (K : PySem.W.Frag) (A : Ad) : Sp := fun vs H Q _ => ∃ (l a : Addr) (ks ns : List Int), vs = [.ref l, .ref a] ∧ SqL K H l (ks.map V.int) ∧ SqT K H a (ns.map V.int) ∧ 0 < ns.length ∧ (∀ n ∈ ns, 0 ≤ n ∧ n < ks.length) ∧ LamX.Tabs (TT A) H ∧
  ∀ (m : Int) (H' : Hp), LamX.ExtN H H' → LamX.Tabs (TT A) H' → Cl.LeastAt ks ns m → Q (.int m) H'
theorem ok_lc (T : Tx K mg A) (TB : LamX.TabB base mg A.c_least_child A.P_least_child) : FnOk P w K mg base CX0 2 A.f_least_child A.d_least_child ["keys", "children"] (spLc K A) := by
  obtain ⟨oc, od, kV, doc, pm, an, ct, osl, ed, lk, hcd⟩ := T.L_least_child
  rw [ed] at lk ⊢
  refine fn_of lk hcd sc_least_child (fun vs H Q E h => ?_) (fun B outer s H vs Q E hr h => ?_)
  · obtain ⟨l, a, ks, ns, rfl, _⟩ := h
    rfl
  · obtain ⟨l, a, ks, ns, rfl, hl, ha, hne, hin, hT, q⟩ := h
    refine ⟨_, PSs.nox (pss_one (ps_ret (Cl.pe_minlam (T := TT A) (x := "place") (y := "keys") (j := 0) (by rfl) T.g_min (pv 1) hr.depth hr.hd TB rfl (List.mem_singleton.mpr rfl) (fun p hp _ => by rw [List.mem_singleton.mp hp]; rfl)
      ⟨rfl, rfl, rfl, by decide +kernel, by decide +kernel, by decide +kernel⟩ (show (defScope s_least_child).names.lookup ("keys" : Str) = some NameKind.cell by decide +kernel) (by decide +kernel) rfl rfl (fun _ _ _ _ _ _ => rfl)))), ?_⟩
    exact ⟨_, rfl, a, l, ns, ks, rfl, ha, rfl, hl, hne, hin, hT, fun m H2 e t lm => q m H2 e t lm⟩
theorem b_lc (T : Tx K mg A) : L2.Binds K A.d_least_child ["keys", "children"] [] := T.F_least_child.binds fun _ _ _ _ _ _ us hl => match us, hl with | [_, _], _ => rfl
theorem wz_get (l : List Nat) (i : Nat) : (wz l).getD i 0 = ((l.getD i 0 : Nat) : Int) := by
  unfold wz
  rw [List.getD_eq_getElem?_getD, List.getD_eq_getElem?_getD, List.getElem?_map]
  cases l[i]? <;> rfl
theorem least_wz {ks : List Int} {l : List Nat} {m : Int} (h : Cl.LeastAt ks (wz l) m) : m = ((leastC ks l : Nat) : Int) := by
  obtain ⟨j, fl, e⟩ := h
  rw [wz_get] at e
  have hl : (wz l).length = l.length := by unfold wz; rw [List.length_map]
  have ef : (fun i => ks.getD ((wz l).getD i 0).toNat 0) = fun i => keyAt ks (l.getD i 0) := by
    funext i
    rw [wz_get, Int.toNat_natCast]
    rfl
  rw [hl, ef] at fl
  rw [e, least_of fl]
theorem goDown_leaf {n w f : Nat} {ks : List Int} {p : Nat} {way : List Nat} {lk : Nat} (h : kidL n w p = []) : goDown n w f ks p way lk = (ks, way, lk) := by
  cases f with
  | zero => rfl
  | succ f => rw [goDown, if_pos h]
theorem goDown_stay {n w f : Nat} {ks : List Int} {p : Nat} {way : List Nat} {lk : Nat} (h0 : kidL n w p ≠ []) (h : ¬ keyAt ks (leastC ks (kidL n w p)) < keyAt ks p) : goDown n w (f + 1) ks p way lk = (ks, way, lk + (kidL n w p).length) := by
  rw [goDown, if_neg h0, if_neg h]
theorem goDown_go {n w f : Nat} {ks : List Int} {p b : Nat} {way : List Nat} {lk : Nat} (h0 : kidL n w p ≠ []) (eb : leastC ks (kidL n w p) = b) (h : keyAt ks b < keyAt ks p) :
    goDown n w (f + 1) ks p way lk = goDown n w f (swp ks p b) b (way ++ [b]) (lk + (kidL n w p).length) := by
  rw [goDown, if_neg h0, eb, if_pos h]
def muW (σ : L2.St) (H : Hp) : Nat := match σ[6]? with
  | some (some (V.ref W)) => (match H W with | some (.lst xs) => 40 - xs.length | _ => 0)
  | _ => 0
theorem muW_at {σ : L2.St} {H : Hp} {W : Addr} {xs : List V} (h : σ[6]? = some (some (V.ref W))) (hw : H W = some (.lst xs)) : muW σ H = 40 - xs.length := by
  unfold muW
  rw [h]
  show (match H W with | some (.lst xs) => 40 - xs.length | _ => 0) = _
  rw [hw]
def spDown (A : Ad) : Sp := fun vs H Q _ => ∃ (r p w : Nat) (ks : List Int), vs = [.ref r, .int p, .int w] ∧ (1 ≤ w ∧ w ≤ 4) ∧ RowIn H r ks ∧ p < ks.length ∧ Tabs (TT A) H ∧
  ∀ (H' : Hp) (q : Addr), ExtN H H' → Tabs (TT A) H' → resSift A.CS H' q (goDown ks.length w 20 ks p [p] 0) → Q (.ref q) H'
theorem ok_down (T : Tx K mg A) (TB : LamX.TabB base mg A.c_least_child A.P_least_child) : FnOk P w K mg base CX0 7 A.f_sift_down A.d_sift_down ["row", "place", "arms"] (spDown A) := by
  obtain ⟨mo, ko⟩ := kb_of T
  refine T.F_sift_down.ok sc_sift_down (fun vs H Q E h => ?_) (fun cdv B outer s H vs Q E hr h => ?_)
  · obtain ⟨r, p, w, ks, rfl, _⟩ := h
    rfl
  · obtain ⟨r, p, w, ks, rfl, hw, hrow, hp, hT, q⟩ := h
    have nd := sc_sift_down.nd
    refine ⟨_, PSs.nox (pss_cons (ps_set (i := 3) nd rfl (Or.inl rfl) (pe_cmethK (pe_glob (v := .ref A.C) (by rfl) T.mC (relR _)) T.cr T.cof (ok_of T) hr ko pass0 (pa_cons (pv 0) pa_nil) (pk_cons (pv 2) pk_nil)))
      (pss_cons (ps_set (i := 4) nd rfl (Or.inl rfl) (pe_gi T.D_t___getitem__ (ok_gi T) (hr.mono (by decide)) (b_gi T) pass0 (pv 3) (pv 1)))
      (pss_cons (ps_set (i := 5) nd rfl (Or.inl rfl) (pe_callTy call_list_of (by rfl) T.g_list (by decide +kernel) (pa_cons (pv 0) pa_nil)))
      (pss_cons (ps_set (i := 6) nd rfl (Or.inl rfl) (pe_lst (pa_cons (pv 1) pa_nil)))
      (pss_cons (ps_set (i := 7) nd rfl (Or.inl rfl) pe_int)
      (C8.pss_cut (ps_while PassesOwn.never (pt_truth (pv 4) (fun _ => rfl)) (pss_cons (ps_set (i := 8) nd rfl (Or.inl rfl) (pe_ix ix_list (pv 6) (pe_un un_neg pe_int) (fun _ _ => rfl)))
      (pss_cons (ps_aug (i := 7) nd rfl (Or.inl rfl) (pe_callB call_len_seq (by rfl) T.g_len PySem.boot_len (pa_cons (pv 4) pa_nil)) ip_add)
      (pss_cons (ps_set (i := 9) nd rfl (Or.inl rfl) (pe_call (ok_lc T TB) (hr.mono (by decide)) (by rfl) T.m_least_child T.F_least_child.kp (b_lc T) .nil pass0 (pa_cons (pv 5) (pa_cons (pv 4) pa_nil))))
      (pss_cons (ps_if (pt_cmpR op_le (pe_ix ix_list (pv 5) (pv 8) (fun _ _ => rfl)) (pe_ix ix_list (pv 5) (pv 9) (fun _ _ => rfl)) (nomark _)) (pss_one ps_break) pss_nil)
      (pss_cons (ps_asg (pe_tup (pa_cons (pe_ix ix_list (pv 5) (pv 9) (fun _ _ => rfl)) (pa_cons (pe_ix ix_list (pv 5) (pv 8) (fun _ _ => rfl)) pa_nil))) (pg_tup rfl (pgs_cons (pg_sub (pv 5) (pv 8) set_list) (pgs_cons (pg_sub (pv 5) (pv 9) set_list) pgs_nil))))
      (pss_cons (ps_expr (pe_bm PySem.F.plainAttrs_list PySem.F.slot_list_append PySem.F.type_list_append mt_append (pv 6) (pa_cons (pv 9) pa_nil)))
      (pss_one (ps_set (i := 4) nd rfl (Or.inl rfl) (pe_gi T.D_t___getitem__ (ok_gi T) (hr.mono (by decide)) (b_gi T) pass0 (pv 3) (pv 9)))))))))))
      (pss_one (ps_ret (pe_make T.mkCS (ok_zi T) (hr.mono (by decide)) (by rfl) T.mCS (b_zi T) .nil pass0 (pa_cons (pv 5) (pa_cons (pv 6) (pa_cons (pv 7) pa_nil)))))))))))), ?_⟩
    refine ⟨rfl, _, rfl, _, rfl, rfl, rfl, r, w, ks, rfl, hw, hrow.1, hrow.2.1, hrow.2.2, fun H1 tr s1 p0 t1 => ?_⟩
    obtain ⟨dx, l, h1, h2⟩ := t1.ob
    have hk12 := hrow.2.1
    refine ⟨_, rfl, _, rfl, tr, dx, _, rfl, h1, tr, ks.length, w, p, rfl, t1, hp, fun H2 ch s2 hch => ?_⟩
    rw [kids_eq, kids_same ks.length (by omega) w (by omega) p hp hw.1] at hch
    have s12 : Same H H2 := s1.trans s2
    refine ⟨_, rfl, r, _, rfl, (hrow.1.same s12).len, fun D nD => ?_⟩
    refine ⟨_, rfl, by show 1 ≤ sizeLine; decide, fun W nW => ?_⟩
    have nDW : D ≠ W := ne_of_none (upd_same (H := H2) (a := D)) nW
    have s24 : Same H2 (upd (upd H2 D (.lst (ks.map V.int))) W (.lst [V.int (p : Nat)])) := (Same.up nD).trans (Same.up nW)
    have two0 : TwoE (TT A) H2 D W (ks.map V.int) (vi ([] ++ [p])) (upd (upd H2 D (.lst (ks.map V.int))) W (.lst [V.int (p : Nat)])) :=
      ⟨extN_of s24, (hT.ext s12).ext s24, by rw [upd_ne nDW]; exact upd_same, upd_same, nD, (Same.up nD).free nW, nDW⟩
    have hch4 := s24 _ _ hch
    generalize upd (upd H2 D (.lst (ks.map V.int))) W (.lst [V.int (p : Nat)]) = H4 at two0 hch4
    have t2 := t1.same s2
    generalize en : ks.length = n at *
    refine ⟨fun σ' H' => ∃ (x4 x8 x9 : Option V), σ' = [some (.ref r), some (.int p), some (.int w), some (.ref tr), x4, some (.ref D), some (.ref W), some (.int ((goDown n w 20 ks p [p] 0).2.2 : Nat)), x8, x9] ∧ TwoE (TT A) H2 D W ((goDown n w 20 ks p [p] 0).1.map V.int) (vi (goDown n w 20 ks p [p] 0).2.1) H', ?_, ?_⟩
    · refine while_by (fun σ' H' => ∃ (f : Nat) (ks' : List Int) (cur : Nat) (way : List Nat) (lk : Nat) (x8 x9 : Option V) (ch : Addr), σ' = [some (.ref r), some (.int p), some (.int w), some (.ref tr), some (.ref ch), some (.ref D), some (.ref W), some (.int lk), x8, x9] ∧
        TwoE (TT A) H2 D W (ks'.map V.int) (vi (way ++ [cur])) H' ∧ H' ch = some (.tup (vi (kidL n w cur))) ∧ cur < n ∧ ks'.length = n ∧ way.length + f = 20 ∧ n - cur < f ∧ goDown n w 20 ks p [p] 0 = goDown n w f ks' cur (way ++ [cur]) lk) muW ?_ ?_ ?_
      · exact ⟨20, ks, p, [], 0, none, none, ch, rfl, two0, hch4, hp, en, rfl, by omega, rfl⟩
      · rintro σ' H' ⟨f, ks', cur, way, lk, x8, x9, ch', rfl, two, hch', hcur, hkl, hwf, hf, eg⟩
        refine ⟨_, rfl, !(vi (kidL n w cur)).isEmpty, .inr (.inl ⟨_, SqT.of hch', rfl⟩), ?_⟩
        obtain ⟨f, rfl⟩ : ∃ f', f = f' + 1 := ⟨f - 1, by omega⟩
        have hlast : atI (vi (way ++ [cur])) (-1) = some (V.int ((cur : Nat) : Int)) := by
          rw [vi_app]
          exact last_at
        have hmu0 : muW [some (.ref r), some (.int p), some (.int w), some (.ref tr), some (.ref ch'), some (.ref D), some (.ref W), some (.int lk), x8, x9] H' = 40 - (way.length + 1) := by
          rw [muW_at rfl two.w, vi_len, List.length_append]
          rfl
        by_cases hk0 : kidL n w cur = []
        · rw [hk0]
          refine iteF ?_
          rw [goDown_leaf hk0] at eg
          rw [eg]
          exact ⟨_, _, _, rfl, two⟩
        · have e0 : (!(vi (kidL n w cur)).isEmpty) = true := by
            cases e : kidL n w cur with
            | nil => exact absurd e hk0
            | cons a b => rfl
          rw [e0]
          refine iteT ?_
          have hmem := least_mem (ks := ks') hk0
          have hk4 := kid_len n (by omega) w (by omega) cur hcur hw.1
          obtain ⟨hb1, hb2⟩ := kid_in hw.1 hmem
          refine ⟨_, rfl, _, rfl, W, _, _, _, rfl, rfl, SqL.of two.w, hlast, ?_⟩
          refine ⟨_, rfl, _, rfl, ch', _, rfl, .inr (SqT.of hch'), _, _, rfl, rfl, ?_⟩
          refine ⟨_, rfl, _, rfl, D, ch', ks', wz (kidL n w cur), rfl, SqL.of two.d, by rw [← vi_wz]; exact SqT.of hch', ?_, ?_, two.t, fun m H5 e5 t5 hm => ?_⟩
          · unfold wz
            rw [List.length_map]
            exact List.length_pos_iff.mpr hk0
          · intro z hz
            unfold wz at hz
            obtain ⟨j, hj, rfl⟩ := List.mem_map.mp hz
            have := kid_in hw.1 hj
            omega
          have em := least_wz hm
          subst em
          generalize ebb : leastC ks' (kidL n w cur) = b at *
          have two5 := two.ext e5 t5
          have hch5 := e5 _ _ hch' (fun ps z => nomatch z)
          have hc1 : cur < ks'.length := by omega
          have hc2 : b < ks'.length := by omega
          rw [vi_len]
          refine ⟨_, rfl, _, rfl, D, _, _, _, rfl, rfl, SqL.of two5.d, key_at hc1, _, rfl, _, rfl, D, _, _, _, rfl, rfl, SqL.of two5.d, key_at hc2, _, _, rfl, rfl, _, rfl, ?_⟩
          by_cases hlt : keyAt ks' b < keyAt ks' cur
          · rw [decide_eq_false (show ¬ keyAt ks' cur ≤ keyAt ks' b by omega)]
            refine iteF ?_
            rw [goDown_go hk0 ebb hlt] at eg
            refine ⟨_, rfl, _, rfl, D, _, _, _, rfl, rfl, SqL.of two5.d, key_at hc2, _, rfl, _, rfl, D, _, _, _, rfl, rfl, SqL.of two5.d, key_at hc1, by show 2 ≤ sizeLine; decide, fun t ht => ?_⟩
            have two2 := two5.same (Same.up (o := .tup [V.int (keyAt ks' b), V.int (keyAt ks' cur)]) ht)
            have et : upd H5 t (.tup [V.int (keyAt ks' b), V.int (keyAt ks' cur)]) t = some (.tup [V.int (keyAt ks' b), V.int (keyAt ks' cur)]) := upd_same
            generalize upd H5 t (.tup [V.int (keyAt ks' b), V.int (keyAt ks' cur)]) = G at two2 et
            refine ⟨t, _, rfl, SqT.of et, rfl, _, _, rfl, _, rfl, _, rfl, D, _, _, cur, rfl, rfl, two2.d, ixN_nat (by rw [List.length_map]; exact hc1), ?_⟩
            rw [set_int]
            have two3 : TwoE (TT A) H2 D W ((ks'.set cur (keyAt ks' b)).map V.int) (vi (way ++ [cur])) (upd G D (.lst ((ks'.set cur (keyAt ks' b)).map V.int))) := two2.setD
            generalize upd G D (.lst ((ks'.set cur (keyAt ks' b)).map V.int)) = G2 at two3
            refine ⟨_, _, rfl, _, rfl, _, rfl, D, _, _, b, rfl, rfl, two3.d, ixN_nat (by rw [List.length_map, List.length_set]; exact hc2), ?_⟩
            rw [set_int, show (ks'.set cur (keyAt ks' b)).set b (keyAt ks' cur) = swp ks' cur b from rfl]
            have two4 : TwoE (TT A) H2 D W ((swp ks' cur b).map V.int) (vi (way ++ [cur])) (upd G2 D (.lst ((swp ks' cur b).map V.int))) := two3.setD
            generalize upd G2 D (.lst ((swp ks' cur b).map V.int)) = G3 at two4
            refine ⟨rfl, _, rfl, .inl ⟨rfl, _, SqL.of two4.w⟩, _, rfl, W, _, _, rfl, rfl, two4.w, small1000 (by rw [vi_len, List.length_append, List.length_singleton]; omega), ?_⟩
            have em : vi (way ++ [cur]) ++ [V.int (b : Nat)] = vi ((way ++ [cur]) ++ [b]) := by rw [vi_app (way ++ [cur])]; rfl
            rw [em]
            have two6 : TwoE (TT A) H2 D W ((swp ks' cur b).map V.int) (vi ((way ++ [cur]) ++ [b])) (upd G3 W (.lst (vi ((way ++ [cur]) ++ [b])))) := two4.setW
            generalize upd G3 W (.lst (vi ((way ++ [cur]) ++ [b]))) = G4 at two6
            have t6 := t2.ext two6.e
            obtain ⟨dx6, l6, h16, h26⟩ := t6.ob
            refine ⟨_, rfl, _, rfl, tr, dx6, _, rfl, h16, tr, n, w, b, rfl, t6, hb2, fun H7 ch7 s7 hch7 => ?_⟩
            rw [kids_eq, kids_same n (by omega) w (by omega) b hb2 hw.1] at hch7
            have two7 := two6.same s7
            refine ⟨⟨f, swp ks' cur b, b, way ++ [cur], _, _, _, ch7, rfl, two7, hch7, hb2, by rw [swp_len]; exact hkl, by rw [List.length_append, List.length_singleton]; omega, by omega, eg⟩, ?_⟩
            rw [hmu0]
            show muW [some (.ref r), some (.int p), some (.int w), some (.ref tr), some (.ref ch7), some (.ref D), some (.ref W), _, _, _] H7 < _
            rw [muW_at rfl two7.w, vi_len, List.length_append, List.length_append, List.length_singleton, List.length_singleton]
            omega
          · rw [decide_eq_true (show keyAt ks' cur ≤ keyAt ks' b by omega)]
            refine iteT ?_
            rw [goDown_stay hk0 (by rw [ebb]; exact hlt)] at eg
            rw [eg]
            exact ⟨_, _, _, rfl, two5⟩
      · rintro σ' H1 Q1 Q2 mono ⟨v, hv, k, tv, z⟩
        exact ⟨v, hv, k, tv, mono _ _ z⟩
    · rintro σ' H' ⟨x4, x8, x9, rfl, two⟩
      refine ⟨_, rfl, _, rfl, _, rfl, fun x dx2 nx ndx nex => ?_⟩
      have hD := (Same.up (o := .own x) ndx) _ _ two.d
      have hW := (Same.up (o := .own x) ndx) _ _ two.w
      have nx2 : upd H' dx2 (.own x) x = none := by rw [upd_ne nex.symm]; exact nx
      refine ⟨x, dx2, D, W, _, (goDown n w 20 ks p [p] 0).1, wz (goDown n w 20 ks p [p] 0).2.1, rfl, upd_same, .inl ((Same.up nx2) _ _ hD), .inl (by rw [← vi_wz]; exact (Same.up nx2) _ _ hW), fun H6 k6 st => ⟨rfl, q H6 x ?_ ?_ st⟩⟩
      · exact (extN_of s12).trans (two.e.trans (extN_of (new_same nx ndx k6)))
      · exact two.t.ext (new_same nx ndx k6)
theorem kb_down (T : Tx K mg A) : ∃ mv : List Value, KBn K A.d_sift_down ["row", "place", "arms"] 2 ["arms"] (fun us ws => us ++ (mv ++ ws)) (fun vs zs => vs ++ zs) := by
  obtain ⟨mv, h⟩ := T.F_sift_down.kbinds0 (ps := ["row", "place", "arms"]) 2 ["arms"] [] (fun us mv ws => us ++ (mv ++ ws)) (by simp) (by simp) (fun r1 r2 r3 => r1.append (r2.append r3))
    (fun D doc pm an cdv ct us mv ws h1 h2 h3 => by
      match us, mv, ws, h1, h2, h3 with
      | [a, b], [], [c], _, _, _ => rfl)
  exact ⟨mv, h⟩
def spCf : Sp := fun vs H Q _ => ∃ (t : Nat) (xs : List V), vs = [.ref t] ∧ H t = some (.tup xs) ∧ xs ≠ [] ∧ Q .non H
theorem ok_cf (T : Tx K mg A) : FnOk P w K mg base CX0 2 A.f_check_filled A.d_check_filled ["heap"] spCf := by
  refine T.F_check_filled.ok sc_check_filled (fun vs H Q E h => ?_) (fun cdv B outer s H vs Q E hr h => ?_)
  · obtain ⟨t, xs, rfl, _⟩ := h
    rfl
  · obtain ⟨t, xs, rfl, ht, hn, q⟩ := h
    refine ⟨_, (pss_one (ps_if (pt_not (pt_truth (pv 0) (fun _ => rfl))) (pss_one ps_never) pss_nil)), ?_⟩
    refine ⟨_, rfl, !xs.isEmpty, .inr (.inl ⟨_, SqT.of ht, rfl⟩), ?_⟩
    cases xs with
    | nil => exact absurd rfl hn
    | cons a b => exact iteF q
theorem b_cf (T : Tx K mg A) : L2.Binds K A.d_check_filled ["heap"] [] := T.F_check_filled.binds fun _ _ _ _ _ _ us hl => match us, hl with | [_], _ => rfl
theorem cut_rest (ks : List Int) (h : 1 ≤ ks.length) : cutV (ks.map V.int) (some 1) none = (ks.drop 1).map V.int ∧ ¬ (HT.sIx (ks.map V.int).length 0 (some 1) = 0 ∧ HT.sIx (ks.map V.int).length (ks.map V.int).length none = (ks.map V.int).length) := by
  have e : HT.sIx (ks.map V.int).length 0 (some 1) = 1 := by
    have := HT.sIx_nat (ks.map V.int).length 0 1
    rw [List.length_map] at this ⊢
    rw [show (some 1 : Option Int) = some ((1 : Nat) : Int) from rfl, this]
    omega
  have e2 : HT.sIx (ks.map V.int).length (ks.map V.int).length none = ks.length := by
    unfold HT.sIx
    simp
  refine ⟨?_, fun z => ?_⟩
  · unfold cutV
    rw [e, e2, ← List.map_drop, ← List.map_take, List.take_of_length_le (by rw [List.length_drop]; exact Nat.le_refl _)]
  · rw [e] at z
    omega
def putRow (k : Int) (ks : List Int) : List Int := k :: ks.drop 1
theorem putRow_len {k : Int} {ks : List Int} (h : 1 ≤ ks.length) : (putRow k ks).length = ks.length := by
  unfold putRow
  rw [List.length_cons, List.length_drop]
  omega
def TookAt (C : Addr) (H : Hp) (t : Addr) (least : Int) (r : List Int × List Nat × Nat) : Prop := ∃ q : Addr, H t = some (.tup [.int least, .ref q]) ∧ resSift C H q r
def spPut (A : Ad) : Sp := fun vs H Q _ => ∃ (r w : Nat) (k : Int) (ks : List Int), vs = [.ref r, .int k, .int w] ∧ (1 ≤ w ∧ w ≤ 4) ∧ RowIn H r ks ∧ faultL ks w = [] ∧ (-1000000000 ≤ k ∧ k ≤ 1000000000) ∧ ks ≠ [] ∧ Tabs (TT A) H ∧
  ∀ (H' : Hp) (t : Addr), ExtN H H' → Tabs (TT A) H' → TookAt A.CS H' t (ks.getD 0 0) (goDown ks.length w 20 (putRow k ks) 0 [0] 0) → Q (.ref t) H'
theorem ok_put (T : Tx K mg A) (TB : LamX.TabB base mg A.c_least_child A.P_least_child) : FnOk P w K mg base CX0 9 A.f_put_for A.d_put_for ["row", "key", "arms"] (spPut A) := by
  obtain ⟨md, kd⟩ := kb_down T
  refine T.F_put_for.ok sc_put_for (fun vs H Q E h => ?_) (fun cdv B outer s H vs Q E hr h => ?_)
  · obtain ⟨r, w, k, ks, rfl, _⟩ := h
    rfl
  · obtain ⟨r, w, k, ks, rfl, hw, hrow, hf, hk, hn, hT, q⟩ := h
    have nd := sc_put_for.nd
    have hl12 := hrow.2.1
    have hpos := List.length_pos_iff.mpr hn
    refine ⟨_, PSs.nox (pss_cons (ps_set (i := 3) nd rfl (Or.inl rfl) (pe_call (ok_hp T) (hr.mono (by decide)) (by rfl) T.m_heap_of T.F_heap_of.kp (b_hp T) .nil pass0 (pa_cons (pv 0) (pa_cons (pv 2) pa_nil))))
      (pss_cons (ps_expr (pe_call (ok_ck T) (hr.mono (by decide)) (by rfl) T.m_check_key T.F_check_key.kp (b_ck T) .nil pass0 (pa_cons (pv 1) pa_nil)))
      (pss_cons (ps_expr (pe_call (ok_cf T) (hr.mono (by decide)) (by rfl) T.m_check_filled T.F_check_filled.kp (b_cf T) .nil pass0 (pa_cons (pv 3) pa_nil)))
      (pss_one (ps_ret (pe_tup (pa_cons (pe_ix (r := rIx K) ix_seq (pv 3) pe_int (fun _ _ => rfl)) (pa_cons (pe_callN (ok_down T TB) (hr.mono (by decide)) (by rfl) T.m_sift_down T.F_sift_down.kp kd pass0 (pa_cons (pe_op op_catA (pe_tup (pa_cons (pv 1) pa_nil)) (pe_slice sl_tup (pv 3) (po_some pe_int) po_none)) (pa_cons pe_int pa_nil)) (pk_cons (pv 2) pk_nil)) pa_nil)))))))), ?_⟩
    refine ⟨_, rfl, _, rfl, r, w, ks, rfl, hw, hrow, hf, fun H1 t s1 e1 => ?_⟩
    have at0 : atI (ks.map V.int) 0 = some (V.int (ks.getD 0 0)) := key_at hpos
    refine ⟨_, rfl, k, rfl, hk, _, rfl, t, _, rfl, e1, fun z => hn (List.map_eq_nil_iff.mp z), ?_⟩
    refine ⟨_, rfl, .inr (.inl ⟨t, _, _, _, rfl, rfl, SqT.of e1, at0, ?_⟩)⟩
    obtain ⟨c1, c1n⟩ := cut_rest ks hpos
    refine ⟨_, rfl, by show 1 ≤ sizeLine; decide, fun a1 na1 => ?_⟩
    have sa := Same.up (o := .tup [V.int k]) na1
    refine ⟨_, rfl, _, rfl, t, _, rfl, SqT.of (sa _ _ e1), c1n, fun a2 na2 => ?_⟩
    rw [c1]
    have sb := Same.up (o := .tup ((ks.drop 1).map V.int)) na2
    have ea1 := sb _ _ (upd_same (H := H1) (a := a1) (o := .tup [V.int k]))
    have ea2 : upd (upd H1 a1 (.tup [V.int k])) a2 (.tup ((ks.drop 1).map V.int)) a2 = some (.tup ((ks.drop 1).map V.int)) := upd_same
    have s2 := sa.trans sb
    clear sa sb
    generalize upd (upd H1 a1 (.tup [V.int k])) a2 (.tup ((ks.drop 1).map V.int)) = H2 at s2 ea1 ea2
    have bp : ∀ z ∈ putRow k ks, -1000000000 ≤ z ∧ z ≤ 1000000000 := by
      intro z hz
      unfold putRow at hz
      rcases List.mem_cons.mp hz with y | y
      · rw [y]; exact hk
      · exact hrow.2.2 z (List.mem_of_mem_drop y)
    refine ⟨a1, a2, _, _, rfl, rfl, SqT.of ea1, SqT.of ea2, Nat.le_of_lt (small1000 (by rw [List.length_map, List.length_drop, List.length_singleton]; omega)), fun z => (nomatch z), fun _ hn2 => ?_, fun _ hn2 c nc => ?_⟩
    · have e0 : ks.drop 1 = [] := List.map_eq_nil_iff.mp hn2
      obtain ⟨c, rfl⟩ : ∃ c, c = a1 := ⟨a1, rfl⟩
      have s3 := s2
      have ec : H2 c = some (.tup ((putRow k ks).map V.int)) := by unfold putRow; rw [e0]; exact ea1
      refine ⟨_, rfl, rfl, rfl, c, 0, w, putRow k ks, rfl, hw, ⟨.inr ec, by rw [putRow_len hpos]; omega, bp⟩, by rw [putRow_len hpos]; omega, (hT.ext s1).ext s3, fun H4 p e4 t4 rp => ⟨by show 2 ≤ sizeLine; decide, fun z nz => ?_⟩⟩
      have sz := Same.up (o := .tup [V.int (ks.getD 0 0), V.ref p]) nz
      refine q _ z ((extN_of (s1.trans s3)).trans (e4.trans (extN_of sz))) (t4.ext sz) ⟨p, upd_same, ?_⟩
      rw [putRow_len hpos] at rp
      exact rp.same sz
    · have s3 := s2.trans (Same.up (o := .tup ((putRow k ks).map V.int)) nc)
      have ec : upd H2 c (.tup ((putRow k ks).map V.int)) c = some (.tup ((putRow k ks).map V.int)) := upd_same
      rw [show [V.int k] ++ (ks.drop 1).map V.int = (putRow k ks).map V.int from rfl]
      generalize upd H2 c (.tup ((putRow k ks).map V.int)) = H3 at s3 ec
      refine ⟨_, rfl, rfl, rfl, c, 0, w, putRow k ks, rfl, hw, ⟨.inr ec, by rw [putRow_len hpos]; omega, bp⟩, by rw [putRow_len hpos]; omega, (hT.ext s1).ext s3, fun H4 p e4 t4 rp => ⟨by show 2 ≤ sizeLine; decide, fun z nz => ?_⟩⟩
      have sz := Same.up (o := .tup [V.int (ks.getD 0 0), V.ref p]) nz
      refine q _ z ((extN_of (s1.trans s3)).trans (e4.trans (extN_of sz))) (t4.ext sz) ⟨p, upd_same, ?_⟩
      rw [putRow_len hpos] at rp
      exact rp.same sz
theorem par_lt {w c : Nat} (h : 1 ≤ c) : (c - 1) / w < c := Nat.lt_of_le_of_lt (Nat.div_le_self _ _) (by omega)
theorem keyAt_set {ks : List Int} {a p : Nat} {v : Int} (ha : a < ks.length) : keyAt (ks.set a v) p = if p = a then v else keyAt ks p := by
  unfold keyAt
  rw [List.getD_eq_getElem?_getD, List.getD_eq_getElem?_getD, List.getElem?_set]
  by_cases h : a = p
  · rw [if_pos h, if_pos (by omega), if_pos h.symm]
    rfl
  · rw [if_neg h, if_neg (fun z => h z.symm)]
end
end Tw

set_option Elab.async false
set_option linter.all false
set_option maxRecDepth 100000
set_option maxHeartbeats 2000000
namespace Tw
open PySem PySem.Spec PyProof.Rows L2
section
variable {P : Program} {w : World} {K : PySem.W.Frag} {mg : Str → Option Value} {base : Heap} {A : Ad}
open LamX (ExtN Tabs TabS)
theorem keyAt_swp {ks : List Int} {a b p : Nat} (ha : a < ks.length) (hb : b < ks.length) : keyAt (swp ks a b) p = if p = b then keyAt ks a else if p = a then keyAt ks b else keyAt ks p := by
  unfold swp
  rw [keyAt_set (by rw [List.length_set]; exact hb), keyAt_set ha]
theorem up_good {n w : Nat} : ∀ (f : Nat) (ks : List Int) (cur : Nat) (way : List Nat) (lk : Nat), ks.length = n → cur < n → cur ≤ f →
    (∀ c, 1 ≤ c → c < n → c ≠ cur → keyAt ks ((c - 1) / w) ≤ keyAt ks c) → (∀ c, 1 ≤ c → c < n → (c - 1) / w = cur → cur ≠ 0 → keyAt ks ((cur - 1) / w) ≤ keyAt ks c) → HeapL n w (goUp w f ks cur way lk).1
  | 0, ks, cur, way, lk, hl, hc, hf, g, up => fun c h1 h2 => g c h1 h2 (by omega)
  | f + 1, ks, cur, way, lk, hl, hc, hf, g, up => by
    by_cases h0 : cur = 0
    · subst h0
      rw [goUp_root]
      exact fun c h1 h2 => g c h1 h2 (by omega)
    · have hp := par_lt (w := w) (c := cur) (by omega)
      by_cases hlt : keyAt ks cur < keyAt ks ((cur - 1) / w)
      · rw [goUp_go h0 hlt]
        generalize ep : (cur - 1) / w = p at *
        have ka : cur < ks.length := by omega
        have kb : p < ks.length := by omega
        refine up_good f _ p _ _ (by rw [swp_len]; exact hl) (by omega) (by omega) (fun c h1 h2 hcp => ?_) (fun c h1 h2 hcp hp0 => ?_)
        · rw [keyAt_swp ka kb, keyAt_swp ka kb, if_neg hcp]
          by_cases ec : c = cur
          · subst ec
            rw [ep, if_pos rfl, if_pos rfl]
            omega
          · rw [if_neg ec]
            by_cases e1 : (c - 1) / w = p
            · rw [if_pos e1]
              have := g c h1 h2 ec
              rw [e1] at this
              omega
            · rw [if_neg e1]
              by_cases e2 : (c - 1) / w = cur
              · rw [if_pos e2]
                exact up c h1 h2 e2 h0
              · rw [if_neg e2]
                exact g c h1 h2 ec
        · have hpp := par_lt (w := w) (c := p) (by omega)
          have hc1 := par_lt (w := w) h1
          have a := g p (by omega) (by omega) (by omega)
          rw [keyAt_swp ka kb, keyAt_swp ka kb, if_neg (by omega), if_neg (by omega), if_neg (by omega)]
          by_cases ec : c = cur
          · rw [if_pos ec]
            exact a
          · rw [if_neg ec]
            have b := g c h1 h2 ec
            rw [hcp] at b
            omega
      · rw [goUp_stay h0 hlt]
        intro c h1 h2
        by_cases ec : c = cur
        · subst ec
          exact Int.not_lt.mp hlt
        · exact g c h1 h2 ec
theorem swp_perm {ks : List Int} {a b : Nat} (ha : a < ks.length) (hb : b < ks.length) : (swp ks a b).Perm ks := by
  have e1 : keyAt ks a = ks[a] := by unfold keyAt; rw [List.getD_eq_getElem?_getD, List.getElem?_eq_getElem ha]; rfl
  have e2 : keyAt ks b = ks[b] := by unfold keyAt; rw [List.getD_eq_getElem?_getD, List.getElem?_eq_getElem hb]; rfl
  unfold swp
  rw [e1, e2]
  exact List.set_set_perm ha hb
theorem up_perm {w : Nat} : ∀ (f : Nat) (ks : List Int) (cur : Nat) (way : List Nat) (lk : Nat), cur < ks.length → ((goUp w f ks cur way lk).1).Perm ks
  | 0, ks, cur, way, lk, hc => List.Perm.refl _
  | f + 1, ks, cur, way, lk, hc => by
    by_cases h0 : cur = 0
    · subst h0
      rw [goUp_root]
    · have hp := par_lt (w := w) (c := cur) (by omega)
      by_cases hlt : keyAt ks cur < keyAt ks ((cur - 1) / w)
      · rw [goUp_go h0 hlt]
        exact (up_perm f _ _ _ _ (by rw [swp_len]; omega)).trans (swp_perm hc (by omega))
      · rw [goUp_stay h0 hlt]
theorem keyAt_app {ks : List Int} {k : Int} {p : Nat} (h : p < ks.length) : keyAt (ks ++ [k]) p = keyAt ks p := by
  unfold keyAt
  rw [List.getD_eq_getElem?_getD, List.getD_eq_getElem?_getD, List.getElem?_append_left h]
theorem push_ok {w : Nat} {ks : List Int} {k : Int} (hl : ks.length < 12) (h : HeapL ks.length w ks) : HeapL (ks.length + 1) w (goUp w 20 (ks ++ [k]) ks.length [ks.length] 0).1 ∧ ((goUp w 20 (ks ++ [k]) ks.length [ks.length] 0).1).Perm (ks ++ [k]) := by
  have hl2 : (ks ++ [k]).length = ks.length + 1 := by rw [List.length_append]; rfl
  refine ⟨up_good 20 _ _ _ _ hl2 (by omega) (by omega) (fun c h1 h2 hc => ?_) (fun c h1 h2 hc _ => ?_), up_perm 20 _ _ _ _ (by omega)⟩
  · have := par_lt (w := w) h1
    rw [keyAt_app (by omega), keyAt_app (by omega)]
    exact h c h1 (by omega)
  · have := par_lt (w := w) h1
    omega
theorem down_res (n w : Nat) : ∀ f ks p way lk, (goDown n w f ks p way lk).1.length = ks.length
  | 0, ks, p, way, lk => rfl
  | f + 1, ks, p, way, lk => by
    unfold goDown
    split
    · rfl
    · split
      · rw [down_res n w f, swp_len]
      · rfl
theorem m2 : ¬ (("row" : Str) = "looks") := by decide +kernel
theorem m3 : ¬ (("way" : Str) = "looks") := by decide +kernel
theorem mem_kid {n w p c : Nat} : c ∈ kidL n w p ↔ 1 ≤ c ∧ c < n ∧ (c - 1) / w = p := by
  unfold kidL
  rw [List.mem_map]
  constructor
  · rintro ⟨k, hk, rfl⟩
    obtain ⟨h1, h2⟩ := List.mem_filter.mp hk
    have h1 := List.mem_range.mp h1
    have h2 := of_decide_eq_true h2
    exact ⟨by omega, by omega, by rw [Nat.add_sub_cancel]; exact h2⟩
  · rintro ⟨h1, h2, h3⟩
    refine ⟨c - 1, List.mem_filter.mpr ⟨List.mem_range.mpr (by omega), decide_eq_true h3⟩, by omega⟩
theorem least_le {ks : List Int} {l : List Nat} {c : Nat} (h : c ∈ l) : keyAt ks (leastC ks l) ≤ keyAt ks c := by
  have hne : l ≠ [] := List.ne_nil_of_mem h
  obtain ⟨n, en⟩ : ∃ n, l.length = n + 1 := ⟨l.length - 1, by have := List.length_pos_iff.mpr hne; omega⟩
  have b := Cl.best_is (fun i => keyAt ks (l.getD i 0)) n
  rw [← en] at b
  obtain ⟨i, hi, e⟩ := List.mem_iff_getElem.mp h
  have this : keyAt ks (l.getD (PySem.argBest (fun i j => decide (keyAt ks (l.getD i 0) < keyAt ks (l.getD j 0))) n) 0) ≤ keyAt ks (l.getD i 0) := b.2.1 i hi
  rw [least_of b] at this
  have e2 : l.getD i 0 = c := by rw [List.getD_eq_getElem?_getD, List.getElem?_eq_getElem hi, ← e]; rfl
  rw [e2] at this
  exact this
/-- no key of a child is less -/
def goodAt (n w : Nat) (ks : List Int) (p : Nat) : Prop := ∀ c ∈ kidL n w p, keyAt ks p ≤ keyAt ks c
def GoodFrom (n w : Nat) (ks : List Int) (i : Nat) : Prop := ∀ p, i ≤ p → p < n → goodAt n w ks p
theorem down_good {n w i : Nat} (hw : 1 ≤ w) : ∀ (f : Nat) (ks : List Int) (cur : Nat) (way : List Nat) (lk : Nat), ks.length = n → i ≤ cur → cur < n → n - cur ≤ f →
    (∀ p, i ≤ p → p < n → p ≠ cur → goodAt n w ks p) → (∀ q, i ≤ q → q < n → cur ∈ kidL n w q → ∀ c ∈ kidL n w cur, keyAt ks q ≤ keyAt ks c) → GoodFrom n w (goDown n w f ks cur way lk).1 i
  | 0, ks, cur, way, lk, hl, hi, hc, hf, g, up => absurd hf (by omega)
  | f + 1, ks, cur, way, lk, hl, hi, hc, hf, g, up => by
    by_cases h0 : kidL n w cur = []
    · rw [goDown_leaf h0]
      intro p h1 h2
      by_cases e : p = cur
      · subst e
        intro c hc
        rw [h0] at hc
        cases hc
      · exact g p h1 h2 e
    · generalize eb : leastC ks (kidL n w cur) = b
      have hm : b ∈ kidL n w cur := eb ▸ least_mem h0
      have hle : ∀ c ∈ kidL n w cur, keyAt ks b ≤ keyAt ks c := fun c hc => eb ▸ least_le hc
      obtain ⟨b1, b2⟩ := kid_in hw hm
      by_cases hlt : keyAt ks b < keyAt ks cur
      · rw [goDown_go h0 eb hlt]
        have ka : cur < ks.length := by omega
        have kb : b < ks.length := by omega
        refine down_good hw f _ b _ _ (by rw [swp_len]; exact hl) (by omega) b2 (by omega) (fun p h1 h2 hp c hcp => ?_) (fun q h1 h2 hq c hcb => ?_)
        · rw [keyAt_swp ka kb, keyAt_swp ka kb, if_neg hp]
          obtain ⟨m1, m2, m3⟩ := mem_kid.mp hcp
          by_cases e : p = cur
          · subst e
            rw [if_pos rfl]
            by_cases ec : c = b
            · rw [if_pos ec]
              omega
            · have := (kid_in hw hcp).1
              rw [if_neg ec, if_neg (by omega)]
              exact hle c hcp
          · rw [if_neg e]
            by_cases ec : c = b
            · subst ec
              exact absurd ((mem_kid.mp hm).2.2.symm.trans m3) (fun z => e z.symm)
            · rw [if_neg ec]
              by_cases ec2 : c = cur
              · subst ec2
                rw [if_pos rfl]
                exact up p h1 h2 hcp b hm
              · rw [if_neg ec2]
                exact g p h1 h2 e c hcp
        · have eq : q = cur := (mem_kid.mp hq).2.2.symm.trans (mem_kid.mp hm).2.2
          subst eq
          have := (kid_in hw hcb).1
          rw [keyAt_swp ka kb, keyAt_swp ka kb, if_neg (by omega), if_pos rfl, if_neg (by omega), if_neg (by omega)]
          exact g b (by omega) b2 (by omega) c hcb
      · rw [goDown_stay h0 (by rw [eb]; exact hlt)]
        intro p h1 h2
        by_cases e : p = cur
        · subst e
          intro c hc
          exact Int.le_trans (Int.not_lt.mp hlt) (hle c hc)
        · exact g p h1 h2 e
theorem down_perm {n w : Nat} (hw : 1 ≤ w) : ∀ (f : Nat) (ks : List Int) (cur : Nat) (way : List Nat) (lk : Nat), ks.length = n → cur < n → ((goDown n w f ks cur way lk).1).Perm ks
  | 0, ks, cur, way, lk, hl, hc => List.Perm.refl _
  | f + 1, ks, cur, way, lk, hl, hc => by
    by_cases h0 : kidL n w cur = []
    · rw [goDown_leaf h0]
    · obtain ⟨b1, b2⟩ := kid_in hw (least_mem (ks := ks) h0)
      by_cases hlt : keyAt ks (leastC ks (kidL n w cur)) < keyAt ks cur
      · rw [goDown_go h0 rfl hlt]
        exact (down_perm hw f _ _ _ _ (by rw [swp_len]; exact hl) b2).trans (swp_perm (by omega) (by omega))
      · rw [goDown_stay h0 hlt]
theorem good_heapL {n w : Nat} {ks : List Int} (h : GoodFrom n w ks 0) : HeapL n w ks := fun c h1 h2 =>
  h ((c - 1) / w) (Nat.zero_le _) (by have := par_lt (w := w) h1; omega) c (mem_kid.mpr ⟨h1, h2, rfl⟩)
theorem head_cons {ks : List Int} (h : 1 ≤ ks.length) : ks = ks.getD 0 0 :: ks.drop 1 := by
  cases ks with
  | nil => exact absurd h (by decide)
  | cons a b => rfl
theorem put_ok {w : Nat} (hw : 1 ≤ w) {k : Int} {ks : List Int} (hl : ks.length ≤ 12) (hp : 1 ≤ ks.length) (h : HeapL ks.length w ks) :
    (goDown ks.length w 20 (putRow k ks) 0 [0] 0).1.length = ks.length ∧ HeapL ks.length w (goDown ks.length w 20 (putRow k ks) 0 [0] 0).1 ∧ (ks.getD 0 0 :: (goDown ks.length w 20 (putRow k ks) 0 [0] 0).1).Perm (k :: ks) := by
  have hlp := putRow_len (k := k) hp
  have key : ∀ p, 1 ≤ p → keyAt (putRow k ks) p = keyAt ks p := fun p h1 => by
    unfold keyAt putRow
    obtain ⟨p, rfl⟩ : ∃ p', p = p' + 1 := ⟨p - 1, by omega⟩
    rw [List.getD_eq_getElem?_getD, List.getD_eq_getElem?_getD, List.getElem?_cons_succ, List.getElem?_drop, Nat.add_comm 1 p]
  refine ⟨by rw [down_res]; exact hlp, good_heapL (down_good hw 20 _ 0 _ _ hlp (Nat.le_refl _) (by omega) (by omega) (fun p _ hp2 hp0 c hc => ?_) (fun q _ _ hq => ?_)), ?_⟩
  · obtain ⟨m1, m2, m3⟩ := mem_kid.mp hc
    rw [key p (by omega), key c m1]
    have := h c m1 m2
    rw [m3] at this
    exact this
  · have := (kid_in hw hq).1
    omega
  · refine (List.Perm.cons _ (down_perm hw 20 _ _ _ _ hlp (by omega))).trans ?_
    refine (List.Perm.swap _ _ _).trans ?_
    exact List.Perm.cons _ (List.Perm.of_eq (head_cons hp).symm)
theorem q5 : ¬ (("changes" : Str) = "looks") := by decide +kernel
theorem zf_row (t1 t2 lk : Nat) : (zf t1 t2 lk).lookup ("row" : Str) = some (.ref t1) := by
  unfold zf
  rw [lookup_putF, if_neg m2, lookup_putF, if_neg m1, lookup_putF, if_pos rfl]
theorem TookAt.ext {C : Addr} {H H' : Hp} {t : Addr} {x : Int} {r : List Int × List Nat × Nat} (h : TookAt C H t x r) (e : ExtN H H') : TookAt C H' t x r :=
  let ⟨p, a, s⟩ := h; ⟨p, e _ _ a (fun ps z => nomatch z), SiftAt.ext s e⟩
end
end Tw

set_option Elab.async false
set_option linter.all false
set_option maxRecDepth 100000
set_option maxHeartbeats 2000000
namespace Tw
open PySem PySem.Spec PyProof.Rows L2
section
variable {P : Program} {w : World} {K : PySem.W.Frag} {mg : Str → Option Value} {base : Heap} {A : Ad}
open LamX (ExtN Tabs TabS)
/-! what a keeper sees: push_ok put_ok heap_fault -/
def seeK (r w : Nat) (k : Int) (ks : List Int) : List Int := if ks.length < r then (goUp w 20 (ks ++ [k]) ks.length [ks.length] 0).1 else if ks.getD 0 0 < k then (goDown ks.length w 20 (putRow k ks) 0 [0] 0).1 else ks
def comesK (r : Nat) (k : Int) (ks : List Int) : Bool := decide (ks.length < r ∨ ks.getD 0 0 < k)
def goneK (r : Nat) (k : Int) (ks : List Int) : V := if ks.length < r then .non else if ks.getD 0 0 < k then .int (ks.getD 0 0) else .non
structure KG (r w : Nat) (ks : List Int) : Prop where
  le : ks.length ≤ r
  bd : ∀ z ∈ ks, -1000000000 ≤ z ∧ z ≤ 1000000000
  hp : HeapL ks.length w ks
theorem KG.nil {r w : Nat} : KG r w [] := ⟨Nat.zero_le _, fun z hz => absurd hz (List.not_mem_nil), fun c h1 h2 => by rw [List.length_nil] at h2; omega⟩
theorem see_len {r w : Nat} {k : Int} {ks : List Int} (hw : 1 ≤ w ∧ w ≤ 4) (hr : 1 ≤ r ∧ r ≤ 12) (g : KG r w ks) : (seeK r w k ks).length = if ks.length < r then ks.length + 1 else ks.length := by
  unfold seeK
  by_cases h : ks.length < r
  · rw [if_pos h, if_pos h, (push_ok (by omega) g.hp).2.length_eq, List.length_append]
    rfl
  · rw [if_neg h, if_neg h]
    by_cases h2 : ks.getD 0 0 < k
    · rw [if_pos h2]
      exact (put_ok hw.1 (k := k) (by have := g.le; omega) (by omega) g.hp).1
    · rw [if_neg h2]
theorem see_good {r w : Nat} {k : Int} {ks : List Int} (hw : 1 ≤ w ∧ w ≤ 4) (hr : 1 ≤ r ∧ r ≤ 12) (hk : -1000000000 ≤ k ∧ k ≤ 1000000000) (g : KG r w ks) : KG r w (seeK r w k ks) := by
  have hl := see_len (k := k) hw hr g
  refine ⟨?_, ?_, ?_⟩
  · rw [hl]
    have := g.le
    split <;> omega
  · intro z hz
    unfold seeK at hz
    by_cases h : ks.length < r
    · rw [if_pos h] at hz
      rcases List.mem_append.mp ((push_ok (by omega) g.hp).2.mem_iff.mp hz) with h2 | h2
      · exact g.bd z h2
      · rw [List.mem_singleton.mp h2]
        exact hk
    · rw [if_neg h] at hz
      by_cases h2 : ks.getD 0 0 < k
      · rw [if_pos h2] at hz
        rcases List.mem_cons.mp ((put_ok hw.1 (k := k) (by have := g.le; omega) (by omega) g.hp).2.2.mem_iff.mp (List.mem_cons_of_mem _ hz)) with h3 | h3
        · rw [h3]
          exact hk
        · exact g.bd z h3
      · rw [if_neg h2] at hz
        exact g.bd z hz
  · rw [hl]
    unfold seeK
    by_cases h : ks.length < r
    · rw [if_pos h, if_pos h]
      exact (push_ok (by omega) g.hp).1
    · rw [if_neg h, if_neg h]
      by_cases h2 : ks.getD 0 0 < k
      · rw [if_pos h2]
        exact (put_ok hw.1 (k := k) (by have := g.le; omega) (by omega) g.hp).2.1
      · rw [if_neg h2]
        exact g.hp
def spSee (A : Ad) : Sp := fun vs H Q _ => ∃ (p r w n t : Nat) (k : Int) (ks : List Int), vs = [.ref p, .int k] ∧ KAt A.CK H p r w n t ks ∧ (1 ≤ r ∧ r ≤ 12) ∧ (1 ≤ w ∧ w ≤ 4) ∧ KG r w ks ∧ (-1000000000 ≤ k ∧ k ≤ 1000000000) ∧ Tabs (TT A) H ∧
  ∀ (H' : Hp) (t' q : Addr), ButP p H H' → Tabs (TT A) H' → KAt A.CK H' p r w (n + if comesK r k ks = true then 1 else 0) t' (seeK r w k ks) → H' q = some (.tup [.bl (comesK r k ks), goneK r k ks]) → Q (.ref q) H'
theorem ok_see (T : Tx K mg A) (TB : LamX.TabB base mg A.c_least_child A.P_least_child) : FnOk P w K mg base CX0 10 A.f_e_see A.d_e_see ["self", "key"] (spSee A) := by
  obtain ⟨mp, kp⟩ := kb_push T
  obtain ⟨mpf, kpf⟩ := kb_put T
  refine T.F_e_see.ok sc_e_see (fun vs H Q E h => ?_) (fun cdv B outer s H vs Q E hr h => ?_)
  · obtain ⟨p, r, w, n, t, k, ks, rfl, _⟩ := h
    rfl
  · obtain ⟨p, r, w, n, t, k, ks, rfl, hK, hr1, hw, hg, hk, hT, q⟩ := h
    have nd := sc_e_see.nd
    obtain ⟨⟨dx, m, h1⟩, h2⟩ := id hK
    have hflt : faultL ks w = [] := heap_fault rfl hg.hp
    have hrow : RowIn H t ks := ⟨.inr h2, by have := hg.le; omega, hg.bd⟩
    refine ⟨_, (pss_cons (ps_expr (pe_call (ok_ck T) (hr.mono (by decide)) (by rfl) T.m_check_key T.F_check_key.kp (b_ck T) .nil pass0 (pa_cons (pv 1) pa_nil)))
      (C8.pss_cut (ps_if (pt_cmpR op_lt (pe_callB call_len_seq (by rfl) T.g_len PySem.boot_len (pa_cons (pe_fld (pv 0) rfl) pa_nil)) (pe_fld (pv 0) rfl) (nomark _)) (pss_cons (ps_set (i := 2) nd rfl (Or.inl rfl) pe_non)
      (pss_one (ps_fld (pv 0) (pe_fld (pe_callN (ok_push T) (hr.mono (by decide)) (by rfl) T.m_push T.F_push.kp kp pass0 (pa_cons (pe_fld (pv 0) rfl) (pa_cons (pv 1) pa_nil)) (pk_cons (pe_fld (pv 0) rfl) pk_nil)) rfl) rfl))) (pss_one (ps_if (pt_cmpR op_gt (pv 1) (pe_ix (r := rIxT K) ix_tup (pe_fld (pv 0) rfl) pe_int (fun _ _ => rfl)) (nomark _)) (C8.pss_cut (ps_asg (pe_callN (ok_put T TB) (hr.mono (by decide)) (by rfl) T.m_put_for T.F_put_for.kp kpf pass0 (pa_cons (pe_fld (pv 0) rfl) (pa_cons (pv 1) pa_nil)) (pk_cons (pe_fld (pv 0) rfl) pk_nil)) (pg_tup rfl (pgs_cons (pg_name (i := 2) nd rfl (Or.inl rfl)) (pgs_cons (pg_name (i := 3) nd rfl (Or.inl rfl)) pgs_nil))))
      (pss_one (ps_fld (pv 0) (pe_fld (pv 3) rfl) rfl))) (pss_one (ps_ret (pe_tup (pa_cons pe_bl (pa_cons pe_non pa_nil))))))))
      (pss_cons (ps_fldaug (pv 0) pe_int in_add)
      (pss_one (ps_ret (pe_tup (pa_cons pe_bl (pa_cons (pv 2) pa_nil)))))))), ?_⟩
    refine ⟨_, rfl, k, rfl, hk, ?_⟩
    refine ⟨fun σ' H' => ∃ (t' : Addr) (x3 : Option V), σ' = [some (.ref p), some (.int k), some (goneK r k ks), x3] ∧ comesK r k ks = true ∧ ButP p H H' ∧ Tabs (TT A) H' ∧ KAt A.CK H' p r w n t' (seeK r w k ks), ?_, ?_⟩
    · refine ⟨_, rfl, p, A.CK, dx, _, _, rfl, h1, T.cTK, T.kHeap, fdK_hp _ _ _ _ _, t, _, rfl, .inr (SqT.of h2), _, rfl, p, A.CK, dx, _, _, rfl, h1, T.cTK, T.kRoom, fdK_room _ _ _ _ _, _, _, rfl, rfl, _, rfl, ?_⟩
      rw [List.length_map]
      by_cases hl : ks.length < r
      · rw [decide_eq_true (show ((ks.length : Nat) : Int) < (r : Int) by omega)]
        refine iteT ?_
        refine ⟨_, rfl, p, A.CK, dx, _, _, rfl, h1, T.cTK, T.kHeap, fdK_hp _ _ _ _ _, _, rfl, _, rfl, p, A.CK, dx, _, _, rfl, h1, T.cTK, T.kArms, fdK_arms _ _ _ _ _, rfl, rfl, t, w, k, ks, rfl, hw, hrow, hflt, hk, by omega, fun H2 q7 s2 r2 => ?_⟩
        obtain ⟨dz, u1, u2, f0, f1, f2⟩ := r2
        refine ⟨q7, A.CS, dz, _, _, rfl, f0, T.cTS, T.nRow, zf_row _ _ _, _, rfl, p, A.CK, dx, _, rfl, s2 _ _ h1, T.cTK, T.kHeap, by show 5 < 1000; decide, ?_⟩
        refine ⟨u1, none, ?_, ?_, (ButP.of (extN_of s2)).trans (ButP.put _), tabs_ins (hT.ext s2) (s2 _ _ h1), ⟨⟨dx, m, by rw [upd_same, fdK_heap]⟩, ?_⟩⟩
        · unfold goneK
          rw [if_pos hl]
          rfl
        · unfold comesK
          exact decide_eq_true (.inl hl)
        · rw [upd_ne (ne_of f1 (s2 _ _ h1) (by intro z; cases z))]
          unfold seeK
          rw [if_pos hl]
          exact f1
      · rw [decide_eq_false (show ¬ ((ks.length : Nat) : Int) < (r : Int) by omega)]
        have hpos : 0 < ks.length := by omega
        have hne : ks ≠ [] := List.ne_nil_of_length_pos hpos
        refine iteF ⟨_, rfl, _, rfl, p, A.CK, dx, _, _, rfl, h1, T.cTK, T.kHeap, fdK_hp _ _ _ _ _, t, _, _, _, rfl, rfl, SqT.of h2, key_at hpos, _, _, rfl, rfl, _, rfl, ?_⟩
        by_cases hc : ks.getD 0 0 < k
        · rw [decide_eq_true (show k > keyAt ks 0 from hc)]
          refine iteT ?_
          refine ⟨fun σ' H' => ∃ q7 : Addr, σ' = [some (.ref p), some (.int k), some (goneK r k ks), some (.ref q7)] ∧ ExtN H H' ∧ Tabs (TT A) H' ∧ resSift A.CS H' q7 (goDown ks.length w 20 (putRow k ks) 0 [0] 0), ?_, ?_⟩
          · refine ⟨_, rfl, p, A.CK, dx, _, _, rfl, h1, T.cTK, T.kHeap, fdK_hp _ _ _ _ _, _, rfl, _, rfl, p, A.CK, dx, _, _, rfl, h1, T.cTK, T.kArms, fdK_arms _ _ _ _ _, rfl, rfl, t, w, k, ks, rfl, hw, hrow, hflt, hk, hne, hT, fun H3 t3 e3 tt3 took => ?_⟩
            obtain ⟨q5, et, sf⟩ := took
            refine ⟨_, _, rfl, SqT.of et, rfl, _, _, rfl, _, _, rfl, rfl, ?_⟩
            refine ⟨q5, ?_, e3, tt3, sf⟩
            unfold goneK
            rw [if_neg hl, if_pos hc]
            rfl
          rintro σ' H3 ⟨q7, rfl, e3, tt3, dz, u1, u2, f0, f1, f2⟩
          have h13 := e3 _ _ h1 (fun _ z => nomatch z)
          refine ⟨_, rfl, q7, A.CS, dz, _, _, rfl, f0, T.cTS, T.nRow, zf_row _ _ _, _, rfl, p, A.CK, dx, _, rfl, h13, T.cTK, T.kHeap, by show 5 < 1000; decide, ?_⟩
          refine ⟨u1, _, rfl, ?_, (ButP.of e3).trans (ButP.put _), tabs_ins tt3 h13, ⟨⟨dx, m, by rw [upd_same, fdK_heap]⟩, ?_⟩⟩
          · unfold comesK
            exact decide_eq_true (.inr hc)
          · rw [upd_ne (ne_of f1 h13 (by intro z; cases z))]
            unfold seeK
            rw [if_neg hl, if_pos hc]
            exact f1
        · rw [decide_eq_false (show ¬ k > keyAt ks 0 from hc)]
          refine iteF ⟨by show 2 ≤ sizeLine; decide, fun z nz => ?_⟩
          have sz := Same.up (o := .tup [.bl false, .non]) nz
          have ec : comesK r k ks = false := decide_eq_false (by rintro (x | x); exact hl x; exact hc x)
          refine q _ t z (ButP.of (extN_of sz)) (hT.ext sz) ?_ ?_
          · rw [ec]
            unfold seeK
            rw [if_neg hl, if_neg hc]
            exact hK.same sz
          · rw [ec]
            unfold goneK
            rw [if_neg hl, if_neg hc]
            exact upd_same
    rintro σ' H2 ⟨t', x3, rfl, ec, b2, tt2, k2⟩
    obtain ⟨⟨dx, m, g1⟩, g2⟩ := id k2
    refine ⟨_, rfl, p, A.CK, dx, _, _, rfl, g1, T.cTK, T.kEnt, fdK_en _ _ _ _ _, _, _, rfl, rfl, dx, _, g1, by show 5 < 1000; decide, ?_⟩
    have b3 := b2.trans (ButP.put (p := p) (H := H2) (.ins A.CK dx (putF "_entered" (.int ((n : Int) + 1)) (fdK r w t' n m))))
    have tt3 := tabs_ins (fs' := putF "_entered" (.int ((n : Int) + 1)) (fdK r w t' n m)) tt2 g1
    have k3 : KAt A.CK (upd H2 p (.ins A.CK dx (putF "_entered" (.int ((n : Int) + 1)) (fdK r w t' n m)))) p r w (n + 1) t' (seeK r w k ks) := ⟨⟨dx, m, by rw [upd_same, fdK_ent]; push_cast; rfl⟩, by rw [upd_ne (ne_of g2 g1 (by intro z; cases z))]; exact g2⟩
    generalize upd H2 p (.ins A.CK dx (putF "_entered" (.int ((n : Int) + 1)) (fdK r w t' n m))) = H3 at b3 tt3 k3
    refine ⟨_, rfl, by show 2 ≤ sizeLine; decide, fun z nz => ?_⟩
    have sz := Same.up (o := .tup [.bl true, goneK r k ks]) nz
    refine q _ t' z (b3.trans (ButP.of (extN_of sz))) (tt3.ext sz) ?_ ?_
    · rw [if_pos ec]
      exact k3.same sz
    · rw [ec]
      exact upd_same
theorem b_see (T : Tx K mg A) : L2.Binds K A.d_e_see ["self", "key"] [] := T.F_e_see.binds fun _ _ _ _ _ _ us hl => match us, hl with | [_, _], _ => rfl
def spAsc (C : Addr) : Sp := fun vs H Q _ => ∃ (p r w n t : Nat) (ks : List Int), vs = [.ref p] ∧ KAt C H p r w n t ks ∧ ∀ (s : List Int) (o : Addr), s.Perm ks → s.Pairwise (· ≤ ·) → H o = none → Q (.ref o) (upd H o (.lst (s.map V.int)))
theorem ok_asc (T : Tx K mg A) : FnOk P w K mg base CX0 1 A.f_e_ascending A.d_e_ascending ["self"] (spAsc A.CK) := by
  refine T.F_e_ascending.ok sc_e_ascending (fun vs H Q E h => ?_) (fun cdv B outer s H vs Q E hr h => ?_)
  · obtain ⟨p, r, w, n, t, ks, rfl, _⟩ := h
    rfl
  · obtain ⟨p, r, w, n, t, ks, rfl, ⟨⟨dx, m, h1⟩, h2⟩, q⟩ := h
    refine ⟨_, (pss_one (ps_ret (pe_callB cr_sortedTu (by rfl) T.g_sorted (by decide +kernel) (pa_cons (pe_fld (pv 0) rfl) pa_nil)))), ?_⟩
    exact ⟨_, rfl, p, A.CK, dx, _, _, rfl, h1, T.cTK, T.kHeap, fdK_hp _ _ _ _ _, t, ks, rfl, SqT.of h2, fun s o hpm hso no => q s o hpm hso no⟩
theorem b_asc (T : Tx K mg A) : L2.Binds K A.d_e_ascending ["self"] [] := T.F_e_ascending.binds fun _ _ _ _ _ _ us hl => match us, hl with | [_], _ => rfl

end
end Tw

set_option Elab.async false
set_option linter.all false
set_option maxRecDepth 100000
set_option maxHeartbeats 2000000
namespace Tw
open PySem PySem.Spec PyProof.Rows L2
section
variable {P : Program} {w : World} {K : PySem.W.Frag} {mg : Str → Option Value} {base : Heap} {A : Ad}
open LamX (ExtN Tabs TabS)
theorem b_num (T : Tx K mg A) : L2.Binds K A.d__law_number ["script", "index"] [] := T.F__law_number.binds fun _ _ _ _ _ _ us hl => match us, hl with | [_, _], _ => rfl
theorem cut_first (l : List V) : cutV l (some 1) none = l.drop 1 := by
  unfold cutV
  rw [HT.sIx_none, show (1 : Int) = ((1 : Nat) : Int) from rfl, HT.sIx_nat]
  cases l with
  | nil => rfl
  | cons a l =>
    rw [Nat.min_eq_left (by simp), List.take_of_length_le (by rw [List.length_drop]; exact Nat.le_refl _)]
theorem cut_one (ns : List Int) : cutV (ns.map V.int) (some 1) none = (ns.drop 1).map V.int := by
  rw [cut_first, List.map_drop]
theorem emp_eqv : ∀ ns : List Int, PyData.eqv (.list (ns.map PyData.int)) (.list []) = decide (ns = [])
  | [] => by rfl
  | n :: ns => by rfl
def dl (l : List Nat) : List PyData := l.map fun i => PyData.int (i : Nat)
theorem dl_ints (l : List Nat) : dl l = (l.map fun i => ((i : Nat) : Int)).map PyData.int := by unfold dl; rw [List.map_map]; rfl
theorem dl_emp (l : List Nat) : PyData.eqv (.list (dl l)) (.list (dl [])) = decide (l = []) := by
  rw [dl_ints, show dl [] = [] from rfl, emp_eqv]
  cases l <;> simp
theorem shaped_ints (ns : List Int) : SeqAt.shaped (.list (ns.map PyData.int)) = true := by
  have h1 : ∀ ms : List Int, PyData.canLayAll0 (ms.map PyData.int) = true := fun ms => by
    induction ms with
    | nil => rfl
    | cons m ms ih => rw [List.map_cons, PyData.canLayAll0, ih]; rfl
  have h2 : ∀ ms : List Int, PyData.depthAll (ms.map PyData.int) ≤ 1 := fun ms => by
    induction ms with
    | nil => simp [PyData.depthAll]
    | cons m ms ih =>
      simp only [List.map_cons, PyData.depthAll, PyData.depth]
      omega
  have h3 : PyData.depth (.list (ns.map PyData.int)) ≤ 64 := by
    have := h2 ns
    simp only [PyData.depth]
    omega
  unfold SeqAt.shaped
  rw [decide_eq_true h3, Bool.and_true]
  simp only [PyData.canLay0]
  exact h1 ns
theorem dl_shapedL (l : List Nat) : SeqAt.shaped (.list (dl l)) = true := by
  rw [dl_ints]
  exact shaped_ints _
theorem ints_dp (K : PySem.W.Frag) (H : Hp) : ∀ ns : List Int, DpAll K H (ns.map V.int) (ns.map PyData.int)
  | [] => .nil
  | n :: ns => .cons (.int n) (ints_dp K H ns)
theorem vi_dp (K : PySem.W.Frag) (H : Hp) (l : List Nat) : DpAll K H (vi l) (dl l) := by
  rw [vi_ints, dl_ints]
  exact ints_dp _ _ _
theorem dp_lst (K : PySem.W.Frag) {H : Hp} {p : Addr} {l : List Nat} (h : H p = some (.lst (vi l))) : Dp K H (.ref p) (.list (dl l)) := .lst (SqL.of h) (vi_dp _ _ _)
theorem first_step {kf : Nat → Int} {i j : Nat} (h : Cl.FirstLeast kf (max i 1) j) : Cl.FirstLeast kf (i + 1) (if kf i < kf j then i else j) := by
  obtain ⟨a, b, c⟩ := h
  by_cases hi : i = 0
  · subst hi
    have ej : j = 0 := by omega
    subst ej
    rw [if_neg (by omega)]
    exact ⟨by omega, fun k hk => by rw [show k = 0 by omega]; omega, fun k hk => absurd hk (by omega)⟩
  · rw [show max i 1 = i by omega] at a b
    by_cases hl : kf i < kf j
    · rw [if_pos hl]
      refine ⟨by omega, fun k hk => ?_, fun k hk => ?_⟩
      · by_cases e : k = i
        · rw [e]; omega
        · have := b k (by omega); omega
      · have := b k (by omega); omega
    · rw [if_neg hl]
      refine ⟨by omega, fun k hk => ?_, c⟩
      by_cases e : k = i
      · rw [e]; omega
      · exact b k (by omega)
theorem kid_law : ∀ n, n < 13 → ∀ w, w < 5 → ∀ i, i < n → 1 ≤ w → ((List.range w).map fun j => w * i + 1 + j).filter (fun c => decide (c < n)) = kidL n w i := by decide +kernel
theorem cut63 (xs : List V) (h : xs.length ≤ 63) : cutV xs none (some 63) = xs := by
  unfold cutV
  rw [HT.sIx_none, show (63 : Int) = ((63 : Nat) : Int) from rfl, HT.sIx_nat, List.drop_zero, Nat.min_eq_right h, Nat.sub_zero, List.take_length]
def spNum (K : PySem.W.Frag) : Sp := fun vs H Q _ => ∃ (a : Addr) (ns : List Int) (i : Nat), vs = [.ref a, .int i] ∧ SqL K H a (ns.map V.int) ∧ ns.length ≤ 63 ∧ i < 1000000 ∧ ∀ H' r, Same H H' → Q (.int r) H'
theorem ok_num (T : Tx K mg A) : FnOk P w K mg base CX0 2 A.f__law_number A.d__law_number ["script", "index"] (spNum K) := by
  refine T.F__law_number.ok sc__law_number (fun vs H Q E h => ?_) (fun cdv B outer s H vs Q E hr h => ?_)
  · obtain ⟨a, ns, i, rfl, _⟩ := h
    rfl
  · obtain ⟨a, ns, i, rfl, ha, hl, hi, q⟩ := h
    have nd := sc__law_number.nd
    have hu := hr.units
    refine ⟨_, C8.pss_cut (ps_set (i := 2) nd rfl (Or.inl rfl) (pe_ifExp (pt_cmpR (op_neD hu) (pv 0) (pe_lst pa_nil) (nomark _)) (pe_slice sl_list (pv 0) po_none (po_some pe_int)) (pe_lst (pa_cons pe_int pa_nil))))
      (pss_cons (ps_set (i := 3) nd rfl (Or.inl rfl) (pe_op op_add
        (pe_ix ix_list (pv 2) (pe_op op_mod (pe_callTy call_int1 (by rfl) T.g_int (by decide +kernel) (pa_cons (pv 1) pa_nil)) (pe_callB call_len_seq (by rfl) T.g_len PySem.boot_len (pa_cons (pv 2) pa_nil))) (fun _ _ => rfl))
        (pe_op op_mul pe_int (pe_op op_fdivN (pv 1) (pe_callB call_len_seq (by rfl) T.g_len PySem.boot_len (pa_cons (pv 2) pa_nil))))))
      (pss_cons (ps_par (i := 4) (j := 5) rfl nd rfl rfl (by decide) rfl rfl (pa_cons (pe_op op_mod (pe_callTy call_int1 (by rfl) T.g_int (by decide +kernel) (pa_cons (pv 3) pa_nil)) pe_int)
          (pa_cons (pe_op op_mod (pe_callTy call_int1 (by rfl) T.g_int (by decide +kernel) (pa_cons (pe_op op_fdivN (pv 3) pe_int) pa_nil)) pe_int) pa_nil)) rfl)
      (pss_cons (ps_set (i := 6) nd rfl (Or.inl rfl) (pe_op op_mod (pe_callTy call_int1 (by rfl) T.g_int (by decide +kernel) (pa_cons (pe_callB (cr_sum rfl) (by rfl) T.g_sum (by decide +kernel) (pa_cons (pv 2) pa_nil)) pa_nil)) pe_int))
      (pss_cons (ps_set (i := 7) nd rfl (Or.inl rfl) (pe_op op_mod (pe_callTy call_int1 (by rfl) T.g_int (by decide +kernel) (pa_cons
          (pe_op op_add (pe_op op_add (pe_op op_mul (pe_op op_add (pv 4) (pe_op op_mul pe_int (pv 1))) pe_int) (pe_op op_mul pe_int (pv 5))) (pv 6)) pa_nil)) pe_int))
      (pss_one (ps_ret (pe_op op_add (pe_op op_mul (pe_op op_mod (pe_callTy call_int1 (by rfl) T.g_int (by decide +kernel) (pa_cons
          (pe_op op_mul (pv 7) (pe_op op_add (pe_op op_add (pv 7) (pe_op op_mul pe_int (pv 1))) pe_int)) pa_nil)) pe_int) pe_int) (pv 5)))))))), ?_⟩
    refine ⟨fun σ H1 => ∃ (c : Addr) (cs : List Int), σ = [some (.ref a), some (.int i), some (.ref c), none, none, none, none, none] ∧ Same H H1 ∧ H1 c = some (.lst (cs.map V.int)) ∧ 0 < cs.length ∧ cs.length ≤ 63, ?_, ?_⟩
    · refine ⟨_, rfl, Nat.zero_le _, fun l0 hl0 => ?_⟩
      have hs0 : Same H (upd H l0 (.lst [])) := Same.up hl0
      refine ⟨.list (ns.map PyData.int), .list [], .lst (hs0.seq ha) (ints_dp _ _ _), .lst (SqL.of upd_same) .nil, ?_, rfl, _, rfl, ?_⟩
      · exact shaped_ints _
      · rw [emp_eqv]
        by_cases e : ns = []
        · rw [decide_eq_true e]
          refine iteF ⟨by show 1 ≤ sizeLine; decide, fun l1 hl1 => ⟨l1, [5], rfl, hs0.trans (Same.up hl1), upd_same, by decide, by decide⟩⟩
        · rw [decide_eq_false e]
          refine iteT ⟨_, rfl, _, rfl, a, _, rfl, hs0.seq ha, fun l1 hl1 => ⟨l1, ns, rfl, hs0.trans (Same.up hl1), ?_, ?_, hl⟩⟩
          · rw [upd_same]
            exact congrArg (fun z => some (HO.lst z)) (cut63 _ (by rw [List.length_map]; exact hl))
          · exact List.length_pos_iff.mpr e
    · rintro σ H1 ⟨c, cs, rfl, s1, hc, h0, h63⟩
      have hq := SqL.of (K := K) hc
      have hL : ((cs.map V.int).length : Int) = (cs.length : Int) := by rw [List.length_map]
      have hm0 : 0 ≤ (i : Int) % (cs.length : Int) := Int.emod_nonneg _ (by omega)
      have hm1 : (i : Int) % (cs.length : Int) < (cs.length : Int) := Int.emod_lt_of_pos _ (by omega)
      obtain ⟨j, hj⟩ : ∃ j : Nat, (i : Int) % (cs.length : Int) = (j : Int) := ⟨_, (Int.toNat_of_nonneg hm0).symm⟩
      have hjl : j < cs.length := by omega
      have hat : atI (cs.map V.int) ((i : Int) % ((cs.map V.int).length : Int)) = some (V.int cs[j]) := by
        rw [hL, hj]
        exact atI_nat (by rw [List.getElem?_map, List.getElem?_eq_getElem hjl]; rfl)
      refine ⟨_, rfl, _, rfl, .inl ⟨_, rfl, _, rfl, c, _, rfl, .inl hq, _, _, rfl, rfl, ?_, c, _, _, _, rfl, rfl, hq, hat, _, rfl, _, rfl, c, _, rfl, .inl hq, _, _, rfl, rfl, ⟨?_, ?_⟩, _, _, rfl, rfl, .inl ⟨by decide, by decide⟩, _, _, rfl, rfl, ?_⟩⟩
      · show (0 : Int) < ((cs.map V.int).length : Int)
        omega
      · omega
      · omega
      · refine ⟨_, rfl, .inl ⟨_, rfl, _, _, rfl, rfl, by show (0 : Int) < 1000003; decide, ?_⟩⟩
        refine ⟨_, rfl, _, _, rfl, rfl, ⟨by decide, by decide⟩, .inl ⟨_, rfl, _, _, rfl, rfl, by show (0 : Int) < 999983; decide, _, _, rfl, ?_⟩⟩
        refine ⟨_, rfl, c, cs, rfl, hq, .inl ⟨_, rfl, _, _, rfl, rfl, by show (0 : Int) < 65521; decide, ?_⟩⟩
        refine ⟨_, rfl, _, rfl, _, _, rfl, rfl, .inl ⟨by decide, by decide⟩, _, _, rfl, rfl, _, _, rfl, rfl, .inr ⟨by decide, by decide⟩, ?_⟩
        refine ⟨_, rfl, _, _, rfl, rfl, .inl ⟨by decide, by decide⟩, _, _, rfl, rfl, _, rfl, _, _, rfl, rfl, .inl ⟨_, rfl, _, _, rfl, rfl, by show (0 : Int) < 2147483647; decide, ?_⟩⟩
        refine ⟨_, rfl, _, rfl, _, rfl, _, _, rfl, rfl, .inl ⟨by decide, by decide⟩, _, _, rfl, rfl, _, _, rfl, rfl, _, _, rfl, rfl, .inl ⟨?_, ?_⟩, .inl ⟨_, rfl, _, _, rfl, rfl, by show (0 : Int) < 2147483629; decide, ?_⟩⟩
        · have := Int.emod_nonneg ((((cs[j] + 13 * Int.fdiv (i : Int) ((cs.map V.int).length : Int)) % 1000003 + 977 * (i : Int)) * 48271 + 31 * (Int.fdiv (cs[j] + 13 * Int.fdiv (i : Int) ((cs.map V.int).length : Int)) 1000003 % 999983)) + cs.sum % 65521) (show (2147483647 : Int) ≠ 0 by decide)
          omega
        · have := Int.emod_lt_of_pos ((((cs[j] + 13 * Int.fdiv (i : Int) ((cs.map V.int).length : Int)) % 1000003 + 977 * (i : Int)) * 48271 + 31 * (Int.fdiv (cs[j] + 13 * Int.fdiv (i : Int) ((cs.map V.int).length : Int)) 1000003 % 999983)) + cs.sum % 65521) (show (0 : Int) < 2147483647 by decide)
          omega
        · exact ⟨_, _, rfl, rfl, .inr ⟨by decide, by decide⟩, _, rfl, _, _, rfl, rfl, q _ _ s1⟩
def zl (l : List Nat) : List Int := l.map fun (i : Nat) => (i : Int)
theorem pickN_map (l : List Nat) (b : Nat → Bool) : (l.filterMap fun z => if b z = true then some (V.int (z : Nat)) else none) = (zl (l.filter b)).map V.int := by
  induction l with
  | nil => rfl
  | cons a l ih =>
    by_cases h : b a = true
    · rw [List.filterMap_cons, if_pos h, List.filter_cons_of_pos h, ih]
      rfl
    · rw [List.filterMap_cons, if_neg h, List.filter_cons_of_neg h, ih]
theorem q1 : ¬ (("row" : Str) = "stops") := by decide +kernel
theorem q2 : ¬ (("row" : Str) = "changes") := by decide +kernel
abbrev rLn (K : PySem.W.Frag) : List V → Hp → VK → Prop := fun xs H Q => ∃ p ys, xs = [.ref p] ∧ (SqL K H p ys ∨ SqT K H p ys) ∧ Q (.int ys.length) H
theorem vi_at {l : List Nat} {i : Nat} {x : V} (h : (vi l)[i]? = some x) : i < l.length ∧ x = V.int ((l.getD i 0 : Nat) : Int) := by
  unfold vi at h
  rw [List.getElem?_map] at h
  cases e : l[i]? with
  | none => rw [e] at h; cases h
  | some a =>
    rw [e] at h
    have hi := (List.getElem?_eq_some_iff.mp e).1
    refine ⟨hi, ?_⟩
    rw [List.getD_eq_getElem?_getD, e]
    exact (Option.some.inj h).symm
theorem vi_zl (l : List Nat) : vi l = (zl l).map V.int := by
  unfold vi zl
  rw [List.map_map]
  rfl
end
end Tw

set_option Elab.async false
set_option linter.all false
set_option maxRecDepth 100000
set_option maxHeartbeats 2000000
namespace Tw
open PySem PySem.Spec PyProof.Rows L2
section
variable {P : Program} {w : World} {K : PySem.W.Frag} {mg : Str → Option Value} {base : Heap} {A : Ad}
open LamX (ExtN Tabs TabS)
/-! the law's own sifts: kid_law key_at atI_nat -/
def spLrow (K : PySem.W.Frag) : Sp := fun vs H Q _ => ∃ (a : Addr) (ns : List Int) (i m : Nat) (sp : Int), vs = [.ref a, .int i, .int m, .int sp] ∧ SqL K H a (ns.map V.int) ∧ ns.length ≤ 63 ∧ i < 1000 ∧ m ≤ 12 ∧ (1 ≤ sp ∧ sp ≤ 1000000000) ∧
  ∀ (H' : Hp) (q : Addr) (ks : List Int), Same H H' → H q = none → H' q = some (.lst (ks.map V.int)) → ks.length = m → (∀ z ∈ ks, -1000000000 ≤ z ∧ z ≤ 1000000000) → Q (.ref q) H'
theorem ok_lrow (T : Tx K mg A) : FnOk P w K mg base CX0 3 A.f__law_row A.d__law_row ["script", "at", "many", "span"] (spLrow K) := by
  refine T.F__law_row.ok sc__law_row (fun vs H Q E h => ?_) (fun cdv B outer s H vs Q E hr h => ?_)
  · obtain ⟨a, ns, i, m, sp, rfl, _⟩ := h
    rfl
  · obtain ⟨a, ns, i, m, sp, rfl, ha, h63, hi, hm, hsp, q⟩ := h
    have nd := sc__law_row.nd
    refine ⟨_, (pss_one (ps_ret (pe_lc (own := [("turn", 4)]) (g := gName 4) (tt := tYes) rfl nd (pi_range1 rfl T.g_range (pa_cons (pv 2) pa_nil)) (blkOk_by (own := [("turn", 4)]) (N := ["script", "at", "many", "span", "turn"]) (sc := (defScope s__law_row)) (by decide +kernel)) (fun _ _ _ _ _ => pg_name (i := 4) nd rfl (Or.inl rfl)) (fun _ _ _ _ _ => pts_nil) (fun _ _ _ _ _ => (pe_op op_sub (pe_op op_mod (pe_callTy call_int1 (by rfl) T.g_int (by decide +kernel) (pa_cons (pe_call (ok_num T) (hr.mono (by decide)) (by rfl) T.m__law_number T.F__law_number.kp (b_num T) .nil pass0 (pa_cons (pv 0) (pa_cons (pe_op op_add (pv 1) (pv 4)) pa_nil))) pa_nil)) (pv 3)) (pe_op op_fdiv (pv 3) pe_int)))))), ?_⟩
    refine ⟨_, rfl, m, rfl, by omega, by omega, fun D nD => ?_⟩
    refine lc_it (walk_range (lo := 0) (n := m)) (fun j H' => ∃ ks : List Int, ks.length = j ∧ (∀ z ∈ ks, -1000000000 ≤ z ∧ z ≤ 1000000000) ∧ Acc H D (ks.map V.int) H') ⟨[], rfl, fun z hz => absurd hz (List.not_mem_nil), Acc.start nD⟩ (fun _ _ _ _ => trivial) ?_ ?_
    · rintro j x H6 H7 hj ⟨ks, hkl, hkb, ac⟩ ⟨rfl, ex⟩
      obtain rfl : x = V.int (j : Nat) := by
        rw [ex]
        show V.int (0 + (j : Int)) = _
        rw [Int.zero_add]
      refine ⟨rfl, _, rfl, _, rfl, _, rfl, _, _, rfl, rfl, a, ns, i + j, congrArg (fun z => [V.ref a, V.int z]) (by omega), ac.s.seq ha, h63, by omega, fun H4 r s4 => ?_⟩
      have ac4 := ac.same s4
      refine .inl ⟨_, rfl, _, rfl, _, _, rfl, rfl, by show (0 : Int) < sp; omega, _, rfl, _, _, rfl, rfl, ⟨by decide, by decide⟩, _, _, rfl, rfl, _, ac4.a, small1000 (by rw [List.length_map]; omega), ks ++ [r % sp - sp / 3], by rw [List.length_append, hkl]; rfl, fun z hz => ?_, ?_⟩
      · rcases List.mem_append.mp hz with h | h
        · exact hkb z h
        · rw [List.mem_singleton.mp h]
          have b1 := Int.emod_nonneg r (show sp ≠ 0 by omega)
          have b2 := Int.emod_lt_of_pos r (show 0 < sp by omega)
          omega
      · rw [← map_one]
        exact ac4.push
    · rintro H6 ⟨ks, hkl, hkb, ac⟩
      exact q _ D ks ac.s nD ac.a hkl hkb
theorem b_lrow (T : Tx K mg A) : L2.Binds K A.d__law_row ["script", "at", "many", "span"] [] := T.F__law_row.binds fun _ _ _ _ _ _ us hl => match us, hl with | [_, _, _, _], _ => rfl
def muI : Option (Option V) → Nat
  | some (some (.int i)) => i.toNat
  | _ => 0
def spLpsh : Sp := fun vs H Q _ => ∃ (h w : Nat) (k : Int) (ks : List Int), vs = [.ref h, .int k, .int w] ∧ (1 ≤ w ∧ w ≤ 4) ∧ H h = some (.lst (ks.map V.int)) ∧ ks.length < 12 ∧
  ∀ (H' : Hp) (q : Addr), Same H H' → H q = none → H' q = some (.lst ((goUp w 20 (ks ++ [k]) ks.length [ks.length] 0).1.map V.int)) → Q (.ref q) H'
theorem ok_lpsh (T : Tx K mg A) : FnOk P w K mg base CX0 3 A.f__law_pushed A.d__law_pushed ["heap", "key", "wide"] spLpsh := by
  refine T.F__law_pushed.ok sc__law_pushed (fun vs H Q E h => ?_) (fun cdv B outer s H vs Q E hr h => ?_)
  · obtain ⟨h, w, k, ks, rfl, _⟩ := h
    rfl
  · obtain ⟨h, w, k, ks, rfl, hw, eh, hl, q⟩ := h
    have nd := sc__law_pushed.nd
    refine ⟨_, (C8.pss_cut (ps_par (i := 3) (j := 4) rfl nd rfl rfl (by decide) rfl rfl (pa_cons (pe_op op_cat (pv 0) (pe_lst (pa_cons (pv 1) pa_nil))) (pa_cons (pe_callB call_len_seq (by rfl) T.g_len PySem.boot_len (pa_cons (pv 0) pa_nil)) pa_nil)) rfl)
      (C8.pss_cut (ps_while PassesOwn.never (PW.pt (pw_and (pt_cmpR op_gt (pv 4) pe_int (nomark _)) (pw_and1 (pt_cmpR op_lt (pe_ix (r := rIxL K) ix_list (pv 3) (pv 4) (fun _ _ => rfl)) (pe_ix (r := rIxL K) ix_list (pv 3) (pe_op op_fdiv (pe_op op_sub (pv 4) pe_int) (pv 2)) (fun _ _ => rfl)) (nomark _))))) (C8.pss_cut (ps_set (i := 5) nd rfl (Or.inl rfl) (pe_op op_fdiv (pe_op op_sub (pv 4) pe_int) (pv 2)))
      (C8.pss_cut (ps_asg (pe_tup (pa_cons (pe_ix ix_list (pv 3) (pv 5) (fun _ _ => rfl)) (pa_cons (pe_ix ix_list (pv 3) (pv 4) (fun _ _ => rfl)) pa_nil))) (pg_tup rfl (pgs_cons (pg_sub (pv 3) (pv 4) set_list) (pgs_cons (pg_sub (pv 3) (pv 5) set_list) pgs_nil))))
      (pss_one (ps_set (i := 4) nd rfl (Or.inl rfl) (pv 5))))))
      (pss_one (ps_ret (pv 3))))), ?_⟩
    refine ⟨fun σ' H' => ∃ D : Addr, σ' = [some (.ref h), some (.int k), some (.int w), some (.ref D), some (.int (ks.length : Nat)), none] ∧ Acc H D ((ks ++ [k]).map V.int) H', ?_, ?_⟩
    · refine ⟨_, rfl, _, rfl, by show 1 ≤ sizeLine; decide, fun l nl => ?_⟩
      have s1 := Same.up (o := .lst [V.int k]) nl
      refine ⟨h, l, _, _, rfl, rfl, s1 _ _ eh, upd_same, by rw [List.length_map, List.length_singleton, sizeLine_eq]; omega, fun D nD => ?_⟩
      rw [map_one]
      have s2 := s1.trans (Same.up (o := .lst ((ks ++ [k]).map V.int)) nD)
      refine ⟨_, rfl, h, _, rfl, .inl (SqL.of (s2 _ _ eh)), _, _, rfl, D, ?_, s2, s1.free nD, upd_same⟩
      rw [List.length_map]
      rfl
    rintro σ' H1 ⟨D, rfl, ac⟩
    have hG : (ks ++ [k]).length = ks.length + 1 := by rw [List.length_append]; rfl
    generalize eG : (goUp w 20 (ks ++ [k]) ks.length [ks.length] 0).1 = G at q
    have inv0 : ∃ f way lk, ks.length ≤ f ∧ (goUp w f (ks ++ [k]) ks.length way lk).1 = G := ⟨20, _, _, by omega, eG⟩
    clear eG
    refine ⟨fun σ' H' => ∃ (x4 x5 : Option V), σ' = [some (.ref h), some (.int k), some (.int w), some (.ref D), x4, x5] ∧ Acc H D (G.map V.int) H', ?_, ?_⟩
    · refine while_by (fun σ' H' => ∃ (x : List Int) (p : Nat) (x5 : Option V), σ' = [some (.ref h), some (.int k), some (.int w), some (.ref D), some (.int p), x5] ∧ Acc H D (x.map V.int) H' ∧ p < x.length ∧ x.length = ks.length + 1 ∧ ∃ f way lk, p ≤ f ∧ (goUp w f x p way lk).1 = G)
        (fun σ' _ => muI σ'[4]?) ⟨ks ++ [k], ks.length, none, rfl, ac, by omega, hG, inv0⟩ ?_ ?_
      · rintro σ' H2 ⟨x, p, x5, rfl, ac, hp, hx, f, way, lk, hf, eg⟩
        refine ⟨_, rfl, _, _, rfl, rfl, _, rfl, ?_⟩
        by_cases h0 : p = 0
        · rw [decide_eq_false (show ¬ ((p : Nat) : Int) > 0 by omega)]
          rw [h0, goUp_root] at eg
          refine iteF (iteF ⟨_, _, rfl, ?_⟩)
          rw [← eg]
          exact ac
        rw [decide_eq_true (show ((p : Nat) : Int) > 0 by omega)]
        have hd : (p - 1) / w < p := Nat.lt_of_le_of_lt (Nat.div_le_self _ _) (by omega)
        have ed : ((p : Int) - 1) / (w : Int) = (((p - 1) / w : Nat) : Int) := by
          rw [show (p : Int) - 1 = ((p - 1 : Nat) : Int) by omega]
          exact (Int.natCast_ediv _ _).symm
        obtain ⟨f2, rfl⟩ : ∃ f2, f = f2 + 1 := ⟨f - 1, by omega⟩
        refine iteT ⟨_, rfl, _, rfl, D, _, _, _, rfl, rfl, SqL.of ac.a, key_at hp, _, rfl, _, rfl, _, _, rfl, rfl, _, rfl, _, _, rfl, rfl, ⟨by omega, by omega⟩, D, _, _, _, rfl, rfl, SqL.of ac.a, (by rw [ed]; exact key_at (by omega)), _, _, rfl, rfl, _, rfl, ?_⟩
        by_cases hlt : keyAt x p < keyAt x ((p - 1) / w)
        · rw [decide_eq_true hlt]
          refine iteT ?_
          rw [goUp_go h0 hlt] at eg
          generalize enx : (p - 1) / w = nx at *
          have hc2 : nx < x.length := by omega
          refine ⟨fun σ' H' => σ' = [some (.ref h), some (.int k), some (.int w), some (.ref D), some (.int p), some (.int nx)] ∧ H' = H2, ?_, ?_⟩
          · refine ⟨_, rfl, _, _, rfl, rfl, _, rfl, _, _, rfl, rfl, ⟨by omega, by omega⟩, ?_, rfl⟩
            show [some (V.ref h), some (V.int k), some (V.int w), some (V.ref D), some (V.int p), some (V.int ((((p : Nat) : Int) - 1) / ((w : Nat) : Int)))] = _
            rw [ed]
          rintro σ' H3 ⟨rfl, rfl⟩
          refine ⟨fun σ' H' => σ' = [some (.ref h), some (.int k), some (.int w), some (.ref D), some (.int p), some (.int nx)] ∧ Acc H D ((swp x p nx).map V.int) H', ?_, ?_⟩
          · refine ⟨_, rfl, _, rfl, D, _, _, _, rfl, rfl, SqL.of ac.a, key_at hc2, _, rfl, _, rfl, D, _, _, _, rfl, rfl, SqL.of ac.a, key_at hp, by show 2 ≤ sizeLine; decide, fun t ht => ?_⟩
            have ac2 := ac.same (Same.up (o := .tup [V.int (keyAt x nx), V.int (keyAt x p)]) ht)
            have et : upd H3 t (.tup [V.int (keyAt x nx), V.int (keyAt x p)]) t = some (.tup [V.int (keyAt x nx), V.int (keyAt x p)]) := upd_same
            generalize upd H3 t (.tup [V.int (keyAt x nx), V.int (keyAt x p)]) = G1 at ac2 et
            refine ⟨t, _, rfl, SqT.of et, rfl, _, _, rfl, _, rfl, _, rfl, D, _, _, p, rfl, rfl, ac2.a, ixN_nat (by rw [List.length_map]; exact hp), ?_⟩
            rw [set_int]
            have ac3 : Acc H D ((x.set p (keyAt x nx)).map V.int) (upd G1 D (.lst ((x.set p (keyAt x nx)).map V.int))) := ac2.push
            generalize upd G1 D (.lst ((x.set p (keyAt x nx)).map V.int)) = G2 at ac3
            refine ⟨_, _, rfl, _, rfl, _, rfl, D, _, _, nx, rfl, rfl, ac3.a, ixN_nat (by rw [List.length_map, List.length_set]; exact hc2), ?_⟩
            rw [set_int, show (x.set p (keyAt x nx)).set nx (keyAt x p) = swp x p nx from rfl]
            exact ⟨rfl, rfl, ac3.push⟩
          rintro σ' H4 ⟨rfl, ac4⟩
          refine ⟨_, rfl, ⟨swp x p nx, nx, _, rfl, ac4, by rw [swp_len]; exact hc2, by rw [swp_len]; exact hx, f2, _, _, by omega, eg⟩, ?_⟩
          show ((nx : Nat) : Int).toNat < ((p : Nat) : Int).toNat
          rw [Int.toNat_natCast, Int.toNat_natCast]
          exact hd
        · rw [decide_eq_false hlt]
          rw [goUp_stay h0 hlt] at eg
          refine iteF ⟨_, _, rfl, ?_⟩
          rw [← eg]
          exact ac
      · rintro σ' H2 Q1 Q2 mono ⟨v, hv, i, j, e1, e2, b, e3, z⟩
        refine ⟨v, hv, i, j, e1, e2, b, e3, ?_⟩
        cases b with
        | false => exact mono _ _ z
        | true =>
          obtain ⟨a1, b1, a2, b2, a3, a4, a5, a6, a7, a8, a9, b3, c1, c2, c3, c4, d1, d2, d3, d4, f1, f2, g1, g2, g3, g4, g5, h1, h2, h3, h4, h5, h6, h7, h8, k1, k2, k3, k4, m1, m2, z⟩ := z
          exact ⟨a1, b1, a2, b2, a3, a4, a5, a6, a7, a8, a9, b3, c1, c2, c3, c4, d1, d2, d3, d4, f1, f2, g1, g2, g3, g4, g5, h1, h2, h3, h4, h5, h6, h7, h8, k1, k2, k3, k4, m1, m2, mono _ _ z⟩
    rintro σ' H2 ⟨x4, x5, rfl, ac⟩
    exact ⟨_, rfl, q _ D ac.s ac.n ac.a⟩
theorem b_lpsh (T : Tx K mg A) : L2.Binds K A.d__law_pushed ["heap", "key", "wide"] [] := T.F__law_pushed.binds fun _ _ _ _ _ _ us hl => match us, hl with | [_, _, _], _ => rfl
def spLput : Sp := fun vs H Q _ => ∃ (h w : Nat) (k : Int) (ks : List Int), vs = [.ref h, .int k, .int w] ∧ (1 ≤ w ∧ w ≤ 4) ∧ H h = some (.lst (ks.map V.int)) ∧ 0 < ks.length ∧ ks.length ≤ 12 ∧
  ∀ (H' : Hp) (q : Addr), Same H H' → H q = none → H' q = some (.lst ((goDown ks.length w 20 (putRow k ks) 0 [0] 0).1.map V.int)) → Q (.ref q) H'
theorem ok_lput (T : Tx K mg A) : FnOk P w K mg base CX0 3 A.f__law_put A.d__law_put ["heap", "key", "wide"] spLput := by
  refine T.F__law_put.ok sc__law_put (fun vs H Q E h => ?_) (fun cdv B outer s H vs Q E hr h => ?_)
  · obtain ⟨h, w, k, ks, rfl, _⟩ := h
    rfl
  · obtain ⟨h, w, k, ks, rfl, hw, eh, hp, hl, q⟩ := h
    have nd := sc__law_put.nd
    have hu := hr.units
    refine ⟨_, (C8.pss_cut (ps_asg (pe_tup (pa_cons (pe_op op_cat (pe_lst (pa_cons (pv 1) pa_nil)) (pe_slice (r := rSlL K) sl_list (pv 0) (po_some pe_int) po_none)) (pa_cons pe_int pa_nil))) (pg_tup rfl (pgs_cons (pg_name (i := 3) nd rfl (Or.inr rfl)) (pgs_cons (pg_name (i := 4) nd rfl (Or.inl rfl)) pgs_nil))))
      (pss_one (ps_while PassesOwn.never (pt_val pe_bl) (C8.pss_cut (ps_setLc (i := 6) (own := [("one", 5)]) (g := gName 5) rfl nd rfl rfl (sw_true rfl rfl rfl (by decide +kernel)) (pi_range2 rfl T.g_range (pa_cons (pe_op op_add (pe_op op_mul (pv 2) (pv 4)) pe_int) (pa_cons (pe_op op_add (pe_op op_add (pe_op op_mul (pv 2) (pv 4)) (pv 2)) pe_int) pa_nil))) (blkOk_by (own := [("one", 5)]) (N := ["heap", "key", "wide", "found", "place", "one", "some", "least"]) (sc := (defScope s__law_put)) (by decide +kernel)) (fun _ _ _ _ _ => pg_name (i := 5) nd rfl (Or.inl rfl)) (fun _ _ _ _ _ => pts_one (pt_cmpR op_lt (pv 5) (pe_callB (r := rLn K) call_len_seq (by rfl) T.g_len PySem.boot_len (pa_cons (pv 3) pa_nil)) (nomark _))) (fun _ _ _ _ _ => (pv 5)))
      (C8.pss_cut (ps_if (pt_cmpR (op_eqD hu) (pv 6) (pe_lst pa_nil) (nomark _)) (pss_one (ps_ret (pv 3))) pss_nil)
      (C8.pss_cut (ps_set (i := 7) nd rfl (Or.inl rfl) (pe_ix (r := rIxL K) ix_list (pv 6) pe_int (fun _ _ => rfl)))
      (C8.pss_cut (ps_for PassesOwn.never rfl (pi_list (pv 6)) (pg_name (i := 5) nd rfl (Or.inl rfl)) (pss_one (ps_set (i := 7) nd rfl (Or.inl rfl) (pe_ifExp (pt_cmpR op_lt (pe_ix (r := rIxL K) ix_list (pv 3) (pv 5) (fun _ _ => rfl)) (pe_ix (r := rIxL K) ix_list (pv 3) (pv 7) (fun _ _ => rfl)) (nomark _)) (pv 5) (pv 7)))))
      (C8.pss_cut (ps_if (pt_cmpR op_le (pe_ix (r := rIxL K) ix_list (pv 3) (pv 4) (fun _ _ => rfl)) (pe_ix (r := rIxL K) ix_list (pv 3) (pv 7) (fun _ _ => rfl)) (nomark _)) (pss_one (ps_ret (pv 3))) pss_nil)
      (C8.pss_cut (ps_asg (pe_tup (pa_cons (pe_ix ix_list (pv 3) (pv 7) (fun _ _ => rfl)) (pa_cons (pe_ix ix_list (pv 3) (pv 4) (fun _ _ => rfl)) pa_nil))) (pg_tup rfl (pgs_cons (pg_sub (pv 3) (pv 4) set_list) (pgs_cons (pg_sub (pv 3) (pv 7) set_list) pgs_nil))))
      (pss_one (ps_set (i := 4) nd rfl (Or.inl rfl) (pv 7)))))))))))), ?_⟩
    generalize eG : (goDown ks.length w 20 (putRow k ks) 0 [0] 0).1 = G at q
    have hlp := putRow_len (k := k) (ks := ks) hp
    refine ⟨fun σ' H' => ∃ D : Addr, σ' = [some (.ref h), some (.int k), some (.int w), some (.ref D), some (.int 0), none, none, none] ∧ Acc H D ((putRow k ks).map V.int) H', ?_, ?_⟩
    · refine ⟨_, rfl, by show 1 ≤ sizeLine; decide, fun l nl => ?_⟩
      have s1 := Same.up (o := .lst [V.int k]) nl
      refine ⟨_, rfl, _, rfl, h, _, rfl, SqL.of (s1 _ _ eh), fun l2 nl2 => ?_⟩
      rw [cut_one]
      have s2 := Same.up (o := .lst ((ks.drop 1).map V.int)) nl2
      refine ⟨l, l2, _, _, rfl, rfl, s2 _ _ upd_same, upd_same, by rw [List.length_map, List.length_drop, List.length_singleton, sizeLine_eq]; omega, fun D nD => ?_⟩
      rw [show [V.int k] ++ (ks.drop 1).map V.int = (putRow k ks).map V.int from rfl]
      have s3 := s1.trans s2
      refine ⟨by show 2 ≤ sizeLine; decide, fun t nt => ?_⟩
      have s4 := s3.trans (Same.up (o := .lst ((putRow k ks).map V.int)) nD)
      have s5 := Same.up (o := .tup [V.ref D, V.int 0]) nt
      refine ⟨t, _, rfl, SqT.of upd_same, rfl, _, _, rfl, _, _, rfl, rfl, ?_⟩
      exact ⟨D, rfl, s4.trans s5, s3.free nD, s5 _ _ upd_same⟩
    rintro σ' H1 ⟨D, rfl, ac⟩
    have inv0 : ∃ f way lk, ks.length ≤ 0 + f ∧ (goDown ks.length w f (putRow k ks) 0 way lk).1 = G := ⟨20, _, _, by omega, eG⟩
    clear eG
    refine while_by (fun σ' H' => ∃ (x : List Int) (p : Nat) (x5 x6 x7 : Option V), σ' = [some (.ref h), some (.int k), some (.int w), some (.ref D), some (.int p), x5, x6, x7] ∧ Acc H D (x.map V.int) H' ∧ p < ks.length ∧ x.length = ks.length ∧ ∃ f way lk, ks.length ≤ p + f ∧ (goDown ks.length w f x p way lk).1 = G)
        (fun σ' _ => 12 - muI σ'[4]?) ⟨putRow k ks, 0, none, none, none, rfl, ac, hp, hlp, inv0⟩ ?_ ?_
    · rintro σ' H2 ⟨x, p, x5, x6, x7, rfl, ac, hpn, hx, f, way, lk, hf, eg⟩
      refine ⟨_, rfl, ?_⟩
      refine iteT ?_
      have hn12 : x.length ≤ 12 := by omega
      refine ⟨fun σ' H' => ∃ (L : Addr) (y5 : Option V), σ' = [some (.ref h), some (.int k), some (.int w), some (.ref D), some (.int p), y5, some (.ref L), x7] ∧ Same H2 H' ∧ H2 L = none ∧ H' L = some (.lst (vi (kidL ks.length w p))), ?_, ?_⟩
      · have ef : ((w : Int) * (p : Nat) + 1) = ((w * p + 1 : Nat) : Int) := by push_cast; rfl
        have ef2 : ((w : Int) * (p : Nat) + (w : Int) + 1) = ((w * p + 1 : Nat) : Int) + (w : Int) := by push_cast; omega
        have hwl2 : w * p ≤ 4 * 12 := Nat.mul_le_mul hw.2 (by omega)
        obtain ⟨first, efi⟩ : ∃ first, first = w * p + 1 := ⟨_, rfl⟩
        have hkl := kid_law ks.length (by omega) w (by omega) p hpn hw.1
        rw [← efi] at hkl
        refine ⟨_, rfl, _, rfl, _, _, rfl, rfl, .inl ⟨by omega, by omega⟩, _, _, rfl, rfl, _, rfl, _, rfl, _, _, rfl, rfl, .inl ⟨by omega, by omega⟩, _, rfl, _, _, rfl, rfl, _, _, rfl, rfl, _, _, rfl, ?_⟩
        rw [ef2, ef, ← efi]
        refine ⟨⟨by omega, by omega, by omega, by omega⟩, fun D2 nD2 => ?_⟩
        rw [show (((first : Nat) : Int) + (w : Int) - ((first : Nat) : Int)).toNat = w by omega]
        refine lc_it (walk_range (lo := ((first : Nat) : Int)) (n := w)) (PickI H2 D2 ((List.range w).map fun j => first + j) fun z => if decide (z < ks.length) = true then some (V.int (z : Nat)) else none) (pick_start nD2) (fun _ _ _ _ => trivial) ?_ ?_
        · rintro j x8 H5 H6 hj pk ⟨rfl, ex⟩
          have hj2 : j < ((List.range w).map fun j => first + j).length := by rw [List.length_map, List.length_range]; exact hj
          have el : ((List.range w).map fun j => first + j)[j] = first + j := by rw [List.getElem_map, List.getElem_range]
          obtain rfl : x8 = V.int ((first + j : Nat) : Int) := by
            rw [ex]
            push_cast
            rfl
          refine ⟨rfl, _, rfl, _, rfl, D, _, rfl, .inl (pk.s.seq (SqL.of ac.a)), _, _, rfl, rfl, _, rfl, ?_⟩
          rw [List.length_map, hx]
          by_cases h : first + j < ks.length
          · rw [decide_eq_true (show ((first + j : Nat) : Int) < (ks.length : Nat) by omega)]
            exact iteT ⟨_, rfl, pick_yes hj2 (by rw [List.length_map, List.length_range]; omega) (by rw [el, if_pos (decide_eq_true h)]) (Same.refl _) pk⟩
          · rw [decide_eq_false (show ¬ ((first + j : Nat) : Int) < (ks.length : Nat) by omega)]
            exact iteF (pick_no hj2 (by rw [el, if_neg (fun z => h (of_decide_eq_true z))]) (Same.refl _) pk)
        · intro G pk
          have aL := pick_end (by rw [List.length_map, List.length_range]) pk
          rw [pickN_map, hkl] at aL
          exact ⟨D2, x5, rfl, aL.s, nD2, by rw [vi_zl]; exact aL.a⟩
      rintro σ' H3 ⟨L, y5, rfl, s3, nL, eL⟩
      have ac3 := ac.same s3
      have nLD : L ≠ D := fun z => by rw [z, ac.a] at nL; cases nL
      refine ⟨fun σ' H' => ∃ (y5 : Option V), σ' = [some (.ref h), some (.int k), some (.int w), some (.ref D), some (.int p), y5, some (.ref L), x7] ∧ Acc H D (x.map V.int) H' ∧ H' L = some (.lst (vi (kidL ks.length w p))) ∧ kidL ks.length w p ≠ [], ?_, ?_⟩
      · refine ⟨_, rfl, Nat.zero_le _, fun e0 ne0 => ?_⟩
        have s4 := Same.up (o := .lst []) ne0
        have ac4 := ac3.same s4
        have eL4 := s4 _ _ eL
        have he0 : upd H3 e0 (.lst []) e0 = some (.lst (vi [])) := upd_same
        generalize upd H3 e0 (.lst []) = H4 at ac4 eL4 he0
        refine ⟨_, _, dp_lst _ eL4, dp_lst _ he0, dl_shapedL _, dl_shapedL _, _, rfl, ?_⟩
        rw [dl_emp]
        by_cases hk0 : kidL ks.length w p = []
        · rw [decide_eq_true hk0]
          refine iteT ⟨_, rfl, ?_⟩
          have eg2 : (goDown ks.length w f x p way lk).1 = x := by
            cases f with
            | zero => rfl
            | succ f => rw [goDown_leaf hk0]
          rw [← eg, eg2] at q
          exact q _ D ac4.s ac4.n ac4.a
        · rw [decide_eq_false hk0]
          exact iteF ⟨_, rfl, ac4, eL4, hk0⟩
      rintro σ' H4 ⟨z5, rfl, ac4, eL4, hk0⟩
      have hpos := List.length_pos_iff.mpr hk0
      have hmem := least_mem (ks := x) hk0
      have hk4 := kid_len ks.length (by omega) w (by omega) p hpn hw.1
      obtain ⟨hb1, hb2⟩ := kid_in hw.1 hmem
      have at0 : atI (vi (kidL ks.length w p)) 0 = some (V.int (((kidL ks.length w p).getD 0 0 : Nat) : Int)) := by
        show atI (vi (kidL ks.length w p)) ((0 : Nat) : Int) = _
        refine atI_nat ?_
        unfold vi
        rw [List.getElem?_map, List.getD_eq_getElem?_getD, List.getElem?_eq_getElem hpos]
        rfl
      refine ⟨fun σ' H' => σ' = [some (.ref h), some (.int k), some (.int w), some (.ref D), some (.int p), z5, some (.ref L), some (.int (((kidL ks.length w p).getD 0 0 : Nat) : Int))] ∧ H' = H4, ?_, ?_⟩
      · exact ⟨_, rfl, L, _, _, _, rfl, rfl, SqL.of eL4, at0, rfl, rfl⟩
      rintro σ' H5 ⟨rfl, rfl⟩
      refine ⟨fun σ' H' => ∃ y5 : Option V, σ' = [some (.ref h), some (.int k), some (.int w), some (.ref D), some (.int p), y5, some (.ref L), some (.int (leastC x (kidL ks.length w p) : Nat))] ∧ H' = H5, ?_, ?_⟩
      · refine ⟨_, rfl, L, rfl, ⟨_, SqL.of eL4⟩, for_list (K := K) (a := L) (xs := vi (kidL ks.length w p)) (fun i2 σ' G => ∃ (j : Nat) (y5 : Option V), σ' = [some (.ref h), some (.int k), some (.int w), some (.ref D), some (.int p), y5, some (.ref L), some (.int ((kidL ks.length w p).getD j 0 : Nat))] ∧ G = H5 ∧
              Cl.FirstLeast (fun m => keyAt x ((kidL ks.length w p).getD m 0)) (max i2 1) j) ⟨0, z5, rfl, rfl, ⟨by omega, fun k hk => by rw [show k = 0 by omega]; omega, fun k hk => absurd hk (by omega)⟩⟩ (fun i2 σ' G _ ⟨_, _, _, e, _⟩ => by rw [e]; exact SqL.of eL4) ?_ ?_⟩
        · rintro i2 u σ' G hx2 ⟨j, y9, rfl, rfl, fl⟩
          obtain ⟨hi2', rfl⟩ := vi_at hx2
          have hmi : (kidL ks.length w p).getD i2 0 ∈ kidL ks.length w p := by rw [List.getD_eq_getElem?_getD, List.getElem?_eq_getElem hi2']; exact List.getElem_mem hi2'
          have hj : j < (kidL ks.length w p).length := by have := fl.1; omega
          have hmj : (kidL ks.length w p).getD j 0 ∈ kidL ks.length w p := by rw [List.getD_eq_getElem?_getD, List.getElem?_eq_getElem hj]; exact List.getElem_mem hj
          have q1 := (kid_in hw.1 hmi).2
          have q2 := (kid_in hw.1 hmj).2
          have st := first_step fl
          refine ⟨_, rfl, _, rfl, D, _, _, _, rfl, rfl, SqL.of ac4.a, key_at (by omega), _, rfl, _, rfl, D, _, _, _, rfl, rfl, SqL.of ac4.a, key_at (by omega), _, _, rfl, rfl, _, rfl, ?_⟩
          rw [show max (i2 + 1) 1 = i2 + 1 by omega]
          by_cases hl : keyAt x ((kidL ks.length w p).getD i2 0) < keyAt x ((kidL ks.length w p).getD j 0)
          · rw [decide_eq_true hl]
            rw [if_pos hl] at st
            exact iteT ⟨_, rfl, i2, _, rfl, rfl, st⟩
          · rw [decide_eq_false hl]
            rw [if_neg hl] at st
            exact iteF ⟨_, rfl, j, _, rfl, rfl, st⟩
        · rintro σ' G ⟨j, y9, rfl, rfl, fl⟩
          rw [vi_len, show max (kidL ks.length w p).length 1 = (kidL ks.length w p).length by omega] at fl
          rw [least_of fl]
          exact ⟨_, rfl, rfl⟩
      rintro σ' G ⟨y5, rfl, rfl⟩
      generalize ebb : leastC x (kidL ks.length w p) = c at *
      have hc1 : p < x.length := by omega
      have hc2 : c < x.length := by omega
      refine ⟨fun σ' H' => σ' = [some (.ref h), some (.int k), some (.int w), some (.ref D), some (.int p), y5, some (.ref L), some (.int (c : Nat))] ∧ H' = G ∧ keyAt x c < keyAt x p, ?_, ?_⟩
      · refine ⟨_, rfl, _, rfl, D, _, _, _, rfl, rfl, SqL.of ac4.a, key_at hc1, _, rfl, _, rfl, D, _, _, _, rfl, rfl, SqL.of ac4.a, key_at hc2, _, _, rfl, rfl, _, rfl, ?_⟩
        by_cases hlt : keyAt x c < keyAt x p
        · rw [decide_eq_false (show ¬ keyAt x p ≤ keyAt x c by omega)]
          exact iteF ⟨rfl, rfl, hlt⟩
        · rw [decide_eq_true (show keyAt x p ≤ keyAt x c by omega)]
          refine iteT ⟨_, rfl, ?_⟩
          have eg2 : (goDown ks.length w f x p way lk).1 = x := by
            cases f with
            | zero => rfl
            | succ f => rw [goDown_stay hk0 (by rw [ebb]; exact hlt)]
          rw [← eg, eg2] at q
          exact q _ D ac4.s ac4.n ac4.a
      rintro σ' H6 ⟨rfl, rfl, hlt⟩
      obtain ⟨f2, rfl⟩ : ∃ f2, f = f2 + 1 := ⟨f - 1, by omega⟩
      rw [goDown_go hk0 ebb hlt] at eg
      refine ⟨fun σ' H' => σ' = [some (.ref h), some (.int k), some (.int w), some (.ref D), some (.int p), y5, some (.ref L), some (.int (c : Nat))] ∧ Acc H D ((swp x p c).map V.int) H', ?_, ?_⟩
      · refine ⟨_, rfl, _, rfl, D, _, _, _, rfl, rfl, SqL.of ac4.a, key_at hc2, _, rfl, _, rfl, D, _, _, _, rfl, rfl, SqL.of ac4.a, key_at hc1, by show 2 ≤ sizeLine; decide, fun t ht => ?_⟩
        have ac2 := ac4.same (Same.up (o := .tup [V.int (keyAt x c), V.int (keyAt x p)]) ht)
        have et : upd H6 t (.tup [V.int (keyAt x c), V.int (keyAt x p)]) t = some (.tup [V.int (keyAt x c), V.int (keyAt x p)]) := upd_same
        generalize upd H6 t (.tup [V.int (keyAt x c), V.int (keyAt x p)]) = G1 at ac2 et
        refine ⟨t, _, rfl, SqT.of et, rfl, _, _, rfl, _, rfl, _, rfl, D, _, _, p, rfl, rfl, ac2.a, ixN_nat (by rw [List.length_map]; exact hc1), ?_⟩
        rw [set_int]
        have ac3 : Acc H D ((x.set p (keyAt x c)).map V.int) (upd G1 D (.lst ((x.set p (keyAt x c)).map V.int))) := ac2.push
        generalize upd G1 D (.lst ((x.set p (keyAt x c)).map V.int)) = G2 at ac3
        refine ⟨_, _, rfl, _, rfl, _, rfl, D, _, _, c, rfl, rfl, ac3.a, ixN_nat (by rw [List.length_map, List.length_set]; exact hc2), ?_⟩
        rw [set_int, show (x.set p (keyAt x c)).set c (keyAt x p) = swp x p c from rfl]
        exact ⟨rfl, rfl, ac3.push⟩
      rintro σ' H7 ⟨rfl, ac7⟩
      refine ⟨_, rfl, ⟨swp x p c, c, _, _, _, rfl, ac7, by omega, by rw [swp_len]; exact hx, f2, _, _, by omega, eg⟩, ?_⟩
      show 12 - ((c : Nat) : Int).toNat < 12 - ((p : Nat) : Int).toNat
      rw [Int.toNat_natCast, Int.toNat_natCast]
      omega
    · rintro σ' H2 Q1 Q2 mono ⟨b, e, z⟩
      exact ⟨b, e, mono _ _ z⟩
theorem b_lput (T : Tx K mg A) : L2.Binds K A.d__law_put ["heap", "key", "wide"] [] := T.F__law_put.binds fun _ _ _ _ _ _ us hl => match us, hl with | [_, _, _], _ => rfl

end
end Tw

set_option Elab.async false
set_option linter.all false
set_option maxRecDepth 100000
set_option maxHeartbeats 2000000
namespace Tw
open PySem PySem.Spec PyProof.Rows L2
section
variable {P : Program} {w : World} {K : PySem.W.Frag} {mg : Str → Option Value} {base : Heap} {A : Ad}
open LamX (ExtN Tabs TabS)
theorem el_key {l : List Int} {i : Nat} (h : i < l.length) : l[i] = keyAt l i := by
  unfold keyAt
  rw [List.getD_eq_getElem?_getD, List.getElem?_eq_getElem h]
  rfl
theorem keyAt_mem {ks : List Int} {p : Nat} (h : p < ks.length) : keyAt ks p ∈ ks := by
  unfold keyAt
  rw [List.getD_eq_getElem?_getD, List.getElem?_eq_getElem h]
  exact List.getElem_mem h
end
end Tw

set_option Elab.async false
set_option linter.all false
set_option maxRecDepth 100000
set_option maxHeartbeats 2000000
namespace Tw
open PySem PySem.Spec PyProof.Rows L2
section
variable {P : Program} {w : World} {K : PySem.W.Frag} {mg : Str → Option Value} {base : Heap} {A : Ad}
open LamX (ExtN Tabs TabS)
/-! _law_things_right, changes -/
def OddX (K : PySem.W.Frag) (H : Hp) (x : V) : Prop := (∃ i, x = .int i) ∨ (∃ n b1 b2, TyX K H x (.type n) ∧ kitB n "int" = some b1 ∧ kitB n "bool" = some b2 ∧ (b1 && !b2) = false)
def spLtr (A : Ad) : Sp := fun vs H Q _ => ∃ (p h r w n t : Nat) (ks : List Int), vs = [.ref p, .ref h] ∧ KAt A.CK H p r w n t ks ∧ H h = some (.lst (ks.map V.int)) ∧ ks.length ≤ 12 ∧ (∀ z ∈ ks, -1000000000 ≤ z ∧ z ≤ 1000000000) ∧ ∀ H', Same H H' → Q (.bl true) H'
theorem ok_ltr (T : Tx K mg A) : FnOk P w K mg base CX0 5 A.f__law_things_right A.d__law_things_right ["keeper", "heap"] (spLtr A) := by
  refine T.F__law_things_right.ok sc__law_things_right (fun vs H Q E h => ?_) (fun cdv B outer s H vs Q E hr h => ?_)
  · obtain ⟨p, h, r, w, n, t, ks, rfl, _⟩ := h
    rfl
  · obtain ⟨p, h, r, w, n, t, ks, rfl, hK1, eh, hl, hb, q⟩ := h
    have nd := sc__law_things_right.nd
    refine ⟨_, (C8.pss_cut (ps_for PassesOwn.never rfl (pi_list (pe_op op_cat (pv 1) (pe_lst (pa_cons pe_non (pa_cons pe_bl (pa_cons pe_bl (pa_cons pe_str (pa_cons (pe_tup (pa_cons pe_int pa_nil)) (pa_cons (pe_lst pa_nil) (pa_cons (pe_op op_add (pe_op op_pow pe_int pe_int) pe_int) (pa_cons (pe_op op_sub (pe_un un_neg (pe_op op_pow pe_int pe_int)) pe_int) (pa_cons (pe_op op_pow pe_int pe_int) (pa_cons pe_dnewK pa_nil))))))))))))) (pg_name (i := 2) nd rfl (Or.inl rfl)) (C8.pss_cut (ps_set (i := 3) nd rfl (Or.inl rfl) (pe_and (pe_callB call_isi (by rfl) T.g_isinstance (by decide +kernel) (pa_cons (pv 2) (pa_cons (pe_bltn (v := .ty "int") (by rfl) T.g_int (by decide +kernel) rfl) pa_nil))) (pe_and (pe_not (pe_callB call_isi (by rfl) T.g_isinstance (by decide +kernel) (pa_cons (pv 2) (pa_cons (pe_bltn (v := .ty "bool") (by rfl) T.g_bool (by decide +kernel) rfl) pa_nil)))) (pe_one (pe_cmpR (r := L2.rIn K false) op_in_seq (pv 2) (pv 1) (by rfl))))))
      (pss_one (ps_if (pt_cmpR op_ne (pe_cmpR (op_in_own T.D_e___contains__ (ok_econt T) (hr.mono (by decide)) (b_econt T) pass0) (pv 2) (pv 0) (by rfl)) (pv 3) (nomark _)) (pss_one (ps_ret pe_bl)) pss_nil))))
      (pss_one (ps_ret (pe_callB (cr_all rfl) (by rfl) T.g_all (by decide +kernel) (pa_cons (pe_lc (own := [("key", 4)]) (g := gName 4) (tt := tYes) rfl nd (pi_range2 rfl T.g_range (pa_cons (pe_un un_neg pe_int) (pa_cons pe_int pa_nil))) (blkOk_by (own := [("key", 4)]) (N := ["keeper", "heap", "thing", "due", "key"]) (sc := (defScope s__law_things_right)) (by decide +kernel)) (fun _ _ _ _ _ => pg_name (i := 4) nd rfl (Or.inl rfl)) (fun _ _ _ _ _ => pts_nil) (fun _ _ _ _ _ => (pe_cmpR op_eq (pe_cmpR (op_in_own T.D_e___contains__ (ok_econt T) (hr.mono (by decide)) (b_econt T) pass0) (pv 4) (pv 0) (by rfl)) (pe_cmpR (r := L2.rIn K false) op_in_seq (pv 4) (pv 1) (by rfl)) (nomark _)))) pa_nil))))), ?_⟩
    refine ⟨fun σ' H' => ∃ (x2 x3 : Option V), σ' = [some (.ref p), some (.ref h), x2, x3, none] ∧ Same H H', ?_, ?_⟩
    · refine ⟨_, rfl, by show 1 ≤ sizeLine; decide, fun a1 n1 => ⟨Nat.zero_le _, fun a2 n2 => ?_⟩⟩
      have s1 := Same.up (o := .tup [V.int 1]) n1
      have s2 := s1.trans (Same.up (o := .lst []) n2)
      have e1 := (Same.up (o := .lst []) n2) _ _ (upd_same (H := H) (a := a1) (o := .tup [V.int 1]))
      have e2 := upd_same (H := upd H a1 (.tup [V.int 1])) (a := a2) (o := .lst [])
      generalize upd (upd H a1 (.tup [V.int 1])) a2 (.lst []) = H2 at s2 e1 e2
      refine ⟨_, _, rfl, rfl, ⟨by decide, by decide, by decide⟩, _, _, rfl, rfl, _, _, rfl, rfl, ⟨by decide, by decide, by decide⟩, _, rfl, _, _, rfl, rfl, _, _, rfl, rfl, ⟨by decide, by decide, by decide⟩, fun d0 nd0 => ⟨by show 10 ≤ sizeLine; decide, fun l nl => ?_⟩⟩
      have ed := upd_same (H := H2) (a := d0) (o := .dK [])
      have s3 := Same.up (o := .dK []) nd0
      generalize upd H2 d0 (.dK []) = H3 at s3 ed nl
      obtain ⟨its, eits⟩ : ∃ its : List V, its = [V.non, V.bl true, V.bl false, V.str (Str.ofString "1"), V.ref a1, V.ref a2, V.int ((10 : Int) ^ (9 : Int).toNat + 1), V.int (-((10 : Int) ^ (9 : Int).toNat) - 1), V.int ((10 : Int) ^ (40 : Int).toNat), V.ref d0] := ⟨_, rfl⟩
      have s4 := s3.trans (Same.up (o := .lst its) nl)
      have eX : upd H3 l (.lst its) l = some (.lst its) := upd_same
      have sh := s2.trans s4
      have hil : its.length = 10 := by rw [eits]; rfl
      refine ⟨h, l, ks.map V.int, _, rfl, rfl, by have z := sh _ _ eh; rw [eits] at z; exact z, upd_same, by rw [List.length_map, sizeLine_eq]; show ks.length + 10 ≤ _; omega, fun L nL => ?_⟩
      have nL : upd H3 l (.lst its) L = none := by rw [eits]; exact nL
      have s5 := Same.up (o := .lst (ks.map V.int ++ its)) nL
      have sg := sh.trans s5
      have eL := upd_same (H := upd H3 l (.lst its)) (a := L) (o := .lst (ks.map V.int ++ its))
      have hod2 : ∀ y ∈ ks.map V.int ++ its, OddX K (upd (upd H3 l (.lst its)) L (.lst (ks.map V.int ++ its))) y := by
        have e1' := s5 _ _ (s4 _ _ e1)
        have e2' := s5 _ _ (s4 _ _ e2)
        have ed' := s5 _ _ ((Same.up (o := .lst its) nl) _ _ ed)
        intro y hy
        rcases List.mem_append.mp hy with hy | hy
        · obtain ⟨i, _, rfl⟩ := List.mem_map.mp hy
          exact .inl ⟨i, rfl⟩
        rw [eits] at hy
        simp only [List.mem_cons, List.not_mem_nil, or_false] at hy
        rcases hy with rfl | rfl | rfl | rfl | rfl | rfl | rfl | rfl | rfl | rfl
        · exact .inr ⟨"NoneType", false, false, .base .non, by decide +kernel, by decide +kernel, rfl⟩
        · exact .inr ⟨"bool", true, true, .base (.bl _), by decide +kernel, by decide +kernel, rfl⟩
        · exact .inr ⟨"bool", true, true, .base (.bl _), by decide +kernel, by decide +kernel, rfl⟩
        · exact .inr ⟨"str", false, false, .base (.str _), by decide +kernel, by decide +kernel, rfl⟩
        · exact .inr ⟨"tuple", false, false, .base (.tup e1'), by decide +kernel, by decide +kernel, rfl⟩
        · exact .inr ⟨"list", false, false, .base (.lst e2'), by decide +kernel, by decide +kernel, rfl⟩
        · exact .inl ⟨_, rfl⟩
        · exact .inl ⟨_, rfl⟩
        · exact .inl ⟨_, rfl⟩
        · exact .inr ⟨"dict", false, false, .base (.dK ed'), by decide +kernel, by decide +kernel, rfl⟩
      have hKG := hK1.same sg
      have ehG := sg _ _ eh
      subst eits
      generalize upd (upd H3 l (.lst [V.non, V.bl true, V.bl false, V.str (Str.ofString "1"), V.ref a1, V.ref a2, V.int ((10 : Int) ^ (9 : Int).toNat + 1), V.int (-((10 : Int) ^ (9 : Int).toNat) - 1), V.int ((10 : Int) ^ (40 : Int).toNat), V.ref d0])) L (.lst (ks.map V.int ++ [V.non, V.bl true, V.bl false, V.str (Str.ofString "1"), V.ref a1, V.ref a2, V.int ((10 : Int) ^ (9 : Int).toNat + 1), V.int (-((10 : Int) ^ (9 : Int).toNat) - 1), V.int ((10 : Int) ^ (40 : Int).toNat), V.ref d0])) = G at sg eL hod2 hKG ehG
      generalize ks.map V.int ++ [V.non, V.bl true, V.bl false, V.str (Str.ofString "1"), V.ref a1, V.ref a2, V.int ((10 : Int) ^ (9 : Int).toNat + 1), V.int (-((10 : Int) ^ (9 : Int).toNat) - 1), V.int ((10 : Int) ^ (40 : Int).toNat), V.ref d0] = X at eL hod2
      obtain ⟨dG, fG, gG⟩ := hKG.ins
      refine ⟨L, rfl, ⟨_, SqL.of eL⟩, ?_⟩
      refine for_it (walk_list (xs := X)) (fun _ σ' H' => ∃ (x2 x3 : Option V), σ' = [some (.ref p), some (.ref h), x2, x3, none] ∧ H' = G) ⟨none, none, rfl, rfl⟩ ?_ ?_ ?_
      · rintro i σ' H' _ ⟨_, _, _, rfl⟩
        exact SqL.of eL
      rotate_left
      · rintro σ' H' ⟨x2, x3, e1, rfl⟩
        exact ⟨x2, x3, e1, sg⟩
      rintro i y σ' H4 H5 hi ⟨x2, x3, rfl, e4⟩ ⟨e5, hy⟩
      rw [e4] at e5
      subst H5
      subst H4
      have hyX : y ∈ X := List.mem_of_getElem? hy
      refine ⟨fun σ' H' => H' = G ∧ ∃ b : Bool, σ' = [some (.ref p), some (.ref h), some y, some (.bl b), none] ∧ ((∃ i, y = .int i ∧ b = decide (i ∈ ks)) ∨ (b = false ∧ ∃ n b1 b2, TyX K G y (.type n) ∧ kitB n "int" = some b1 ∧ kitB n "bool" = some b2 ∧ (b1 && !b2) = false)), ?_, ?_⟩
      · rcases hod2 y hyX with ⟨i, rfl⟩ | ⟨n, b1, b2, ty, k1, k2, k3⟩
        · refine ⟨_, rfl, _, _, .type "int", .type "int", true, rfl, .ty "int", .base (.int i), kit_ty (by decide +kernel), true, rfl, iteT ?_⟩
          refine ⟨_, rfl, _, _, .type "int", .type "bool", false, rfl, .ty "bool", .base (.int i), kit_ty (by decide +kernel), false, rfl, _, rfl, iteT ⟨_, rfl, _, rfl, h, _, rfl, .inl (SqL.of ehG), rfl, ints_flat _, ?_⟩⟩
          rw [if_neg Bool.false_ne_true, inV_ints]
          exact ⟨rfl, _, rfl, .inl ⟨i, rfl, rfl⟩⟩
        · refine ⟨_, rfl, _, _, .type n, .type "int", b1, rfl, .ty "int", ty, kit_ty k1, b1, rfl, ?_⟩
          cases b1 with
          | false => exact iteF ⟨rfl, false, rfl, .inr ⟨rfl, n, false, b2, ty, k1, k2, k3⟩⟩
          | true =>
            cases b2 with
            | false => cases k3
            | true =>
              refine iteT ⟨_, rfl, _, _, .type n, .type "bool", true, rfl, .ty "bool", ty, kit_ty k2, true, rfl, _, rfl, iteF ⟨rfl, false, rfl, .inr ⟨rfl, n, true, true, ty, k1, k2, k3⟩⟩⟩
      rintro σ' H5 ⟨rfl, b, rfl, hd⟩
      refine ⟨_, rfl, _, rfl, p, dG, fG, rfl, gG, p, r, w, n, t, ks, y, rfl, hKG, hb, ?_⟩
      rcases hd with ⟨i, rfl, rfl⟩ | ⟨rfl, hd⟩
      · refine .inl ⟨i, rfl, _, rfl, _, rfl, rfl, _, rfl, ?_⟩
        exact ite_b (c := false) (by simp) (iteF ⟨_, _, rfl, rfl⟩)
      · obtain ⟨c, b1, b2, ty, k1, k2, k3⟩ := hd
        refine .inr ⟨c, b1, b2, ty, k1, k2, k3, _, rfl, _, rfl, rfl, _, rfl, ?_⟩
        exact ite_b (c := false) (by simp) (iteF ⟨_, _, rfl, rfl⟩)
    rintro σ' H2 ⟨x2, x3, rfl, s2⟩
    have hK2 := hK1.same s2
    have eh2 := s2 _ _ eh
    obtain ⟨d2, f2, g2⟩ := hK2.ins
    refine ⟨_, rfl, _, _, rfl, ⟨by decide, by decide, by decide, by decide⟩, fun D nD => ?_⟩
    rw [show ((12 : Int) - -6).toNat = 18 by decide]
    refine lc_it (walk_range (lo := -6) (n := 18)) (fun j H' => Acc H2 D (List.replicate j (V.bl true)) H') (Acc.start nD) (fun _ _ _ _ => trivial) ?_ ?_
    · rintro j x4 H6 H7 hj ac ⟨rfl, ex⟩
      subst ex
      have hK7 := hK2.same ac.s
      obtain ⟨d7, f7, g7⟩ := hK7.ins
      refine ⟨rfl, _, rfl, _, rfl, p, d7, f7, rfl, g7, p, r, w, n, t, ks, _, rfl, hK7, hb, .inl ⟨_, rfl, _, rfl, _, rfl, _, rfl, h, _, rfl, .inl (SqL.of (ac.s _ _ eh2)), rfl, ints_flat _, ?_⟩⟩
      rw [if_neg Bool.false_ne_true, inV_ints]
      refine ⟨rfl, ?_⟩
      rw [if_neg Bool.false_ne_true, decide_eq_true (rfl : V.bl (decide (-6 + (j : Int) ∈ ks)) = V.bl (decide (-6 + (j : Int) ∈ ks)))]
      refine ⟨_, ac.a, small1000 (by rw [List.length_replicate]; omega), ?_⟩
      rw [show List.replicate j (V.bl true) ++ [V.bl true] = List.replicate (j + 1) (V.bl true) by rw [List.replicate_succ']]
      exact ac.push
    · intro G ac
      have ea := ac.a
      rw [show List.replicate 18 (V.bl true) = (List.replicate 18 true).map V.bl from rfl] at ea
      refine ⟨D, _, rfl, SqL.of ea, ?_⟩
      rw [show (List.replicate 18 true).all id = true from rfl]
      exact q G (s2.trans ac.s)
theorem b_ltr (T : Tx K mg A) : L2.Binds K A.d__law_things_right ["keeper", "heap"] [] := T.F__law_things_right.binds fun _ _ _ _ _ _ us hl => match us, hl with | [_, _], _ => rfl
/-- what comes of keys that are seen -/
def kpL (r w : Nat) (keys : List Int) : Nat → List Int × Nat
  | 0 => ([], 0)
  | i + 1 => (seeK r w (keyAt keys i) (kpL r w keys i).1, (kpL r w keys i).2 + if comesK r (keyAt keys i) (kpL r w keys i).1 = true then 1 else 0)
theorem kp_good {r w : Nat} {keys : List Int} (hw : 1 ≤ w ∧ w ≤ 4) (hr : 1 ≤ r ∧ r ≤ 12) (hb : ∀ z ∈ keys, -1000000000 ≤ z ∧ z ≤ 1000000000) : ∀ i, i ≤ keys.length → KG r w (kpL r w keys i).1
  | 0, _ => KG.nil
  | i + 1, hi => see_good hw hr (hb _ (keyAt_mem (by omega))) (kp_good hw hr hb i (by omega))
def spChg (A : Ad) : Sp := fun vs H Q _ => ∃ (r g : Nat) (keys : List Int), vs = [.int r, .ref g] ∧ (1 ≤ r ∧ r ≤ 12) ∧ RowIn H g keys ∧ Tabs (TT A) H ∧ ∀ H', ExtN H H' → Tabs (TT A) H' → Q (.int (kpL r 2 keys keys.length).2) H'
theorem ok_chg (T : Tx K mg A) (TB : LamX.TabB base mg A.c_least_child A.P_least_child) : FnOk P w K mg base CX0 11 A.f_changes A.d_changes ["room", "row"] (spChg A) := by
  obtain ⟨diK, riK, biK⟩ := bd_iK T
  refine T.F_changes.ok sc_changes (fun vs H Q E h => ?_) (fun cdv B outer s H vs Q E hr h => ?_)
  · obtain ⟨r, g, keys, rfl, _⟩ := h
    rfl
  · obtain ⟨r, g, keys, rfl, hr1, hg, hT, q⟩ := h
    have nd := sc_changes.nd
    refine ⟨_, (pss_cons (ps_set (i := 2) nd rfl (Or.inl rfl) (pe_make T.mkCK (ok_iK T) (hr.mono (by decide)) (by rfl) T.mCK biK riK pass0 (pa_cons (pv 0) pa_nil)))
      (C8.pss_cut (ps_for PassesOwn.never rfl (pi_tup (pe_call (ok_row T) (hr.mono (by decide)) (by rfl) T.m_row_of T.F_row_of.kp (b_row T) .nil pass0 (pa_cons (pv 1) pa_nil))) (pg_name (i := 3) nd rfl (Or.inl rfl)) (pss_one (ps_expr (pe_meth (pv 2) T.cTK T.M_e_see (ok_see T TB) (hr.mono (by decide)) (b_see T) .nil pass0 (pa_cons (pv 3) pa_nil)))))
      (pss_one (ps_ret (pe_prop (pv 2) T.cTK T.P_e_entered (ok_eent T) (hr.mono (by decide)) (b_eent T) .nil pass0 rfl))))), ?_⟩
    have hw2 : (1 : Nat) ≤ 2 ∧ (2 : Nat) ≤ 4 := by decide
    refine ⟨_, rfl, fun x dx nx ndx nex => ⟨x, dx, r, 2, rfl, hr1, hw2, upd_same, fun H1 t1 k1 hK1 => ⟨rfl, ?_⟩⟩⟩
    have s1 := new_same nx ndx k1
    refine ⟨fun σ' H' => ∃ (x3 : Option V) (t : Addr), σ' = [some (.int r), some (.ref g), some (.ref x), x3] ∧ Tabs (TT A) H' ∧ ExtN H H' ∧ KAt A.CK H' x r 2 (kpL r 2 keys keys.length).2 t (kpL r 2 keys keys.length).1, ?_, ?_⟩
    · refine ⟨_, rfl, g, keys, rfl, hg.1.same s1, hg.2.1, hg.2.2, fun H2 rw s2 e2 => ?_⟩
      have s12 := s1.trans s2
      have hK2 := hK1.same s2
      refine ⟨rw, rfl, ⟨_, SqT.of e2⟩, ?_⟩
      refine for_it (walk_tup (xs := keys.map V.int)) (fun i σ' H' => ∃ (x3 : Option V) (t : Addr), σ' = [some (.int r), some (.ref g), some (.ref x), x3] ∧ Tabs (TT A) H' ∧ ButP x H2 H' ∧ KAt A.CK H' x r 2 (kpL r 2 keys i).2 t (kpL r 2 keys i).1)
        ⟨none, t1, rfl, hT.ext s12, ButP.of (ExtN.refl _), hK2⟩ (fun i σ' H' _ ⟨_, _, _, _, b, _⟩ => ?_) ?_ ?_
      · obtain ⟨dz, fz, gz⟩ := hK2.ins
        exact SqT.of (b _ _ e2 (fun _ z => nomatch z) (ne_of e2 gz (by intro z; cases z)))
      · rintro i y σ' H3 H4 hi ⟨x3, t, rfl, tt3, b3, hK3⟩ ⟨rfl, hy⟩
        obtain ⟨hi2, rfl⟩ := ints_at hy
        rw [el_key hi2]
        obtain ⟨⟨d3, m3, g3⟩, g4⟩ := id hK3
        refine ⟨_, rfl, x, d3, _, rfl, g3, fdK_no _ _ _ _ _ (by decide +kernel) (by decide +kernel) (by decide +kernel) (by decide +kernel) (by decide +kernel), _, rfl, ?_⟩
        refine ⟨x, r, 2, _, t, keyAt keys i, _, rfl, hK3, hr1, hw2, kp_good hw2 hr1 hg.2.2 i (by omega), hg.2.2 _ (keyAt_mem hi2), tt3, fun H5 t5 q5 b5 tt5 hK5 e5 => ?_⟩
        exact ⟨_, t5, rfl, tt5, b3.trans b5, hK5⟩
      · rintro σ' H3 ⟨x3, t, rfl, tt3, b3, hK3⟩
        rw [List.length_map] at hK3
        refine ⟨x3, t, rfl, tt3, fun b o e n => ?_, hK3⟩
        exact b3 _ _ (s12 _ _ e) n (ne_of_none e nx)
    rintro σ' H2 ⟨x3, t, rfl, tt2, e2, hK2⟩
    obtain ⟨⟨d2, m, g1⟩, g2⟩ := id hK2
    refine ⟨_, rfl, x, d2, _, rfl, g1, x, r, 2, _, t, _, rfl, hK2, q _ e2 tt2⟩
theorem b_chg (T : Tx K mg A) : L2.Binds K A.d_changes ["room", "row"] [] := T.F_changes.binds fun _ _ _ _ _ _ us hl => match us, hl with | [_, _], _ => rfl

end
end Tw

set_option Elab.async false
set_option linter.all false
set_option maxRecDepth 100000
set_option maxHeartbeats 2000000
namespace Tw
open PySem PySem.Spec PyProof.Rows L2
section
variable {P : Program} {w : World} {K : PySem.W.Frag} {mg : Str → Option Value} {base : Heap} {A : Ad}
open LamX (ExtN Tabs TabS)
theorem sorted_one {xs ys : List Int} (hp : xs.Perm ys) (h1 : xs.Pairwise (· ≤ ·)) (h2 : ys.Pairwise (· ≤ ·)) : xs = ys := List.Perm.eq_of_pairwise (fun x y _ _ h1 h2 => Int.le_antisymm h1 h2) h1 h2 hp
end
end Tw

set_option Elab.async false
set_option linter.all false
set_option maxRecDepth 100000
set_option maxHeartbeats 2000000
namespace Tw
open PySem PySem.Spec PyProof.Rows L2
section
variable {P : Program} {w : World} {K : PySem.W.Frag} {mg : Str → Option Value} {base : Heap} {A : Ad}
open LamX (ExtN Tabs TabS)
/-! the greatest keys: sorted_one el_key -/
theorem root_min {n w : Nat} {ks : List Int} (h : HeapL n w ks) : ∀ m c, c ≤ m → c < n → keyAt ks 0 ≤ keyAt ks c
  | 0, c, hm, _ => by rw [show c = 0 by omega]; exact Int.le_refl _
  | m + 1, c, hm, hc => by
    by_cases h0 : c = 0
    · rw [h0]
      exact Int.le_refl _
    · have hd := par_lt (w := w) (show 1 ≤ c by omega)
      exact Int.le_trans (root_min h m ((c - 1) / w) (by omega) (by omega)) (h c (by omega) hc)
theorem root_le {w : Nat} {ks : List Int} (h : HeapL ks.length w ks) {z : Int} (hz : z ∈ ks) : keyAt ks 0 ≤ z := by
  obtain ⟨j, hj, e⟩ := List.mem_iff_getElem.mp hz
  rw [← e, el_key hj]
  exact root_min h j j (Nat.le_refl _) hj
theorem see_push {r w : Nat} {k : Int} {ks : List Int} (hr : r ≤ 12) (g : KG r w ks) (hl : ks.length < r) : (seeK r w k ks).Perm (ks ++ [k]) := by
  unfold seeK
  rw [if_pos hl]
  exact (push_ok (by omega) g.hp).2
theorem see_put {r w : Nat} {k : Int} {ks : List Int} (hw : 1 ≤ w) (hr : 1 ≤ r ∧ r ≤ 12) (g : KG r w ks) (hl : ¬ ks.length < r) (hk : keyAt ks 0 < k) : (keyAt ks 0 :: seeK r w k ks).Perm (k :: ks) := by
  unfold seeK
  rw [if_neg hl, if_pos (show ks.getD 0 0 < k from hk)]
  exact (put_ok hw (k := k) (by have := g.le; omega) (by omega) g.hp).2.2
theorem see_not {r w : Nat} {k : Int} {ks : List Int} (hl : ¬ ks.length < r) (hk : ¬ keyAt ks 0 < k) : seeK r w k ks = ks := by
  unfold seeK
  rw [if_neg hl, if_neg (show ¬ ks.getD 0 0 < k from hk)]
/-- the heap holds the greatest keys of those that were seen -/
def Most (r : Nat) (seen ks : List Int) : Prop := ks.length = min r seen.length ∧ ∃ rest : List Int, (rest ++ ks).Perm seen ∧ ∀ x ∈ rest, ∀ y ∈ ks, x ≤ y
theorem most_step {r w : Nat} {k : Int} {ks seen : List Int} (hw : 1 ≤ w ∧ w ≤ 4) (hr : 1 ≤ r ∧ r ≤ 12) (g : KG r w ks) (h : Most r seen ks) : Most r (seen ++ [k]) (seeK r w k ks) := by
  obtain ⟨hl, rest, hp, ho⟩ := h
  have hpl := hp.length_eq
  rw [List.length_append] at hpl
  refine ⟨?_, ?_⟩
  · rw [see_len hw hr g, List.length_append, List.length_singleton]
    split <;> omega
  by_cases h1 : ks.length < r
  · have he : rest = [] := List.length_eq_zero_iff.mp (by omega)
    subst he
    refine ⟨[], ?_, fun x hx => absurd hx (List.not_mem_nil)⟩
    exact (see_push hr.2 g h1).trans (hp.append_right _)
  · have h0 : keyAt ks 0 ∈ ks := keyAt_mem (by omega)
    by_cases h2 : keyAt ks 0 < k
    · have hsp := see_put hw.1 hr g h1 h2
      refine ⟨keyAt ks 0 :: rest, ?_, fun x hx y hy => ?_⟩
      · have e1 : (keyAt ks 0 :: rest ++ seeK r w k ks).Perm (rest ++ keyAt ks 0 :: seeK r w k ks) := by
          rw [List.cons_append]
          exact List.perm_middle.symm
        have e2 : (rest ++ k :: ks).Perm (k :: (rest ++ ks)) := List.perm_middle
        have e3 : (k :: (rest ++ ks)).Perm (rest ++ ks ++ [k]) := List.perm_append_comm (l₁ := [k])
        exact e1.trans ((hsp.append_left rest).trans (e2.trans (e3.trans (hp.append_right _))))
      · have hy2 : y = k ∨ y ∈ ks := List.mem_cons.mp (hsp.mem_iff.mp (List.mem_cons_of_mem _ hy))
        have hx2 : x ≤ keyAt ks 0 := by
          rcases List.mem_cons.mp hx with e | e
          · rw [e]
            exact Int.le_refl _
          · exact ho x e _ h0
        rcases hy2 with e | e
        · rw [e]
          omega
        · exact Int.le_trans hx2 (root_le g.hp e)
    · rw [see_not h1 h2]
      refine ⟨k :: rest, ?_, fun x hx y hy => ?_⟩
      · rw [List.cons_append]
        exact (List.perm_append_comm (l₁ := [k])).trans (hp.append_right _)
      · rcases List.mem_cons.mp hx with e | e
        · rw [e]
          exact Int.le_trans (by omega) (root_le g.hp hy)
        · exact ho x e y hy
theorem kp_most {r w : Nat} {keys : List Int} (hw : 1 ≤ w ∧ w ≤ 4) (hr : 1 ≤ r ∧ r ≤ 12) (hb : ∀ z ∈ keys, -1000000000 ≤ z ∧ z ≤ 1000000000) : ∀ i, i ≤ keys.length → Most r (keys.take i) (kpL r w keys i).1
  | 0, _ => ⟨by rw [List.take_zero]; show 0 = min r 0; omega, [], by rw [List.take_zero]; exact List.Perm.refl _, fun x hx => absurd hx (List.not_mem_nil)⟩
  | i + 1, hi => by
    rw [← List.take_append_getElem (show i < keys.length by omega), el_key]
    exact most_step hw hr (kp_good hw hr hb i (by omega)) (kp_most hw hr hb i (by omega))
theorem most_eq {r : Nat} {seen ks s u : List Int} (h : Most r seen ks) (h1 : s.Perm seen) (h2 : s.Pairwise (· ≤ ·)) (h3 : u.Perm ks) (h4 : u.Pairwise (· ≤ ·)) : (s.reverse.take r).reverse = u := by
  obtain ⟨hl, rest, hp, ho⟩ := h
  have hpl := hp.length_eq
  rw [List.length_append] at hpl
  have hv1 : (rest.mergeSort (fun a b => decide (a ≤ b))).Perm rest := List.mergeSort_perm _ _
  have hv2 : (rest.mergeSort (fun a b => decide (a ≤ b))).Pairwise (· ≤ ·) := by
    have := List.pairwise_mergeSort (le := fun (a b : Int) => decide (a ≤ b)) (fun a b c x y => by simp at x y ⊢; omega) (fun a b => by simp; omega) rest
    exact this.imp (fun z => of_decide_eq_true z)
  generalize rest.mergeSort (fun a b => decide (a ≤ b)) = v at hv1 hv2
  have hs : s = v ++ u := by
    refine sorted_one (h1.trans (hp.symm.trans ((hv1.symm.append_right _).trans (h3.symm.append_left _)))) h2 ?_
    rw [List.pairwise_append]
    exact ⟨hv2, h4, fun x hx y hy => ho x (hv1.mem_iff.mp hx) y (h3.mem_iff.mp hy)⟩
  have hul := h3.length_eq
  have hvl := hv1.length_eq
  rw [hs, List.reverse_append]
  by_cases hr : u.length = r
  · rw [List.take_left' (by rw [List.length_reverse]; exact hr), List.reverse_reverse]
  · have hv0 : v = [] := List.length_eq_zero_iff.mp (by omega)
    subst hv0
    rw [List.reverse_nil, List.append_nil, List.take_of_length_le (by rw [List.length_reverse]; omega), List.reverse_reverse]
/-- how many come in, and which keys stay, does not hang on the arms -/
theorem kp_arms {r w v : Nat} {keys : List Int} (hw : 1 ≤ w ∧ w ≤ 4) (hv : 1 ≤ v ∧ v ≤ 4) (hr : 1 ≤ r ∧ r ≤ 12) (hb : ∀ z ∈ keys, -1000000000 ≤ z ∧ z ≤ 1000000000) : ∀ i, i ≤ keys.length → (kpL r w keys i).2 = (kpL r v keys i).2 ∧ (kpL r w keys i).1.Perm (kpL r v keys i).1
  | 0, _ => ⟨rfl, List.Perm.refl _⟩
  | i + 1, hi => by
    obtain ⟨e, p⟩ := kp_arms hw hv hr hb i (by omega)
    have g1 := kp_good hw hr hb i (by omega)
    have g2 := kp_good hv hr hb i (by omega)
    have hl := p.length_eq
    have e1 : (kpL r w keys (i + 1)).1 = seeK r w (keyAt keys i) (kpL r w keys i).1 := rfl
    have e2 : (kpL r v keys (i + 1)).1 = seeK r v (keyAt keys i) (kpL r v keys i).1 := rfl
    have e3 : (kpL r w keys (i + 1)).2 = (kpL r w keys i).2 + if comesK r (keyAt keys i) (kpL r w keys i).1 = true then 1 else 0 := rfl
    have e4 : (kpL r v keys (i + 1)).2 = (kpL r v keys i).2 + if comesK r (keyAt keys i) (kpL r v keys i).1 = true then 1 else 0 := rfl
    rw [e1, e2, e3, e4, e]
    clear e1 e2 e3 e4
    generalize (kpL r w keys i).1 = xs at *
    generalize (kpL r v keys i).1 = ys at *
    generalize keyAt keys i = k
    by_cases h1 : xs.length < r
    · have h1' : ys.length < r := by omega
      refine ⟨?_, (see_push hr.2 g1 h1).trans ((p.append_right _).trans (see_push hr.2 g2 h1').symm)⟩
      unfold comesK
      rw [decide_eq_true (.inl h1), decide_eq_true (.inl h1')]
    · have h1' : ¬ ys.length < r := by omega
      have m1 : keyAt xs 0 ∈ xs := keyAt_mem (by omega)
      have m2 : keyAt ys 0 ∈ ys := keyAt_mem (by omega)
      have em : keyAt xs 0 = keyAt ys 0 := Int.le_antisymm (root_le g1.hp (p.mem_iff.mpr m2)) (root_le g2.hp (p.mem_iff.mp m1))
      refine ⟨?_, ?_⟩
      · unfold comesK
        rw [show xs.getD 0 0 = ys.getD 0 0 from em, hl]
      · by_cases h2 : keyAt xs 0 < k
        · have a := see_put hw.1 hr g1 h1 h2
          have b := see_put hv.1 hr g2 h1' (by rw [← em]; exact h2)
          rw [← em] at b
          exact List.Perm.cons_inv (a.trans ((p.cons k).trans b.symm))
        · rw [see_not h1 h2, see_not h1' (by rw [← em]; exact h2)]
          exact p

end
end Tw

set_option Elab.async false
set_option linter.all false
set_option maxRecDepth 100000
set_option maxHeartbeats 2000000
namespace Tw
open PySem PySem.Spec PyProof.Rows L2
section
variable {P : Program} {w : World} {K : PySem.W.Frag} {mg : Str → Option Value} {base : Heap} {A : Ad}
open LamX (ExtN Tabs TabS)
theorem icut (p : List Int) (i : Nat) : cutV (p.map V.int) none (some (i : Int)) = (p.take i).map V.int := by
  unfold cutV
  rw [HT.sIx_none, HT.sIx_nat, List.drop_zero, Nat.sub_zero, List.length_map, List.map_take]
  by_cases h : i ≤ p.length
  · rw [Nat.min_eq_left h]
  · rw [List.take_of_length_le (show (p.map V.int).length ≤ min i p.length by rw [List.length_map]; omega), List.take_of_length_le (show (p.map V.int).length ≤ i by rw [List.length_map]; omega)]
theorem ints_all : ∀ ks ms : List Int, PyData.eqvAll (ks.map PyData.int) (ms.map PyData.int) = decide (ks = ms)
  | [], [] => by simp [PyData.eqvAll]
  | [], m :: ms => by simp [PyData.eqvAll]
  | k :: ks, [] => by simp [PyData.eqvAll]
  | k :: ks, m :: ms => by
    simp only [List.map_cons, PyData.eqvAll, ints_all ks ms, PyData.eqv]
    by_cases h1 : k = m
    · by_cases h2 : ks = ms <;> simp [h1, h2]
    · simp [h1]
theorem ints_deep : ∀ ks : List Int, PyData.depthAll (ks.map PyData.int) ≤ 1
  | [] => by simp [PyData.depthAll]
  | k :: ks => by
    have := ints_deep ks
    simp only [List.map_cons, PyData.depthAll, PyData.depth]
    omega
theorem ints_eqv (ks ms : List Int) : PyData.eqv (.tuple (ks.map PyData.int)) (.tuple (ms.map PyData.int)) = decide (ks = ms) := by
  rw [← ints_all]
  simp [PyData.eqv]
theorem ints_eqvL (a b : List Int) : PyData.eqv (.list (a.map PyData.int)) (.list (b.map PyData.int)) = decide (a = b) := by
  rw [← ints_all]
  simp [PyData.eqv]
theorem ints_shT (ks : List Int) : SeqAt.shaped (.tuple (ks.map PyData.int)) = true := by
  have h := shaped_ints ks
  unfold SeqAt.shaped at h ⊢
  simp only [PyData.canLay0, PyData.depth] at h ⊢
  exact h
theorem ints_tup (K : PySem.W.Frag) {H : Hp} {a : Addr} {ks : List Int} (h : H a = some (.tup (ks.map V.int))) : Dp K H (.ref a) (.tuple (ks.map PyData.int)) := .tup (SqT.of h) (ints_dp K H ks)
/-- what stood, but for what stands at d -/
def But (d : Addr) (H H' : Hp) : Prop := ∀ b o, b ≠ d → H b = some o → H' b = some o
theorem But.put {d : Addr} {o : HO} {H : Hp} : But d H (upd H d o) := fun b u n e => by rw [upd_ne n]; exact e
theorem tabs_but {T : List (Addr × Str)} {H H' : Hp} {d : Addr} {xs : List V} (t : Tabs T H) (h : H d = some (.lst xs)) (b : But d H H') : Tabs T H' := fun p hp => by
  obtain ⟨ps, h1, h2, h3⟩ := t p hp
  refine ⟨ps, b _ _ (ne_of h1 h (by intro z; cases z)) h1, h2, fun pos cv hc => ?_⟩
  obtain ⟨c, e1, e2⟩ := h3 pos cv hc
  exact ⟨c, e1, b _ _ (ne_of e2 h (by intro z; unfold LamX.CodeO at z; cases z)) e2⟩
theorem tabs_put {T : List (Addr × Str)} {H : Hp} {d : Addr} {xs zs : List V} (t : Tabs T H) (h : H d = some (.lst xs)) : Tabs T (upd H d (.lst zs)) := tabs_but t h But.put
theorem But.free {d D : Addr} {H H' : Hp} {o : HO} (b : But d H H') (l : H' d = some o) (n : H' D = none) : H D = none := by
  cases e : H D with
  | none => rfl
  | some u =>
    by_cases h : D = d
    · rw [h, l] at n
      cases n
    · rw [b _ _ h e] at n
      cases n
theorem But.of {d : Addr} {H H' : Hp} (s : Same H H') : But d H H' := fun b o _ e => s b o e
theorem But.trans {d : Addr} {H H1 H2 : Hp} (a : But d H H1) (b : But d H1 H2) : But d H H2 := fun c o n e => b c o n (a c o n e)
end
end Tw

set_option Elab.async false
set_option linter.all false
set_option maxRecDepth 100000
set_option maxHeartbeats 2000000
namespace Tw
open PySem PySem.Spec PyProof.Rows L2
section
variable {P : Program} {w : World} {K : PySem.W.Frag} {mg : Str → Option Value} {base : Heap} {A : Ad}
open LamX (ExtN Tabs TabS)
/-! _law_right -/
def But2 (p S : Addr) (H H' : Hp) : Prop := ∀ b o, H b = some o → (∀ ps, o ≠ .tbl ps) → b ≠ p → b ≠ S → H' b = some o
structure RI (A : Ad) (H0 H : Hp) (p S r w : Nat) (given : List Int) (i : Nat) (h t : Addr) : Prop where
  fr : But2 p S H0 H
  tb : Tabs (TT A) H
  kp : KAt A.CK H p r w (kpL r w given i).2 t (kpL r w given i).1
  hp : H h = some (.lst ((kpL r w given i).1.map V.int))
  sn : H S = some (.lst ((given.take i).map V.int))
  ne : h ≠ S
theorem But2.ext {p S : Addr} {H H1 H2 : Hp} (a : But2 p S H H1) (e : LamX.ExtN H1 H2) : But2 p S H H2 := fun b o h n k1 k2 => e _ _ (a b o h n k1 k2) n
theorem RI.same {A : Ad} {H0 H H' : Hp} {p S r w : Nat} {given : List Int} {i : Nat} {h t : Addr} (R : RI A H0 H p S r w given i h t) (s : Same H H') : RI A H0 H' p S r w given i h t :=
  ⟨R.fr.ext (extN_of s), R.tb.ext s, R.kp.same s, s _ _ R.hp, s _ _ R.sn, R.ne⟩
theorem KAt.put {C : Addr} {H : Hp} {p r w n t a : Nat} {ks : List Int} {xs : List V} (h : KAt C H p r w n t ks) (ha : H a = some (.lst xs)) (zs : List V) : KAt C (upd H a (.lst zs)) p r w n t ks := by
  obtain ⟨⟨dx, m, h1⟩, h2⟩ := h
  exact ⟨⟨dx, m, by rw [upd_ne (ne_of h1 ha (by intro z; cases z))]; exact h1⟩, by rw [upd_ne (ne_of h2 ha (by intro z; cases z))]; exact h2⟩
def goneD (r : Nat) (k : Int) (ks : List Int) : PyData := if ks.length < r then .none else if ks.getD 0 0 < k then .int (ks.getD 0 0) else .none
theorem due_dp {K : PySem.W.Frag} {H : Hp} {d r : Nat} {k : Int} {ks : List Int} (h : H d = some (.tup [.bl (comesK r k ks), goneK r k ks])) : Dp K H (.ref d) (.tuple [.bool (comesK r k ks), goneD r k ks]) := by
  refine .tup (SqT.of h) (.cons (.bl _) (.cons ?_ .nil))
  unfold goneK goneD
  by_cases h1 : ks.length < r
  · rw [if_pos h1, if_pos h1]
    exact .non
  · rw [if_neg h1, if_neg h1]
    by_cases h2 : ks.getD 0 0 < k
    · rw [if_pos h2, if_pos h2]
      exact .int _
    · rw [if_neg h2, if_neg h2]
      exact .non
theorem due_sh (r : Nat) (k : Int) (ks : List Int) (c : Bool) : SeqAt.shaped (.tuple [.bool c, goneD r k ks]) = true := by
  unfold goneD
  by_cases h1 : ks.length < r
  · rw [if_pos h1]
    rfl
  · rw [if_neg h1]
    by_cases h2 : ks.getD 0 0 < k
    · rw [if_pos h2]
      rfl
    · rw [if_neg h2]
      rfl
theorem due_eqv (r : Nat) (k : Int) (ks : List Int) (c : Bool) : PyData.eqv (.tuple [.bool c, goneD r k ks]) (.tuple [.bool c, goneD r k ks]) = true := by
  unfold goneD
  by_cases h1 : ks.length < r
  · rw [if_pos h1]
    simp [PyData.eqv, PyData.eqvAll]
  · rw [if_neg h1]
    by_cases h2 : ks.getD 0 0 < k
    · rw [if_pos h2]
      simp [PyData.eqv, PyData.eqvAll]
    · rw [if_neg h2]
      simp [PyData.eqv, PyData.eqvAll]
theorem lay_ints : ∀ ks : List Int, PyData.canLayAll0 (ks.map PyData.int) = true
  | [] => rfl
  | k :: ks => by
    rw [List.map_cons, PyData.canLayAll0, lay_ints ks]
    rfl
theorem stay_sh (a c : List Int) (n : Int) : SeqAt.shaped (.list [.tuple (a.map PyData.int), .int n, .list (c.map PyData.int)]) = true := by
  have h1 := ints_deep a
  have h2 := ints_deep c
  unfold SeqAt.shaped
  simp only [PyData.canLay0, PyData.canLayAll0, lay_ints, PyData.depth, PyData.depthAll, Bool.and_true, Bool.true_and, Bool.and_self]
  exact decide_eq_true (by omega)
theorem stay_eqv (a c : List Int) (n : Int) : PyData.eqv (.list [.tuple (a.map PyData.int), .int n, .list (c.map PyData.int)]) (.list [.tuple (a.map PyData.int), .int n, .list (c.map PyData.int)]) = true := by
  simp only [PyData.eqv, PyData.eqvAll, ints_all]
  simp
def spLrg (A : Ad) : Sp := fun vs H Q _ => ∃ (r w g p2 r2 w2 n2 t2 : Nat) (given ks2 : List Int), vs = [.int r, .int w, .ref g, .ref p2] ∧ (1 ≤ r ∧ r ≤ 12) ∧ (1 ≤ w ∧ w ≤ 4) ∧ H g = some (.lst (given.map V.int)) ∧ given.length ≤ 12 ∧ (∀ z ∈ given, -1000000000 ≤ z ∧ z ≤ 1000000000) ∧
  KAt A.CK H p2 r2 w2 n2 t2 ks2 ∧ Tabs (TT A) H ∧ ∀ H', ExtN H H' → Tabs (TT A) H' → Q (.bl true) H'
theorem ok_lrg (T : Tx K mg A) (TB : LamX.TabB base mg A.c_least_child A.P_least_child) : FnOk P w K mg base CX0 12 A.f__law_right A.d__law_right ["room", "wide", "given", "other"] (spLrg A) := by
  obtain ⟨miK, kiK⟩ := kb_iK T
  refine T.F__law_right.ok sc__law_right (fun vs H Q E h => ?_) (fun cdv B outer s H vs Q E hr h => ?_)
  · obtain ⟨r, w, g, p2, r2, w2, n2, t2, given, ks2, rfl, _⟩ := h
    rfl
  · obtain ⟨r, w, g, p2, r2, w2, n2, t2, given, ks2, rfl, hr1, hw, eg, hg12, hgb, hO, hT, q⟩ := h
    have nd := sc__law_right.nd
    have hu := hr.units
    refine ⟨_, PSs.nox (C8.pss_cut (ps_asg (pe_tup (pa_cons (pe_makeK T.mkCK (ok_iK T) (hr.mono (by decide)) (by rfl) T.mCK kiK pass0 (pa_cons (pv 0) pa_nil) (pk_cons (pv 1) pk_nil)) (pa_cons (pe_lst pa_nil) (pa_cons pe_int (pa_cons (pe_lst pa_nil) pa_nil))))) (pg_tup rfl (pgs_cons (pg_name (i := 4) nd rfl (Or.inl rfl)) (pgs_cons (pg_name (i := 5) nd rfl (Or.inl rfl)) (pgs_cons (pg_name (i := 6) nd rfl (Or.inl rfl)) (pgs_cons (pg_name (i := 7) nd rfl (Or.inl rfl)) pgs_nil))))))
      (C8.pss_cut (ps_set (i := 8) nd rfl (Or.inl rfl) (pe_lst (pa_cons (pe_prop (pv 3) T.cTK T.P_e_heap (ok_eheap T) (hr.mono (by decide)) (b_eheap T) .nil pass0 rfl) (pa_cons (pe_prop (pv 3) T.cTK T.P_e_entered (ok_eent T) (hr.mono (by decide)) (b_eent T) .nil pass0 rfl) (pa_cons (pe_meth0 (pv 3) T.cTK T.M_e_ascending (ok_asc T) (hr.mono (by decide)) (b_asc T) .nil pass0) pa_nil)))))
      (C8.pss_cut (ps_for PassesOwn.never rfl (pi_list (pv 2)) (pg_name (i := 9) nd rfl (Or.inl rfl)) (C8.pss_cut (ps_set (i := 10) nd rfl (Or.inl rfl) (pe_tup (pa_cons pe_bl (pa_cons pe_non pa_nil))))
      (C8.pss_cut (ps_if (pt_cmpR op_lt (pe_callB call_len_seq (by rfl) T.g_len PySem.boot_len (pa_cons (pv 5) pa_nil)) (pv 0) (nomark _)) (pss_one (ps_set (i := 5) nd rfl (Or.inl rfl) (pe_call (ok_lpsh T) (hr.mono (by decide)) (by rfl) T.m__law_pushed T.F__law_pushed.kp (b_lpsh T) .nil pass0 (pa_cons (pv 5) (pa_cons (pv 9) (pa_cons (pv 1) pa_nil)))))) (pss_one (ps_if (pt_cmpR op_gt (pv 9) (pe_ix (r := rIxL K) ix_list (pv 5) pe_int (fun _ _ => rfl)) (nomark _)) (C8.pss_cut (ps_set (i := 10) nd rfl (Or.inl rfl) (pe_tup (pa_cons pe_bl (pa_cons (pe_ix (r := rIxL K) ix_list (pv 5) pe_int (fun _ _ => rfl)) pa_nil))))
      (pss_one (ps_set (i := 5) nd rfl (Or.inl rfl) (pe_call (ok_lput T) (hr.mono (by decide)) (by rfl) T.m__law_put T.F__law_put.kp (b_lput T) .nil pass0 (pa_cons (pv 5) (pa_cons (pv 9) (pa_cons (pv 1) pa_nil))))))) (pss_one (ps_set (i := 10) nd rfl (Or.inl rfl) (pe_tup (pa_cons pe_bl (pa_cons pe_non pa_nil))))))))
      (C8.pss_cut (ps_set (i := 6) nd rfl (Or.inl rfl) (pe_op op_add (pv 6) (pe_callTy call_int1 (by rfl) T.g_int (by decide +kernel) (pa_cons (pe_ix (r := rIxT K) ix_tup (pv 10) pe_int (fun _ _ => rfl)) pa_nil))))
      (C8.pss_cut (ps_expr (pe_bm PySem.F.plainAttrs_list PySem.F.slot_list_append PySem.F.type_list_append mt_append (pv 7) (pa_cons (pv 9) pa_nil)))
      (C8.pss_cut (ps_if (PW.pt (pw_or (pt_cmpR (op_neD hu) (pe_meth (pv 4) T.cTK T.M_e_see (ok_see T TB) (hr.mono (by decide)) (b_see T) .nil pass0 (pa_cons (pv 9) pa_nil)) (pv 10) (nomark _)) (pw_or (pt_cmpR (op_neD hu) (pe_prop (pv 4) T.cTK T.P_e_heap (ok_eheap T) (hr.mono (by decide)) (b_eheap T) .nil pass0 rfl) (pe_callTy call_tuple_of (by rfl) T.g_tuple (by decide +kernel) (pa_cons (pv 5) pa_nil)) (nomark _)) (pw_or1 (pt_cmpR op_ne (pe_prop (pv 4) T.cTK T.P_e_entered (ok_eent T) (hr.mono (by decide)) (b_eent T) .nil pass0 rfl) (pv 6) (nomark _)))))) (pss_one (ps_ret pe_bl)) pss_nil)
      (C8.pss_cut (ps_set (i := 11) nd rfl (Or.inl rfl) (pe_slice (r := rSlL K) sl_list (pe_revL (pe_callB cr_sortedI (by rfl) T.g_sorted (by decide +kernel) (pa_cons (pv 7) pa_nil))) po_none (po_some (pv 0))))
      (C8.pss_cut (ps_set (i := 12) nd rfl (Or.inl rfl) (pe_meth0 (pv 4) T.cTK T.M_e_ascending (ok_asc T) (hr.mono (by decide)) (b_asc T) .nil pass0))
      (C8.pss_cut (ps_if (PW.pt (pw_or (pt_cmpR (op_neD hu) (pv 12) (pe_revL (pv 11)) (nomark _)) (pw_or (pt_not (pt_val (pe_callB call_isi (by rfl) T.g_isinstance (by decide +kernel) (pa_cons (pv 12) (pa_cons (pe_bltn (v := .ty "list") (by rfl) T.g_list (by decide +kernel) rfl) pa_nil))))) (pw_or1 (pt_cmpR op_ne (pe_callB (call_len_own T.D_e___len__ (ok_elen T) (hr.mono (by decide)) (b_elen T) pass0) (by rfl) T.g_len PySem.boot_len (pa_cons (pv 4) pa_nil)) (pe_callB call_len_seq (by rfl) T.g_len PySem.boot_len (pa_cons (pv 5) pa_nil)) (nomark _)))))) (pss_one (ps_ret pe_bl)) pss_nil)
      (C8.pss_cut (ps_expr (pe_bm PySem.F.plainAttrs_list PySem.F.slot_list_append PySem.F.type_list_append mt_append (pv 12) (pa_cons pe_int pa_nil)))
      (pss_one (ps_if (PW.pt (pw_or (pt_cmpR (op_neD hu) (pe_meth0 (pv 4) T.cTK T.M_e_ascending (ok_asc T) (hr.mono (by decide)) (b_asc T) .nil pass0) (pe_revL (pv 11)) (nomark _)) (pw_or1 (pt_not (pt_val (pe_call (ok_ltr T) (hr.mono (by decide)) (by rfl) T.m__law_things_right T.F__law_things_right.kp (b_ltr T) .nil pass0 (pa_cons (pv 4) (pa_cons (pv 5) pa_nil)))))))) (pss_one (ps_ret pe_bl)) pss_nil))))))))))))
      (C8.pss_cut (ps_if (PW.pt (pw_or (pt_cmpR op_ne (pe_call (ok_chg T TB) (hr.mono (by decide)) (by rfl) T.m_changes T.F_changes.kp (b_chg T) .nil pass0 (pa_cons (pv 0) (pa_cons (pv 2) pa_nil))) (pv 6) (nomark _)) (pw_or1 (pt_cmpR op_ne (pe_call (ok_chg T TB) (hr.mono (by decide)) (by rfl) T.m_changes T.F_changes.kp (b_chg T) .nil pass0 (pa_cons (pv 0) (pa_cons (pe_callTy call_tuple_of (by rfl) T.g_tuple (by decide +kernel) (pa_cons (pv 2) pa_nil)) pa_nil))) (pv 6) (nomark _))))) (pss_one (ps_ret pe_bl)) pss_nil)
      (pss_one (ps_ret (pe_and (pe_cmpR op_eq (pe_fld (pv 4) rfl) (pv 0) (nomark _)) (pe_and (pe_cmpR op_eq (pe_fld (pv 4) rfl) (pv 1) (nomark _)) (pe_one (pe_cmpR (op_eqD hu) (pv 8) (pe_lst (pa_cons (pe_prop (pv 3) T.cTK T.P_e_heap (ok_eheap T) (hr.mono (by decide)) (b_eheap T) .nil pass0 rfl) (pa_cons (pe_prop (pv 3) T.cTK T.P_e_entered (ok_eent T) (hr.mono (by decide)) (b_eent T) .nil pass0 rfl) (pa_cons (pe_meth0 (pv 3) T.cTK T.M_e_ascending (ok_asc T) (hr.mono (by decide)) (b_asc T) .nil pass0) pa_nil)))) (nomark _))))))))))), ?_⟩
    refine ⟨fun σ' H' => ∃ (p h S t : Addr), σ' = [some (.int r), some (.int w), some (.ref g), some (.ref p2), some (.ref p), some (.ref h), some (.int 0), some (.ref S), none, none, none, none, none] ∧ Same H H' ∧ H p = none ∧ H S = none ∧ H' h = some (.lst []) ∧ H' S = some (.lst []) ∧ h ≠ S ∧ KAt A.CK H' p r w 0 t [], ?_, ?_⟩
    · refine ⟨_, rfl, _, rfl, rfl, rfl, fun x dx nx ndx nex => ⟨x, dx, r, w, rfl, hr1, hw, upd_same, fun Hk t1 k1 hKk => ⟨rfl, ?_⟩⟩⟩
      have sk := new_same nx ndx k1
      refine ⟨Nat.zero_le _, fun l nl => ⟨Nat.zero_le _, fun l2 nl2 => ⟨by show 4 ≤ sizeLine; decide, fun tt ntt => ?_⟩⟩⟩
      have sa := Same.up (o := .lst []) nl
      have sb := Same.up (o := .lst []) nl2
      have sc := Same.up (o := .tup [V.ref x, V.ref l, V.int 0, V.ref l2]) ntt
      refine ⟨tt, _, rfl, SqT.of upd_same, rfl, _, _, rfl, _, _, rfl, _, _, rfl, _, _, rfl, rfl, ?_⟩
      have ea := upd_same (H := Hk) (a := l) (o := .lst [])
      exact ⟨x, l, l2, t1, rfl, sk.trans (sa.trans (sb.trans sc)), nx, sk.free (sa.free nl2), sc _ _ (sb _ _ ea), sc _ _ upd_same, ne_of_none ea nl2, hKk.same (sa.trans (sb.trans sc))⟩
    rintro σ' H1 ⟨p, h, S, t, rfl, s1, np, nS, eh, eS, hS, hK1⟩
    have hO1 := hO.same s1
    obtain ⟨⟨dO, mO, gO⟩, gO2⟩ := id hO1
    have hpO : p2 ≠ p := fun z => by
      obtain ⟨d, f, g0⟩ := hO.ins
      rw [z, np] at g0
      cases g0
    have noA : (fdK r2 w2 t2 n2 mO).lookup ("ascending" : Str) = none := fdK_no _ _ _ _ _ (by decide +kernel) (by decide +kernel) (by decide +kernel) (by decide +kernel) (by decide +kernel)
    refine ⟨fun σ' H' => ∃ (st o2 : Addr) (u : List Int), σ' = [some (.int r), some (.int w), some (.ref g), some (.ref p2), some (.ref p), some (.ref h), some (.int 0), some (.ref S), some (.ref st), none, none, none, none] ∧ Same H1 H' ∧ H1 st = none ∧ H1 o2 = none ∧ H' st = some (.lst [.ref t2, .int n2, .ref o2]) ∧ H' o2 = some (.lst (u.map V.int)) ∧ u.Perm ks2 ∧ u.Pairwise (· ≤ ·), ?_, ?_⟩
    · refine ⟨_, rfl, p2, dO, _, rfl, gO, p2, r2, w2, n2, t2, ks2, rfl, hO1, ?_⟩
      refine ⟨_, rfl, p2, dO, _, rfl, gO, p2, r2, w2, n2, t2, ks2, rfl, hO1, ?_⟩
      refine ⟨_, rfl, p2, dO, _, rfl, gO, noA, p2, r2, w2, n2, t2, ks2, rfl, hO1, fun u o hpm hso no => ?_⟩
      refine ⟨by show 3 ≤ sizeLine; decide, fun st nst => ?_⟩
      have sa := Same.up (o := .lst (u.map V.int)) no
      have sb := Same.up (o := .lst [.ref t2, .int n2, .ref o]) nst
      exact ⟨st, o, u, rfl, sa.trans sb, sa.free nst, no, upd_same, sb _ _ upd_same, hpm, hso⟩
    rintro σ' H2 ⟨st, o2, u, rfl, s2, nst, no2, est, eo2, hu1, hu2⟩
    have s12 := s1.trans s2
    have eg2 := s12 _ _ eg
    have R0 : RI A H2 H2 p S r w given 0 h t := ⟨fun b o e _ _ _ => e, hT.ext s12, hK1.same s2, s2 _ _ eh, s2 _ _ eS, hS⟩
    have hgS : g ≠ S := fun z => by rw [← z, eg] at nS; cases nS
    have hgp : ∀ {d : Addr} {xs : List V}, H2 d = some (.lst xs) → d ≠ p := fun e => by
      obtain ⟨dz, fz, gz⟩ := R0.kp.ins
      exact ne_of e gz (by intro z; cases z)
    refine ⟨fun σ' H' => ∃ (h t : Addr) (x9 x10 x11 x12 : Option V), σ' = [some (.int r), some (.int w), some (.ref g), some (.ref p2), some (.ref p), some (.ref h), some (.int (kpL r w given given.length).2), some (.ref S), some (.ref st), x9, x10, x11, x12] ∧ RI A H2 H' p S r w given given.length h t, ?_, ?_⟩
    · refine ⟨_, rfl, g, rfl, ⟨_, SqL.of eg2⟩, ?_⟩
      refine for_it (walk_list (xs := given.map V.int)) (fun i σ' H' => ∃ (h t : Addr) (x9 x10 x11 x12 : Option V), σ' = [some (.int r), some (.int w), some (.ref g), some (.ref p2), some (.ref p), some (.ref h), some (.int (kpL r w given i).2), some (.ref S), some (.ref st), x9, x10, x11, x12] ∧ RI A H2 H' p S r w given i h t)
        ⟨h, t, none, none, none, none, rfl, R0⟩ ?_ ?_ ?_
      · rintro i σ' H' _ ⟨_, _, _, _, _, _, _, R⟩
        exact SqL.of (R.fr _ _ eg2 (fun _ z => nomatch z) (hgp eg2) hgS)
      rotate_left
      · rintro σ' H' ⟨h, t, x9, x10, x11, x12, rfl, R⟩
        rw [List.length_map] at R
        rw [List.length_map]
        exact ⟨h, t, x9, x10, x11, x12, rfl, R⟩
      clear R0 eh eS hS hK1
      rintro i y σ' H3 H3' hi ⟨h, t, x9, x10, x11, x12, rfl, R⟩ ⟨rfl, hy⟩
      obtain ⟨hi2, rfl⟩ := ints_at hy
      rw [el_key hi2]
      have hk := hgb _ (keyAt_mem hi2)
      have hG := kp_good hw hr1 hgb i (by omega)
      have hM := kp_most hw hr1 hgb (i + 1) hi2
      have e1 : (kpL r w given (i + 1)).1 = seeK r w (keyAt given i) (kpL r w given i).1 := rfl
      have e2 : (kpL r w given (i + 1)).2 = (kpL r w given i).2 + if comesK r (keyAt given i) (kpL r w given i).1 = true then 1 else 0 := rfl
      have etk : given.take (i + 1) = given.take i ++ [keyAt given i] := by rw [← List.take_append_getElem (show i < given.length by omega), el_key]
      obtain ⟨R1, R2, R3, R4, R5, R6⟩ := R
      have hRI : ∀ {G : Hp} {h t : Addr}, But2 p S H2 G → Tabs (TT A) G → KAt A.CK G p r w ((kpL r w given i).2 + if comesK r (keyAt given i) (kpL r w given i).1 = true then 1 else 0) t (seeK r w (keyAt given i) (kpL r w given i).1) → G h = some (.lst ((seeK r w (keyAt given i) (kpL r w given i).1).map V.int)) → G S = some (.lst ((given.take i ++ [keyAt given i]).map V.int)) → h ≠ S → RI A H2 G p S r w given (i + 1) h t :=
        fun a1 a2 a3 a4 a5 a6 => ⟨a1, a2, by rw [e1, e2]; exact a3, by rw [e1]; exact a4, by rw [etk]; exact a5, a6⟩
      rw [e2]
      clear e1 e2
      generalize (kpL r w given i).1 = ks at *
      generalize (kpL r w given i).2 = n at *
      generalize keyAt given i = k at *
      have hnx : ∀ {G : Hp}, (∃ (h t : Addr) (x9 x10 x11 x12 : Option V), ([some (.int r), some (.int w), some (.ref g), some (.ref p2), some (.ref p), some (.ref h), some (.int (n + if comesK r k ks = true then 1 else 0 : Nat)), some (.ref S), some (.ref st), x9, x10, x11, x12] : L2.St) = [some (.int r), some (.int w), some (.ref g), some (.ref p2), some (.ref p), some (.ref h), some (.int (n + if comesK r k ks = true then 1 else 0 : Nat)), some (.ref S), some (.ref st), x9, x10, x11, x12] ∧ RI A H2 G p S r w given (i + 1) h t) → True := fun _ => trivial
      clear hnx
      refine ⟨fun σ' H' => ∃ d : Addr, σ' = [some (.int r), some (.int w), some (.ref g), some (.ref p2), some (.ref p), some (.ref h), some (.int n), some (.ref S), some (.ref st), some (.int k), some (.ref d), x11, x12] ∧ Same H3' H' ∧ H' d = some (.tup [.bl true, .non]), ?_, ?_⟩
      · exact ⟨by show 2 ≤ sizeLine; decide, fun z nz => ⟨z, rfl, Same.up nz, upd_same⟩⟩
      rintro σ' H4 ⟨d0, rfl, s4, ed0⟩
      have R4' := s4 _ _ R4
      have R5' := s4 _ _ R5
      refine ⟨fun σ' H' => ∃ h' d : Addr, σ' = [some (.int r), some (.int w), some (.ref g), some (.ref p2), some (.ref p), some (.ref h'), some (.int n), some (.ref S), some (.ref st), some (.int k), some (.ref d), x11, x12] ∧ Same H4 H' ∧ H' h' = some (.lst ((seeK r w k ks).map V.int)) ∧ h' ≠ S ∧ H' d = some (.tup [.bl (comesK r k ks), goneK r k ks]), ?_, ?_⟩
      · refine ⟨_, rfl, h, _, rfl, .inl (SqL.of R4'), _, rfl, _, _, rfl, rfl, _, rfl, ?_⟩
        rw [List.length_map]
        by_cases hl : ks.length < r
        · rw [decide_eq_true (show ((ks.length : Nat) : Int) < (r : Int) by omega)]
          refine iteT ⟨_, rfl, _, rfl, _, rfl, h, w, k, ks, rfl, hw, R4', by omega, fun H5 q5 s5 n5 e5 => ⟨q5, d0, rfl, s5, ?_, fun z => ?_, ?_⟩⟩
          · unfold seeK
            rw [if_pos hl]
            exact e5
          · rw [z, R5'] at n5
            cases n5
          · unfold comesK goneK
            rw [if_pos hl, decide_eq_true (.inl hl)]
            exact s5 _ _ ed0
        · rw [decide_eq_false (show ¬ ((ks.length : Nat) : Int) < (r : Int) by omega)]
          have hpos : 0 < ks.length := by omega
          refine iteF ⟨_, rfl, _, rfl, h, _, _, _, rfl, rfl, SqL.of R4', key_at hpos, _, _, rfl, rfl, _, rfl, ?_⟩
          by_cases hc : ks.getD 0 0 < k
          · rw [decide_eq_true (show k > keyAt ks 0 from hc)]
            refine iteT ⟨fun σ' H' => ∃ d : Addr, σ' = [some (.int r), some (.int w), some (.ref g), some (.ref p2), some (.ref p), some (.ref h), some (.int n), some (.ref S), some (.ref st), some (.int k), some (.ref d), x11, x12] ∧ Same H4 H' ∧ H' d = some (.tup [.bl true, .int (keyAt ks 0)]), ?_, ?_⟩
            · exact ⟨_, rfl, h, _, _, _, rfl, rfl, SqL.of R4', key_at hpos, by show 2 ≤ sizeLine; decide, fun z nz => ⟨z, rfl, Same.up nz, upd_same⟩⟩
            rintro σ' H5 ⟨d1, rfl, s5, ed1⟩
            refine ⟨_, rfl, _, rfl, _, rfl, h, w, k, ks, rfl, hw, s5 _ _ R4', hpos, by have := hG.le; omega, fun H6 q6 s6 n6 e6 => ⟨q6, d1, rfl, s5.trans s6, ?_, fun z => ?_, ?_⟩⟩
            · unfold seeK
              rw [if_neg hl, if_pos hc]
              exact e6
            · rw [z, s5 _ _ R5'] at n6
              cases n6
            · unfold comesK goneK
              rw [if_neg hl, if_pos hc, decide_eq_true (.inr hc)]
              exact s6 _ _ ed1
          · rw [decide_eq_false (show ¬ k > keyAt ks 0 from hc)]
            refine iteF ⟨by show 2 ≤ sizeLine; decide, fun z nz => ⟨h, z, rfl, Same.up nz, ?_, R6, ?_⟩⟩
            · unfold seeK
              rw [if_neg hl, if_neg hc]
              exact (Same.up nz) _ _ R4'
            · unfold comesK goneK
              rw [if_neg hl, if_neg hc, decide_eq_false (by rintro (x | x); exact hl x; exact hc x)]
              exact upd_same
      rintro σ' H5 ⟨h', d, rfl, s5, eh', nh', ed⟩
      have s35 := s4.trans s5
      refine ⟨fun σ' H' => σ' = [some (.int r), some (.int w), some (.ref g), some (.ref p2), some (.ref p), some (.ref h'), some (.int (n + if comesK r k ks = true then 1 else 0 : Nat)), some (.ref S), some (.ref st), some (.int k), some (.ref d), x11, x12] ∧ H' = H5, ?_, ?_⟩
      · refine ⟨_, rfl, _, rfl, d, _, _, _, rfl, rfl, SqT.of ed, rfl, .inr ⟨_, rfl, _, _, rfl, rfl, ?_, rfl⟩⟩
        show [some (V.int r), some (V.int w), some (V.ref g), some (V.ref p2), some (V.ref p), some (V.ref h'), some (V.int ((n : Int) + if comesK r k ks = true then 1 else 0)), some (V.ref S), some (V.ref st), some (V.int k), some (V.ref d), x11, x12] = _
        rw [show ((n : Int) + if comesK r k ks = true then 1 else 0) = ((n + if comesK r k ks = true then 1 else 0 : Nat) : Int) by split <;> omega]
      rintro σ' H6 ⟨rfl, rfl⟩
      have R5' := s35 _ _ R5
      refine ⟨fun σ' H' => σ' = [some (.int r), some (.int w), some (.ref g), some (.ref p2), some (.ref p), some (.ref h'), some (.int (n + if comesK r k ks = true then 1 else 0 : Nat)), some (.ref S), some (.ref st), some (.int k), some (.ref d), x11, x12] ∧ H' = upd H6 S (.lst ((given.take i ++ [k]).map V.int)), ?_, ?_⟩
      · refine ⟨_, rfl, .inl ⟨rfl, _, SqL.of R5'⟩, _, rfl, S, _, _, rfl, rfl, R5', small1000 (by rw [List.length_map, List.length_take]; omega), rfl, ?_⟩
        rw [← map_one]
      rintro σ' H7 ⟨rfl, rfl⟩
      have K7 := (R3.same s35).put R5' ((given.take i ++ [k]).map V.int)
      have T7 : Tabs (TT A) (upd H6 S (.lst ((given.take i ++ [k]).map V.int))) := tabs_put (R2.ext s35) R5'
      have F7 : But2 p S H2 (upd H6 S (.lst ((given.take i ++ [k]).map V.int))) := fun b o e n1 n2 n3 => by rw [upd_ne n3]; exact s35 _ _ (R1 b o e n1 n2 n3)
      have eh7 : upd H6 S (.lst ((given.take i ++ [k]).map V.int)) h' = _ := (upd_ne nh').trans eh'
      have ed7 : upd H6 S (.lst ((given.take i ++ [k]).map V.int)) d = _ := (upd_ne (ne_of ed R5' (by intro z; cases z))).trans ed
      have eS7 : upd H6 S (.lst ((given.take i ++ [k]).map V.int)) S = _ := upd_same
      generalize upd H6 S (.lst ((given.take i ++ [k]).map V.int)) = H7 at K7 T7 F7 eh7 ed7 eS7
      clear R1 R2 R3 R4 R4' R5 R5' eh' ed s35 s4 s5 ed0
      generalize eQ : ([some (.int r), some (.int w), some (.ref g), some (.ref p2), some (.ref p), some (.ref h'), some (.int (n + if comesK r k ks = true then 1 else 0 : Nat)), some (.ref S), some (.ref st), some (.int k), some (.ref d), x11, x12] : L2.St) = S0
      refine ⟨fun σ' H' => σ' = S0 ∧ ∃ t' : Addr, RI A H2 H' p S r w given (i + 1) h' t', ?_, ?_⟩
      · subst eQ
        obtain ⟨⟨dx, m, g1⟩, g2⟩ := id K7
        refine ⟨_, rfl, p, dx, _, rfl, g1, fdK_no _ _ _ _ _ (by decide +kernel) (by decide +kernel) (by decide +kernel) (by decide +kernel) (by decide +kernel), _, rfl, p, r, w, n, t, k, ks, rfl, K7, hr1, hw, hG, hk, T7, fun H8 t8 q8 b8 tt8 k8 e8 => ?_⟩
        have ed8 := b8 _ _ ed7 (fun _ z => nomatch z) (ne_of ed7 g1 (by intro z; cases z))
        have eh8 := b8 _ _ eh7 (fun _ z => nomatch z) (ne_of eh7 g1 (by intro z; cases z))
        have eS8 := b8 _ _ eS7 (fun _ z => nomatch z) (ne_of eS7 g1 (by intro z; cases z))
        have RI8 := hRI (fun b o e n1 n2 n3 => b8 _ _ (F7 b o e n1 n2 n3) n1 n2) tt8 k8 eh8 eS8 nh'
        refine ⟨_, rfl, _, _, due_dp e8, due_dp ed8, due_sh _ _ _ _, due_sh _ _ _ _, _, rfl, ?_⟩
        rw [due_eqv]
        obtain ⟨⟨dz, mz, g3⟩, g4⟩ := id k8
        refine iteF ⟨_, rfl, p, dz, _, rfl, g3, p, r, w, _, t8, _, rfl, k8, ?_⟩
        refine ⟨_, rfl, h', _, rfl, .inl ⟨SqL.of eh8, fun u1 n1 => ?_⟩⟩
        have s9 := Same.up (o := .tup ((seeK r w k ks).map V.int)) n1
        refine ⟨_, _, ints_tup K (s9 _ _ g4), ints_tup K upd_same, ints_shT _, ints_shT _, _, rfl, ?_⟩
        rw [ints_eqv, decide_eq_true rfl]
        refine iteF ⟨_, rfl, p, dz, _, rfl, s9 _ _ g3, p, r, w, _, t8, _, rfl, k8.same s9, _, rfl, rfl, _, rfl, ?_⟩
        refine ite_b (c := false) (by simp) (iteF ⟨rfl, t8, RI8.same s9⟩)
      rintro σ' H8 ⟨eq, t8, R8⟩
      subst σ'
      subst eQ
      refine ⟨fun σ' H' => ∃ (L : Addr) (s : List Int), σ' = [some (.int r), some (.int w), some (.ref g), some (.ref p2), some (.ref p), some (.ref h'), some (.int (n + if comesK r k ks = true then 1 else 0 : Nat)), some (.ref S), some (.ref st), some (.int k), some (.ref d), some (.ref L), x12] ∧ Same H8 H' ∧ H' L = some (.lst ((s.reverse.take r).map V.int)) ∧ s.Perm (given.take (i + 1)) ∧ s.Pairwise (· ≤ ·), ?_, ?_⟩
      · refine ⟨_, rfl, S, _, rfl, SqL.of R8.sn, fun s o hpm hso no => ?_⟩
        have sa := Same.up (o := .lst (s.map V.int)) no
        refine ⟨o, _, rfl, SqL.of upd_same, fun l nl => ?_⟩
        rw [← List.map_reverse]
        have sb := Same.up (o := .lst (s.reverse.map V.int)) nl
        refine ⟨_, rfl, _, rfl, l, _, rfl, SqL.of upd_same, fun l2 nl2 => ?_⟩
        rw [icut]
        have sc := Same.up (o := .lst ((s.reverse.take r).map V.int)) nl2
        exact ⟨l2, s, rfl, sa.trans (sb.trans sc), upd_same, hpm, hso⟩
      rintro σ' H9 ⟨L, s, rfl, s9, eL9, hs1, hs2⟩
      have R9 := R8.same s9
      obtain ⟨⟨d9, m9, g9⟩, g9t⟩ := id R9.kp
      refine ⟨fun σ' H' => ∃ (o : Addr) (v : List Int), σ' = [some (.int r), some (.int w), some (.ref g), some (.ref p2), some (.ref p), some (.ref h'), some (.int (n + if comesK r k ks = true then 1 else 0 : Nat)), some (.ref S), some (.ref st), some (.int k), some (.ref d), some (.ref L), some (.ref o)] ∧ Acc H9 o (v.map V.int) H' ∧ v.Perm (kpL r w given (i + 1)).1 ∧ v.Pairwise (· ≤ ·), ?_, ?_⟩
      · refine ⟨_, rfl, p, d9, _, rfl, g9, fdK_no _ _ _ _ _ (by decide +kernel) (by decide +kernel) (by decide +kernel) (by decide +kernel) (by decide +kernel), p, r, w, _, t8, _, rfl, R9.kp, fun v o hpm hso no => ⟨o, v, rfl, ⟨Same.up no, no, upd_same⟩, hpm, hso⟩⟩
      rintro σ' H10 ⟨o, v, rfl, acO, hv1, hv2⟩
      have hmo : (s.reverse.take r).reverse = v := most_eq hM hs1 hs2 hv1 hv2
      have hl8 : (kpL r w given (i + 1)).1.length ≤ 12 := by have := (kp_good hw hr1 hgb (i + 1) hi2).le; omega
      have hb8 := (kp_good hw hr1 hgb (i + 1) hi2).bd
      generalize eQ : ([some (.int r), some (.int w), some (.ref g), some (.ref p2), some (.ref p), some (.ref h'), some (.int (n + if comesK r k ks = true then 1 else 0 : Nat)), some (.ref S), some (.ref st), some (.int k), some (.ref d), some (.ref L), some (.ref o)] : L2.St) = S0
      refine ⟨fun σ' H' => σ' = S0 ∧ Same H10 H', ?_, ?_⟩
      · subst eQ
        have R10 := R9.same acO.s
        have eL10 := acO.s _ _ eL9
        refine ⟨_, rfl, _, rfl, L, _, rfl, SqL.of eL10, fun l nl => ?_⟩
        rw [← List.map_reverse, hmo]
        have sa := Same.up (o := .lst (v.map V.int)) nl
        refine ⟨_, _, .lst (SqL.of (sa _ _ acO.a)) (ints_dp _ _ _), .lst (SqL.of upd_same) (ints_dp _ _ _), shaped_ints _, shaped_ints _, _, rfl, ?_⟩
        rw [ints_eqvL, decide_eq_true rfl]
        refine iteF ⟨_, rfl, _, _, .type "list", .type "list", true, rfl, .ty "list", .base (.lst (sa _ _ acO.a)), kit_ty (by decide +kernel), true, rfl, iteF ?_⟩
        have R11 := R10.same sa
        obtain ⟨⟨d11, m11, g11⟩, g11t⟩ := id R11.kp
        refine ⟨_, rfl, p, d11, _, rfl, g11, p, r, w, _, t8, _, rfl, R11.kp, _, rfl, by omega, _, rfl, h', _, rfl, .inl (SqL.of R11.hp), rfl, _, rfl, ?_⟩
        exact ite_b (c := false) (by simp) (iteF ⟨rfl, sa⟩)
      rintro σ' H11 ⟨eq, s11⟩
      subst σ'
      subst eQ
      have ac11 := acO.same s11
      refine ⟨fun σ' H' => σ' = [some (.int r), some (.int w), some (.ref g), some (.ref p2), some (.ref p), some (.ref h'), some (.int (n + if comesK r k ks = true then 1 else 0 : Nat)), some (.ref S), some (.ref st), some (.int k), some (.ref d), some (.ref L), some (.ref o)] ∧ Same H9 H', ?_, ?_⟩
      · refine ⟨_, rfl, .inl ⟨rfl, _, SqL.of ac11.a⟩, o, _, _, rfl, rfl, ac11.a, small1000 (by rw [List.length_map, hv1.length_eq]; omega), rfl, ?_⟩
        exact (ac11.push (zs := v.map V.int ++ [V.int 77])).s
      rintro σ' H12 ⟨rfl, s12'⟩
      have R12 := R9.same s12'
      have eL12 := s12' _ _ eL9
      obtain ⟨⟨d12, m12, g12⟩, g12t⟩ := id R12.kp
      refine ⟨_, rfl, p, d12, _, rfl, g12, fdK_no _ _ _ _ _ (by decide +kernel) (by decide +kernel) (by decide +kernel) (by decide +kernel) (by decide +kernel), p, r, w, _, t8, _, rfl, R12.kp, fun v2 o3 hpm3 hso3 no3 => ?_⟩
      have ev2 : v2 = v := sorted_one (hpm3.trans hv1.symm) hso3 hv2
      subst ev2
      have sa := Same.up (o := .lst (v2.map V.int)) no3
      have eo3 := upd_same (H := H12) (a := o3) (o := .lst (v2.map V.int))
      generalize upd H12 o3 (.lst (v2.map V.int)) = H13 at sa eo3
      refine ⟨_, rfl, L, _, rfl, SqL.of (sa _ _ eL12), fun l nl => ?_⟩
      rw [← List.map_reverse, hmo]
      have sb := Same.up (o := .lst (v2.map V.int)) nl
      refine ⟨_, _, .lst (SqL.of (sb _ _ eo3)) (ints_dp _ _ _), .lst (SqL.of upd_same) (ints_dp _ _ _), shaped_ints _, shaped_ints _, _, rfl, ?_⟩
      rw [ints_eqvL, decide_eq_true rfl]
      have R14 := R12.same (sa.trans sb)
      refine iteF ⟨_, rfl, _, rfl, p, h', r, w, _, t8, _, rfl, R14.kp, R14.hp, hl8, hb8, fun H15 s15 => ⟨_, rfl, iteF ?_⟩⟩
      exact ⟨h', t8, _, _, _, _, rfl, R14.same s15⟩
    rintro σ' H3 ⟨h3, t3, x9, x10, x11, x12, rfl, R⟩
    have eg3 := R.fr _ _ eg2 (fun _ z => nomatch z) (hgp eg2) hgS
    have hcnt : (kpL r w given given.length).2 = (kpL r 2 given given.length).2 := (kp_arms hw (by decide) hr1 hgb given.length (Nat.le_refl _)).1
    have ex3 : ∀ b o, H2 b = some o → (∀ ps, o ≠ .tbl ps) → b ≠ p → b ≠ S → H3 b = some o := R.fr
    have est3 := R.fr _ _ est (fun _ z => nomatch z) (hgp est) (fun z => by rw [z, eS] at nst; cases nst)
    have eo23 := R.fr _ _ eo2 (fun _ z => nomatch z) (hgp eo2) (fun z => by rw [z, eS] at no2; cases no2)
    have hSO : p2 ≠ S := fun z => by
      obtain ⟨d, f, g0⟩ := hO.ins
      rw [z, nS] at g0
      cases g0
    have hO2 := hO1.same s2
    have hO3 : KAt A.CK H3 p2 r2 w2 n2 t2 ks2 := by
      obtain ⟨⟨d, m, g0⟩, g1⟩ := id hO2
      refine ⟨⟨d, m, R.fr _ _ g0 (fun _ z => nomatch z) hpO hSO⟩, R.fr _ _ g1 (fun _ z => nomatch z) ?_ fun z => ?_⟩
      · rintro rfl
        rw [hO.hp] at np
        cases np
      · rw [← z, hO.hp] at nS
        cases nS
    have hE : ExtN H H3 := fun b o e n => R.fr _ _ (s12 _ _ e) n (ne_of_none e np) (ne_of_none e nS)
    have hRT := R.tb
    have hKp := R.kp
    generalize eQ : ([some (.int r), some (.int w), some (.ref g), some (.ref p2), some (.ref p), some (.ref h3), some (.int (kpL r w given given.length).2), some (.ref S), some (.ref st), x9, x10, x11, x12] : L2.St) = S0
    refine ⟨fun σ' H' => σ' = S0 ∧ ExtN H3 H' ∧ Tabs (TT A) H', ?_, ?_⟩
    · subst eQ
      rw [hcnt]
      refine ⟨_, rfl, _, rfl, r, g, given, rfl, hr1, ⟨.inl eg3, hg12, hgb⟩, hRT, fun H4 e4 t4 => ⟨_, rfl, rfl, _, rfl, ?_⟩⟩
      refine ite_b (c := false) (by simp) (iteF ?_)
      have eg4 := e4 _ _ eg3 (fun _ z => nomatch z)
      refine ⟨_, rfl, _, rfl, g, _, rfl, .inl ⟨SqL.of eg4, fun u1 n1 => ?_⟩⟩
      have s5 := Same.up (o := .tup (given.map V.int)) n1
      refine ⟨r, u1, given, rfl, hr1, ⟨.inr upd_same, hg12, hgb⟩, t4.ext s5, fun H6 e6 t6 => ⟨_, rfl, rfl, _, rfl, ?_⟩⟩
      exact ite_b (c := false) (by simp) (iteF ⟨rfl, e4.trans ((extN_of s5).trans e6), t6⟩)
    rintro σ' H4 ⟨eq, e4, t4⟩
    subst σ'
    subst eQ
    have hK4 := hKp.ext e4
    obtain ⟨⟨d4, m4, g4⟩, g4t⟩ := id hK4
    refine ⟨_, rfl, p, A.CK, d4, _, _, rfl, g4, T.cTK, T.kRoom, fdK_room _ _ _ _ _, _, rfl, rfl, _, rfl, ?_⟩
    refine ite_b (c := true) (by simp) (iteT ?_)
    refine ⟨_, rfl, p, A.CK, d4, _, _, rfl, g4, T.cTK, T.kArms, fdK_arms _ _ _ _ _, _, rfl, rfl, _, rfl, ?_⟩
    refine ite_b (c := true) (by simp) (iteT ?_)
    have hO4 := hO3.ext e4
    obtain ⟨⟨d5, m5, g5⟩, g5t⟩ := id hO4
    refine ⟨_, rfl, _, rfl, p2, d5, _, rfl, g5, p2, r2, w2, n2, t2, ks2, rfl, hO4, ?_⟩
    refine ⟨_, rfl, p2, d5, _, rfl, g5, p2, r2, w2, n2, t2, ks2, rfl, hO4, ?_⟩
    refine ⟨_, rfl, p2, d5, _, rfl, g5, fdK_no _ _ _ _ _ (by decide +kernel) (by decide +kernel) (by decide +kernel) (by decide +kernel) (by decide +kernel), p2, r2, w2, n2, t2, ks2, rfl, hO4, fun v o hpm hso no => ?_⟩
    have ev : v = u := sorted_one (hpm.trans hu1.symm) hso hu2
    subst ev
    refine ⟨by show 3 ≤ sizeLine; decide, fun q9 n9 => ?_⟩
    have sa := Same.up (o := .lst (v.map V.int)) no
    have sb := Same.up (o := .lst [.ref t2, .int n2, .ref o]) n9
    have sab := sa.trans sb
    have eo9 := sb _ _ (upd_same (H := H4) (a := o) (o := .lst (v.map V.int)))
    have e9 := upd_same (H := upd H4 o (.lst (v.map V.int))) (a := q9) (o := .lst [.ref t2, .int n2, .ref o])
    have est4 := sab _ _ (e4 _ _ est3 (fun _ z => nomatch z))
    have eo24 := sab _ _ (e4 _ _ eo23 (fun _ z => nomatch z))
    have et4 := sab _ _ g5t
    have hE9 := (hE.trans e4).trans (extN_of sab)
    have hT9 := t4.ext sab
    generalize upd (upd H4 o (.lst (v.map V.int))) q9 (.lst [.ref t2, .int n2, .ref o]) = G at eo9 e9 est4 eo24 et4 hE9 hT9
    refine ⟨.list [.tuple (ks2.map PyData.int), .int n2, .list (v.map PyData.int)], .list [.tuple (ks2.map PyData.int), .int n2, .list (v.map PyData.int)], .lst (SqL.of est4) (.cons (ints_tup K et4) (.cons (.int _) (.cons (.lst (SqL.of eo24) (ints_dp _ _ _)) .nil))), .lst (SqL.of e9) (.cons (ints_tup K et4) (.cons (.int _) (.cons (.lst (SqL.of eo9) (ints_dp _ _ _)) .nil))), stay_sh _ _ _, stay_sh _ _ _, ?_⟩
    rw [stay_eqv]
    exact q G hE9 hT9
theorem b_lrg (T : Tx K mg A) : L2.Binds K A.d__law_right ["room", "wide", "given", "other"] [] := T.F__law_right.binds fun _ _ _ _ _ _ us hl => match us, hl with | [_, _, _, _], _ => rfl

end
end Tw

set_option Elab.async false
set_option linter.all false
set_option maxRecDepth 100000
set_option maxHeartbeats 2000000
namespace Tw
open PySem PySem.Spec PyProof.Rows L2
section
variable {P : Program} {w : World} {K : PySem.W.Frag} {mg : Str → Option Value} {base : Heap} {A : Ad}
open LamX (ExtN Tabs TabS)
theorem But.seq {d a : Addr} {H H' : Hp} {xs : List V} (s : But d H H') (h : SqL K H a xs) (n : a ≠ d ∨ ∀ H', SqL K H' a xs) : SqL K H' a xs := by
  rcases n with n | n
  rotate_left
  · exact n _
  rcases h with (h | ⟨o, h⟩) | h
  · exact .inl (.inl (s _ _ n h))
  · exact .inl (.inr ⟨o, s _ _ n h⟩)
  · exact .inr h
end
end Tw

set_option Elab.async false
set_option linter.all false
set_option maxRecDepth 100000
set_option maxHeartbeats 2000000
namespace Tw
open PySem PySem.Spec PyProof.Rows L2
section
variable {P : Program} {w : World} {K : PySem.W.Frag} {mg : Str → Option Value} {base : Heap} {A : Ad}
open LamX (ExtN Tabs TabS)
/-! the law -/
def spLaw (K : PySem.W.Frag) (A : Ad) : Sp := fun vs H Q _ => ∃ (a : Addr) (ns : List Int), vs = [.ref a] ∧ SqL K H a (ns.map V.int) ∧ ns.length ≤ 63 ∧ Tabs (TT A) H ∧ ∀ H', Q (.bl true) H'
theorem ok_law (T : Tx K mg A) (TB : LamX.TabB base mg A.c_least_child A.P_least_child) : FnOk P w K mg base CX0 16 A.f_law A.d_law ["script"] (spLaw K A) := by
  obtain ⟨diK, riK, biK⟩ := bd_iK T
  refine T.F_law.ok sc_law (fun vs H Q E h => ?_) (fun cdv B outer s H vs Q E hr h => ?_)
  · obtain ⟨a, ns, rfl, _⟩ := h
    rfl
  · obtain ⟨a, ns, rfl, ha, h63, hT, q⟩ := h
    have nd := sc_law.nd
    have hu := hr.units
    refine ⟨_, PSs.nox (pss_cons (ps_set (i := 1) nd rfl (Or.inl rfl) (pe_callTy call_int1 (by rfl) T.g_int (by decide +kernel) (pa_cons (pe_call (ok_num T) (hr.mono (by decide)) (by rfl) T.m__law_number T.F__law_number.kp (b_num T) .nil pass0 (pa_cons (pv 0) (pa_cons pe_int pa_nil))) pa_nil)))
      (C8.pss_cut (ps_par (i := 2) (j := 3) rfl nd rfl rfl (by decide) rfl rfl (pa_cons (pe_op op_add pe_int (pe_op op_mod (pe_callTy call_int1 (by rfl) T.g_int (by decide +kernel) (pa_cons (pv 1) pa_nil)) pe_int)) (pa_cons (pe_op op_add pe_int (pe_op op_mod (pe_callTy call_int1 (by rfl) T.g_int (by decide +kernel) (pa_cons (pe_op op_fdiv (pv 1) pe_int) pa_nil)) pe_int)) pa_nil)) rfl)
      (C8.pss_cut (ps_set (i := 4) nd rfl (Or.inl rfl) (pe_make T.mkCK (ok_iK T) (hr.mono (by decide)) (by rfl) T.mCK biK riK pass0 (pa_cons (pe_ifExp (pt_cmpR op_eq (pe_op op_mod (pe_callTy call_int1 (by rfl) T.g_int (by decide +kernel) (pa_cons (pe_op op_fdiv (pv 1) pe_int) pa_nil)) pe_int) pe_int (nomark _)) pe_int pe_int) pa_nil)))
      (C8.pss_cut (ps_for PassesOwn.never rfl (pi_list (pe_call (ok_lrow T) (hr.mono (by decide)) (by rfl) T.m__law_row T.F__law_row.kp (b_lrow T) .nil pass0 (pa_cons (pv 0) (pa_cons pe_int (pa_cons pe_int (pa_cons pe_int pa_nil)))))) (pg_name (i := 5) nd rfl (Or.inl rfl)) (pss_one (ps_expr (pe_meth (pv 4) T.cTK T.M_e_see (ok_see T TB) (hr.mono (by decide)) (b_see T) .nil pass0 (pa_cons (pv 5) pa_nil)))))
      (C8.pss_cut (ps_set (i := 6) nd rfl (Or.inl rfl) (pe_call (ok_lrow T) (hr.mono (by decide)) (by rfl) T.m__law_row T.F__law_row.kp (b_lrow T) .nil pass0 (pa_cons (pv 0) (pa_cons pe_int (pa_cons (pe_op op_mod (pe_callTy call_int1 (by rfl) T.g_int (by decide +kernel) (pa_cons (pe_op op_fdiv (pv 1) pe_int) pa_nil)) pe_int) (pa_cons (pe_ix (r := rIxT K) ix_tup (pe_tup (pa_cons pe_int (pa_cons pe_int (pa_cons (pe_op op_pow pe_int pe_int) pa_nil)))) (pe_op op_mod (pe_callTy call_int1 (by rfl) T.g_int (by decide +kernel) (pa_cons (pe_op op_fdiv (pv 1) pe_int) pa_nil)) pe_int) (fun _ _ => rfl)) pa_nil))))))
      (pss_one (ps_ret (pe_and (pe_call (ok_lrg T TB) (hr.mono (by decide)) (by rfl) T.m__law_right T.F__law_right.kp (b_lrg T) .nil pass0 (pa_cons (pv 2) (pa_cons (pv 3) (pa_cons (pv 6) (pa_cons (pv 4) pa_nil))))) (pe_one (pe_call (ok_lrg T TB) (hr.mono (by decide)) (by rfl) T.m__law_right T.F__law_right.kp (b_lrg T) .nil pass0 (pa_cons (pe_op op_add pe_int (pe_op op_mod (pe_callTy call_int1 (by rfl) T.g_int (by decide +kernel) (pa_cons (pe_op op_fdiv (pv 1) pe_int) pa_nil)) pe_int)) (pa_cons (pv 3) (pa_cons (pv 6) (pa_cons (pv 4) pa_nil)))))))))))))), ?_⟩
    refine ⟨_, rfl, a, ns, 0, rfl, ha, h63, by omega, fun H1 r1 s1 => .inl ⟨_, rfl, ?_⟩⟩
    have hm : ∀ (z : Int) (m : Nat), 0 < m → ∃ n : Nat, z % (m : Nat) = (n : Int) ∧ n < m := fun z m hm => by
      have a0 := Int.emod_nonneg z (show ((m : Nat) : Int) ≠ 0 by omega)
      have a1 := Int.emod_lt_of_pos z (show (0 : Int) < (m : Nat) by omega)
      exact ⟨(z % (m : Nat)).toNat, (Int.toNat_of_nonneg a0).symm, by omega⟩
    refine ⟨fun σ' H' => ∃ (v w : Nat), σ' = [some (.ref a), some (.int r1), some (.int v), some (.int w), none, none, none] ∧ H' = H1 ∧ (1 ≤ v ∧ v ≤ 12) ∧ (1 ≤ w ∧ w ≤ 4), ?_, ?_⟩
    · obtain ⟨n1, e1, b1⟩ := hm r1 6 (by decide)
      obtain ⟨n2, e2, b2⟩ := hm (r1 / 6) 4 (by decide)
      refine ⟨_, rfl, .inl ⟨_, rfl, _, _, rfl, rfl, by show (0 : Int) < 6; decide, _, _, rfl, rfl, _, rfl, _, _, rfl, rfl, ⟨by decide, by decide⟩, .inl ⟨_, rfl, _, _, rfl, rfl, by show (0 : Int) < 4; decide, _, _, rfl, rfl, _, _, rfl, ?_⟩⟩⟩
      refine ⟨1 + n1, 1 + n2, ?_, rfl, by omega, by omega⟩
      show [some (V.ref a), some (V.int r1), some (V.int (1 + r1 % 6)), some (V.int (1 + r1 / 6 % 4)), none, none, none] = _
      rw [show (1 : Int) + r1 % 6 = ((1 + n1 : Nat) : Int) by have : r1 % 6 = (n1 : Int) := e1; omega, show (1 : Int) + r1 / 6 % 4 = ((1 + n2 : Nat) : Int) by have : r1 / 6 % 4 = (n2 : Int) := e2; omega]
    rintro σ' H2 ⟨v, w1, rfl, rfl, hv, hw⟩
    have hw2 : (1 : Nat) ≤ 2 ∧ (2 : Nat) ≤ 4 := by decide
    have ha1 := s1.seq ha
    refine ⟨fun σ' H' => ∃ (x t : Addr) (v4 : Nat), σ' = [some (.ref a), some (.int r1), some (.int v), some (.int w1), some (.ref x), none, none] ∧ Same H2 H' ∧ H2 x = none ∧ (1 ≤ v4 ∧ v4 ≤ 12) ∧ KAt A.CK H' x v4 2 0 t [], ?_, ?_⟩
    · refine ⟨_, rfl, _, _, rfl, rfl, ⟨by decide, by decide⟩, .inl ⟨_, rfl, _, _, rfl, rfl, by show (0 : Int) < 2; decide, rfl, _, rfl, ?_⟩⟩
      refine ite2 (fun _ => ?_) (fun _ => ?_)
      · exact fun x dx nx ndx nex => ⟨x, dx, 12, 2, rfl, by decide, by decide, upd_same, fun H3 t k1 hK => ⟨rfl, x, t, 12, rfl, new_same nx ndx k1, nx, by decide, hK⟩⟩
      · exact fun x dx nx ndx nex => ⟨x, dx, 1, 2, rfl, by decide, by decide, upd_same, fun H3 t k1 hK => ⟨rfl, x, t, 1, rfl, new_same nx ndx k1, nx, by decide, hK⟩⟩
    rintro σ' H3 ⟨x, t, v4, rfl, s3, nx, hv4, hK3⟩
    have ha3 := s3.seq ha1
    have tt3 := (hT.ext s1).ext s3
    refine ⟨fun σ' H' => ∃ (t n : Nat) (ks : List Int) (x5 : Option V), σ' = [some (.ref a), some (.int r1), some (.int v), some (.int w1), some (.ref x), x5, none] ∧ ButP x H3 H' ∧ Tabs (TT A) H' ∧ KAt A.CK H' x v4 2 n t ks, ?_, ?_⟩
    · refine ⟨_, rfl, a, ns, 3, 5, 9, rfl, ha3, h63, by omega, by omega, by omega, fun H4 l keys s4 n4 e4 hkl hkb => ?_⟩
      have hK4 := hK3.same s4
      refine ⟨l, rfl, ⟨_, SqL.of e4⟩, ?_⟩
      refine for_it (walk_list (xs := keys.map V.int)) (fun i σ' H' => ∃ (x5 : Option V) (t : Addr), σ' = [some (.ref a), some (.int r1), some (.int v), some (.int w1), some (.ref x), x5, none] ∧ Tabs (TT A) H' ∧ ButP x H4 H' ∧ KAt A.CK H' x v4 2 (kpL v4 2 keys i).2 t (kpL v4 2 keys i).1)
        ⟨none, t, rfl, tt3.ext s4, ButP.of (ExtN.refl _), hK4⟩ (fun i σ' H' _ ⟨_, _, _, _, b, _⟩ => ?_) ?_ ?_
      · obtain ⟨dz, fz, gz⟩ := hK4.ins
        exact SqL.of (b _ _ e4 (fun _ z => nomatch z) (ne_of e4 gz (by intro z; cases z)))
      · rintro i y σ' H5 H6 hi ⟨x5, t5, rfl, tt5, b5, hK5⟩ ⟨rfl, hy⟩
        obtain ⟨hi2, rfl⟩ := ints_at hy
        rw [el_key hi2]
        obtain ⟨⟨d5, m5, g5⟩, g6⟩ := id hK5
        refine ⟨_, rfl, x, d5, _, rfl, g5, fdK_no _ _ _ _ _ (by decide +kernel) (by decide +kernel) (by decide +kernel) (by decide +kernel) (by decide +kernel), _, rfl, ?_⟩
        refine ⟨x, v4, 2, _, t5, keyAt keys i, _, rfl, hK5, hv4, hw2, kp_good hw2 hv4 hkb i (by omega), hkb _ (keyAt_mem hi2), tt5, fun H7 t7 q7 b7 tt7 hK7 e7 => ?_⟩
        exact ⟨_, t7, rfl, tt7, b5.trans b7, hK7⟩
      · rintro σ' H5 ⟨x5, t5, rfl, tt5, b5, hK5⟩
        exact ⟨t5, _, _, x5, rfl, (ButP.of (extN_of s4)).trans b5, tt5, hK5⟩
    rintro σ' H4 ⟨t4, n4, ks4, x5, rfl, b4, tt4, hK4⟩
    have ha4 : SqL K H4 a (ns.map V.int) := by
      rcases ha1 with (h | ⟨o, h⟩) | h
      · exact .inl (.inl (b4 _ _ (s3 _ _ h) (fun _ z => nomatch z) (ne_of_none h nx)))
      · exact .inl (.inr ⟨o, b4 _ _ (s3 _ _ h) (fun _ z => nomatch z) (ne_of_none h nx)⟩)
      · exact .inr h
    have h3 : ∃ sp : Int, (1 ≤ sp ∧ sp ≤ 1000000000) ∧ atI [V.int 5, V.int 12, V.int ((10 : Int) ^ (9 : Int).toNat)] (r1 / 624 % 3) = some (.int sp) := by
      obtain ⟨n, e, hn⟩ := hm (r1 / 624) 3 (by decide)
      rw [show r1 / 624 % 3 = (n : Int) from e]
      obtain rfl | rfl | rfl : n = 0 ∨ n = 1 ∨ n = 2 := by omega
      · exact ⟨5, by decide, rfl⟩
      · exact ⟨12, by decide, rfl⟩
      · exact ⟨1000000000, by decide, rfl⟩
    obtain ⟨sp, hsp, esp⟩ := h3
    obtain ⟨m, em, hm13⟩ := hm (r1 / 48) 13 (by decide)
    refine ⟨fun σ' H' => ∃ (l : Addr) (keys : List Int), σ' = [some (.ref a), some (.int r1), some (.int v), some (.int w1), some (.ref x), x5, some (.ref l)] ∧ Same H4 H' ∧ H' l = some (.lst (keys.map V.int)) ∧ keys.length ≤ 12 ∧ (∀ z ∈ keys, -1000000000 ≤ z ∧ z ≤ 1000000000), ?_, ?_⟩
    · refine ⟨_, rfl, _, rfl, _, _, rfl, rfl, ⟨by decide, by decide⟩, .inl ⟨_, rfl, _, _, rfl, rfl, by show (0 : Int) < 13; decide, _, _, rfl, rfl, ⟨by decide, by decide, by decide⟩, by show 3 ≤ sizeLine; decide, fun z nz => ⟨_, rfl, _, _, rfl, rfl, ⟨by decide, by decide⟩, .inl ⟨_, rfl, _, _, rfl, rfl, by show (0 : Int) < 3; decide, z, _, _, _, rfl, rfl, SqT.of upd_same, esp, ?_⟩⟩⟩⟩
      have sz := Same.up (o := .tup [V.int 5, V.int 12, V.int ((10 : Int) ^ (9 : Int).toNat)]) nz
      refine ⟨a, ns, 10, m, sp, ?_, sz.seq ha4, h63, by omega, by omega, hsp, fun H6 l keys s6 n6 e6 hkl hkb => ⟨l, keys, rfl, sz.trans s6, e6, by omega, hkb⟩⟩
      show [V.ref a, V.int 10, V.int (r1 / 48 % 13), V.int sp] = _
      rw [show r1 / 48 % 13 = (m : Int) from em]
      rfl
    rintro σ' H5 ⟨l, keys, rfl, s5, e5, hkl, hkb⟩
    have hK5 := hK4.same s5
    have tt5 := tt4.ext s5
    obtain ⟨n2, e2, b2⟩ := hm (r1 / 6) 12 (by decide)
    refine ⟨_, rfl, _, rfl, _, rfl, _, rfl, v, w1, l, x, v4, 2, n4, t4, keys, ks4, rfl, hv, hw, e5, hkl, hkb, hK5, tt5, fun H6 e6 tt6 => ⟨_, rfl, iteT ?_⟩⟩
    refine ⟨_, rfl, _, _, rfl, rfl, ⟨by decide, by decide⟩, .inl ⟨_, rfl, _, _, rfl, rfl, by show (0 : Int) < 12; decide, _, _, rfl, rfl, _, rfl, _, rfl, _, rfl, ?_⟩⟩
    refine ⟨1 + n2, w1, l, x, v4, 2, n4, t4, keys, ks4, ?_, by omega, hw, e6 _ _ e5 (fun _ z => nomatch z), hkl, hkb, hK5.ext e6, tt6, fun H7 e7 tt7 => q H7⟩
    show [V.int (1 + r1 / 6 % 12), V.int w1, V.ref l, V.ref x] = _
    rw [show (1 : Int) + r1 / 6 % 12 = ((1 + n2 : Nat) : Int) by have : r1 / 6 % 12 = (n2 : Int) := e2; omega]
theorem b_law (T : Tx K mg A) : True := trivial

end
end Tw

set_option Elab.async false
set_option linter.all false
set_option maxRecDepth 100000
set_option maxHeartbeats 2000000
namespace Tw
open PySem PySem.Spec PyProof.Rows L2
theorem kit_no {K : PySem.W.Frag} {C : Addr} {t : String} (hc : PySem.W.isClsIn K C = true) (ht : PySem.W.typeIn K (.ref C) = some (.type "type")) (hs : PySem.W.subIn K (.type t) (.ref C) = some false) : PySem.W.kitOne K (.type t) (.ref C) = some false := by
  unfold PySem.W.kitOne PySem.W.kitCls
  have h1 : (PySem.W.clsIn K C).isSome = true := hc
  simp only [h1, ht, hs, beq_self_eq_true, Bool.and_self, if_true]
  rfl
theorem all_mk {l : PySem.W.OpenLaw} {w : World} {K : PySem.W.Frag} {h : Heap} {mg : Str → Option Value} (X : K.In h) (G : h.Ns mainGlobals mg) {fa C CS CK CM po D_t___init__ D_t_of D_faults D_sift_up D_sift_down D_push D_put_for D_e___init__ f_is_integer f_is_integer_from f_is_key f_check_arms f_check_many f_check_place f_check_key f_check_room f_row_of f_t___init__ f_t_of f_t___len__ f_t___iter__ f_t___getitem__ f_t_parent f_t_way_to f_faults f_heap_of f_check_filled f_z___init__ f_sift_up f_sift_down f_least_child f_push f_put_for f_e___init__ f_e___len__ f_e___contains__ f_e_heap f_e_entered f_e_see f_e_ascending f_changes f__law_number f__law_row f__law_pushed f__law_put f__law_things_right f__law_right f_law : Addr} {cc_least_child PP_least_child : Addr} {p_e_heap : Addr} {rest_e_heap : List Value} {p_e_entered : Addr} {rest_e_entered : List Value} {od_is_integer an_is_integer : Option Addr} {sl_is_integer : Array (Option Value)} {oc_is_integer kV_is_integer dc_is_integer pm_is_integer cd_is_integer ct_is_integer : Value} {od_is_integer_from an_is_integer_from : Option Addr} {sl_is_integer_from : Array (Option Value)} {oc_is_integer_from kV_is_integer_from dc_is_integer_from pm_is_integer_from cd_is_integer_from ct_is_integer_from : Value} {od_is_key an_is_key : Option Addr} {sl_is_key : Array (Option Value)} {oc_is_key kV_is_key dc_is_key pm_is_key cd_is_key ct_is_key : Value} {od_check_arms an_check_arms : Option Addr} {sl_check_arms : Array (Option Value)} {oc_check_arms kV_check_arms dc_check_arms pm_check_arms cd_check_arms ct_check_arms : Value} {od_check_many an_check_many : Option Addr} {sl_check_many : Array (Option Value)} {oc_check_many kV_check_many dc_check_many pm_check_many cd_check_many ct_check_many : Value} {od_check_place an_check_place : Option Addr} {sl_check_place : Array (Option Value)} {oc_check_place kV_check_place dc_check_place pm_check_place cd_check_place ct_check_place : Value} {od_check_key an_check_key : Option Addr} {sl_check_key : Array (Option Value)} {oc_check_key kV_check_key dc_check_key pm_check_key cd_check_key ct_check_key : Value} {od_check_room an_check_room : Option Addr} {sl_check_room : Array (Option Value)} {oc_check_room kV_check_room dc_check_room pm_check_room cd_check_room ct_check_room : Value} {od_row_of an_row_of : Option Addr} {sl_row_of : Array (Option Value)} {oc_row_of kV_row_of dc_row_of pm_row_of cd_row_of ct_row_of : Value} {od_t___init__ an_t___init__ : Option Addr} {sl_t___init__ : Array (Option Value)} {oc_t___init__  dc_t___init__ pm_t___init__ cd_t___init__ ct_t___init__ : Value} {od_t_of an_t_of : Option Addr} {sl_t_of : Array (Option Value)} {oc_t_of  dc_t_of pm_t_of cd_t_of ct_t_of : Value} {od_t___len__ an_t___len__ : Option Addr} {sl_t___len__ : Array (Option Value)} {oc_t___len__ kV_t___len__ dc_t___len__ pm_t___len__ cd_t___len__ ct_t___len__ : Value} {od_t___iter__ an_t___iter__ : Option Addr} {sl_t___iter__ : Array (Option Value)} {oc_t___iter__ kV_t___iter__ dc_t___iter__ pm_t___iter__ cd_t___iter__ ct_t___iter__ : Value} {od_t___getitem__ an_t___getitem__ : Option Addr} {sl_t___getitem__ : Array (Option Value)} {oc_t___getitem__ kV_t___getitem__ dc_t___getitem__ pm_t___getitem__ cd_t___getitem__ ct_t___getitem__ : Value} {od_t_parent an_t_parent : Option Addr} {sl_t_parent : Array (Option Value)} {oc_t_parent kV_t_parent dc_t_parent pm_t_parent cd_t_parent ct_t_parent : Value} {od_t_way_to an_t_way_to : Option Addr} {sl_t_way_to : Array (Option Value)} {oc_t_way_to kV_t_way_to dc_t_way_to pm_t_way_to cd_t_way_to ct_t_way_to : Value} {od_faults an_faults : Option Addr} {sl_faults : Array (Option Value)} {oc_faults  dc_faults pm_faults cd_faults ct_faults : Value} {od_heap_of an_heap_of : Option Addr} {sl_heap_of : Array (Option Value)} {oc_heap_of kV_heap_of dc_heap_of pm_heap_of cd_heap_of ct_heap_of : Value} {od_check_filled an_check_filled : Option Addr} {sl_check_filled : Array (Option Value)} {oc_check_filled kV_check_filled dc_check_filled pm_check_filled cd_check_filled ct_check_filled : Value} {od_z___init__ an_z___init__ : Option Addr} {sl_z___init__ : Array (Option Value)} {oc_z___init__ kV_z___init__ dc_z___init__ pm_z___init__ cd_z___init__ ct_z___init__ : Value} {od_sift_up an_sift_up : Option Addr} {sl_sift_up : Array (Option Value)} {oc_sift_up  dc_sift_up pm_sift_up cd_sift_up ct_sift_up : Value} {od_sift_down an_sift_down : Option Addr} {sl_sift_down : Array (Option Value)} {oc_sift_down  dc_sift_down pm_sift_down cd_sift_down ct_sift_down : Value} {od_least_child an_least_child : Option Addr} {sl_least_child : Array (Option Value)} {oc_least_child kV_least_child dc_least_child pm_least_child  ct_least_child : Value} {od_push an_push : Option Addr} {sl_push : Array (Option Value)} {oc_push  dc_push pm_push cd_push ct_push : Value} {od_put_for an_put_for : Option Addr} {sl_put_for : Array (Option Value)} {oc_put_for  dc_put_for pm_put_for cd_put_for ct_put_for : Value} {od_e___init__ an_e___init__ : Option Addr} {sl_e___init__ : Array (Option Value)} {oc_e___init__  dc_e___init__ pm_e___init__ cd_e___init__ ct_e___init__ : Value} {od_e___len__ an_e___len__ : Option Addr} {sl_e___len__ : Array (Option Value)} {oc_e___len__ kV_e___len__ dc_e___len__ pm_e___len__ cd_e___len__ ct_e___len__ : Value} {od_e___contains__ an_e___contains__ : Option Addr} {sl_e___contains__ : Array (Option Value)} {oc_e___contains__ kV_e___contains__ dc_e___contains__ pm_e___contains__ cd_e___contains__ ct_e___contains__ : Value} {od_e_heap an_e_heap : Option Addr} {sl_e_heap : Array (Option Value)} {oc_e_heap kV_e_heap dc_e_heap pm_e_heap cd_e_heap ct_e_heap : Value} {od_e_entered an_e_entered : Option Addr} {sl_e_entered : Array (Option Value)} {oc_e_entered kV_e_entered dc_e_entered pm_e_entered cd_e_entered ct_e_entered : Value} {od_e_see an_e_see : Option Addr} {sl_e_see : Array (Option Value)} {oc_e_see kV_e_see dc_e_see pm_e_see cd_e_see ct_e_see : Value} {od_e_ascending an_e_ascending : Option Addr} {sl_e_ascending : Array (Option Value)} {oc_e_ascending kV_e_ascending dc_e_ascending pm_e_ascending cd_e_ascending ct_e_ascending : Value} {od_changes an_changes : Option Addr} {sl_changes : Array (Option Value)} {oc_changes kV_changes dc_changes pm_changes cd_changes ct_changes : Value} {od__law_number an__law_number : Option Addr} {sl__law_number : Array (Option Value)} {oc__law_number kV__law_number dc__law_number pm__law_number cd__law_number ct__law_number : Value} {od__law_row an__law_row : Option Addr} {sl__law_row : Array (Option Value)} {oc__law_row kV__law_row dc__law_row pm__law_row cd__law_row ct__law_row : Value} {od__law_pushed an__law_pushed : Option Addr} {sl__law_pushed : Array (Option Value)} {oc__law_pushed kV__law_pushed dc__law_pushed pm__law_pushed cd__law_pushed ct__law_pushed : Value} {od__law_put an__law_put : Option Addr} {sl__law_put : Array (Option Value)} {oc__law_put kV__law_put dc__law_put pm__law_put cd__law_put ct__law_put : Value} {od__law_things_right an__law_things_right : Option Addr} {sl__law_things_right : Array (Option Value)} {oc__law_things_right kV__law_things_right dc__law_things_right pm__law_things_right cd__law_things_right ct__law_things_right : Value} {od__law_right an__law_right : Option Addr} {sl__law_right : Array (Option Value)} {oc__law_right kV__law_right dc__law_right pm__law_right cd__law_right ct__law_right : Value} {od_law an_law : Option Addr} {sl_law : Array (Option Value)} {oc_law kV_law dc_law pm_law cd_law ct_law : Value}
    (hfa : mg "law" = some (.ref fa))
    (aC : PySem.W.nsIn K mainGlobals "Tree" = some (some (.ref C)))
    (aCS : PySem.W.nsIn K mainGlobals "Sift" = some (some (.ref CS)))
    (aCK : PySem.W.nsIn K mainGlobals "Keeper" = some (some (.ref CK)))
    (aCM : PySem.W.nsIn K mainGlobals "Mark" = some (some (.ref CM)))
    (a_is_integer : PySem.W.nsIn K mainGlobals "is_integer" = some (some (.ref f_is_integer)))
    (l_is_integer : K.lookup f_is_integer = some ⟨oc_is_integer, od_is_integer, .func (PySem.W.fnOf "is_integer" "is_integer" (defArgs s_is_integer) (defBody s_is_integer) (defScope s_is_integer) .none kV_is_integer dc_is_integer pm_is_integer an_is_integer cd_is_integer ct_is_integer), sl_is_integer⟩)
    (c_is_integer : PySem.W.codeIn K cd_is_integer "is_integer" = true)
    (k_is_integer : PySem.W.keepIn K (.ref f_is_integer) = true)
    (a_is_integer_from : PySem.W.nsIn K mainGlobals "is_integer_from" = some (some (.ref f_is_integer_from)))
    (l_is_integer_from : K.lookup f_is_integer_from = some ⟨oc_is_integer_from, od_is_integer_from, .func (PySem.W.fnOf "is_integer_from" "is_integer_from" (defArgs s_is_integer_from) (defBody s_is_integer_from) (defScope s_is_integer_from) .none kV_is_integer_from dc_is_integer_from pm_is_integer_from an_is_integer_from cd_is_integer_from ct_is_integer_from), sl_is_integer_from⟩)
    (c_is_integer_from : PySem.W.codeIn K cd_is_integer_from "is_integer_from" = true)
    (k_is_integer_from : PySem.W.keepIn K (.ref f_is_integer_from) = true)
    (a_is_key : PySem.W.nsIn K mainGlobals "is_key" = some (some (.ref f_is_key)))
    (l_is_key : K.lookup f_is_key = some ⟨oc_is_key, od_is_key, .func (PySem.W.fnOf "is_key" "is_key" (defArgs s_is_key) (defBody s_is_key) (defScope s_is_key) .none kV_is_key dc_is_key pm_is_key an_is_key cd_is_key ct_is_key), sl_is_key⟩)
    (c_is_key : PySem.W.codeIn K cd_is_key "is_key" = true)
    (k_is_key : PySem.W.keepIn K (.ref f_is_key) = true)
    (a_check_arms : PySem.W.nsIn K mainGlobals "check_arms" = some (some (.ref f_check_arms)))
    (l_check_arms : K.lookup f_check_arms = some ⟨oc_check_arms, od_check_arms, .func (PySem.W.fnOf "check_arms" "check_arms" (defArgs s_check_arms) (defBody s_check_arms) (defScope s_check_arms) .none kV_check_arms dc_check_arms pm_check_arms an_check_arms cd_check_arms ct_check_arms), sl_check_arms⟩)
    (c_check_arms : PySem.W.codeIn K cd_check_arms "check_arms" = true)
    (k_check_arms : PySem.W.keepIn K (.ref f_check_arms) = true)
    (a_check_many : PySem.W.nsIn K mainGlobals "check_many" = some (some (.ref f_check_many)))
    (l_check_many : K.lookup f_check_many = some ⟨oc_check_many, od_check_many, .func (PySem.W.fnOf "check_many" "check_many" (defArgs s_check_many) (defBody s_check_many) (defScope s_check_many) .none kV_check_many dc_check_many pm_check_many an_check_many cd_check_many ct_check_many), sl_check_many⟩)
    (c_check_many : PySem.W.codeIn K cd_check_many "check_many" = true)
    (k_check_many : PySem.W.keepIn K (.ref f_check_many) = true)
    (a_check_place : PySem.W.nsIn K mainGlobals "check_place" = some (some (.ref f_check_place)))
    (l_check_place : K.lookup f_check_place = some ⟨oc_check_place, od_check_place, .func (PySem.W.fnOf "check_place" "check_place" (defArgs s_check_place) (defBody s_check_place) (defScope s_check_place) .none kV_check_place dc_check_place pm_check_place an_check_place cd_check_place ct_check_place), sl_check_place⟩)
    (c_check_place : PySem.W.codeIn K cd_check_place "check_place" = true)
    (k_check_place : PySem.W.keepIn K (.ref f_check_place) = true)
    (a_check_key : PySem.W.nsIn K mainGlobals "check_key" = some (some (.ref f_check_key)))
    (l_check_key : K.lookup f_check_key = some ⟨oc_check_key, od_check_key, .func (PySem.W.fnOf "check_key" "check_key" (defArgs s_check_key) (defBody s_check_key) (defScope s_check_key) .none kV_check_key dc_check_key pm_check_key an_check_key cd_check_key ct_check_key), sl_check_key⟩)
    (c_check_key : PySem.W.codeIn K cd_check_key "check_key" = true)
    (k_check_key : PySem.W.keepIn K (.ref f_check_key) = true)
    (a_check_room : PySem.W.nsIn K mainGlobals "check_room" = some (some (.ref f_check_room)))
    (l_check_room : K.lookup f_check_room = some ⟨oc_check_room, od_check_room, .func (PySem.W.fnOf "check_room" "check_room" (defArgs s_check_room) (defBody s_check_room) (defScope s_check_room) .none kV_check_room dc_check_room pm_check_room an_check_room cd_check_room ct_check_room), sl_check_room⟩)
    (c_check_room : PySem.W.codeIn K cd_check_room "check_room" = true)
    (k_check_room : PySem.W.keepIn K (.ref f_check_room) = true)
    (a_row_of : PySem.W.nsIn K mainGlobals "row_of" = some (some (.ref f_row_of)))
    (l_row_of : K.lookup f_row_of = some ⟨oc_row_of, od_row_of, .func (PySem.W.fnOf "row_of" "row_of" (defArgs s_row_of) (defBody s_row_of) (defScope s_row_of) .none kV_row_of dc_row_of pm_row_of an_row_of cd_row_of ct_row_of), sl_row_of⟩)
    (c_row_of : PySem.W.codeIn K cd_row_of "row_of" = true)
    (k_row_of : PySem.W.keepIn K (.ref f_row_of) = true)
    (a_t___init__ : PySem.W.findIn K (.ref C) "__init__" = some (some (.ref f_t___init__)))
    (i_t___init__ : PySem.W.isFn K (.ref f_t___init__) = true)
    (l_t___init__ : K.lookup f_t___init__ = some ⟨oc_t___init__, od_t___init__, .func (PySem.W.fnOf "__init__" "Tree.__init__" (defArgs s_t___init__) (defBody s_t___init__) (defScope s_t___init__) .none (.ref D_t___init__) dc_t___init__ pm_t___init__ an_t___init__ cd_t___init__ ct_t___init__), sl_t___init__⟩)
    (c_t___init__ : PySem.W.codeIn K cd_t___init__ "Tree.__init__" = true)
    (k_t___init__ : PySem.W.keepIn K (.ref f_t___init__) = true)
    {tk_t___init__ : Tok}
    (w_t___init__ : PySem.W.nsIn K D_t___init__ "arms" = some (some (.int 2 tk_t___init__)))
    (a_t_of : PySem.W.findCls K (.ref C) (.type "type") "of" = some (.get (.builtin "classmethod.__get__") (.ref po) .none (.ref C)))
    {rest_of : List Value}
    (r_t_of : PySem.W.recIn K po "classmethod" = some (.ref f_t_of :: rest_of))
    (n_t_of : PySem.W.fnIn K f_t_of = true)
    (l_t_of : K.lookup f_t_of = some ⟨oc_t_of, od_t_of, .func (PySem.W.fnOf "of" "Tree.of" (defArgs s_t_of) (defBody s_t_of) (defScope s_t_of) .none (.ref D_t_of) dc_t_of pm_t_of an_t_of cd_t_of ct_t_of), sl_t_of⟩)
    (c_t_of : PySem.W.codeIn K cd_t_of "Tree.of" = true)
    (k_t_of : PySem.W.keepIn K (.ref f_t_of) = true)
    {tk_t_of : Tok}
    (w_t_of : PySem.W.nsIn K D_t_of "arms" = some (some (.int 2 tk_t_of)))
    (a_t___len__ : PySem.W.findIn K (.ref C) "__len__" = some (some (.ref f_t___len__)))
    (i_t___len__ : PySem.W.isFn K (.ref f_t___len__) = true)
    (n_t___len__ : PySem.W.fnIn K f_t___len__ = true)
    (l_t___len__ : K.lookup f_t___len__ = some ⟨oc_t___len__, od_t___len__, .func (PySem.W.fnOf "__len__" "Tree.__len__" (defArgs s_t___len__) (defBody s_t___len__) (defScope s_t___len__) .none kV_t___len__ dc_t___len__ pm_t___len__ an_t___len__ cd_t___len__ ct_t___len__), sl_t___len__⟩)
    (c_t___len__ : PySem.W.codeIn K cd_t___len__ "Tree.__len__" = true)
    (k_t___len__ : PySem.W.keepIn K (.ref f_t___len__) = true)
    (a_t___iter__ : PySem.W.findIn K (.ref C) "__iter__" = some (some (.ref f_t___iter__)))
    (i_t___iter__ : PySem.W.isFn K (.ref f_t___iter__) = true)
    (n_t___iter__ : PySem.W.fnIn K f_t___iter__ = true)
    (l_t___iter__ : K.lookup f_t___iter__ = some ⟨oc_t___iter__, od_t___iter__, .func (PySem.W.fnOf "__iter__" "Tree.__iter__" (defArgs s_t___iter__) (defBody s_t___iter__) (defScope s_t___iter__) .none kV_t___iter__ dc_t___iter__ pm_t___iter__ an_t___iter__ cd_t___iter__ ct_t___iter__), sl_t___iter__⟩)
    (c_t___iter__ : PySem.W.codeIn K cd_t___iter__ "Tree.__iter__" = true)
    (k_t___iter__ : PySem.W.keepIn K (.ref f_t___iter__) = true)
    (a_t___getitem__ : PySem.W.findIn K (.ref C) "__getitem__" = some (some (.ref f_t___getitem__)))
    (i_t___getitem__ : PySem.W.isFn K (.ref f_t___getitem__) = true)
    (n_t___getitem__ : PySem.W.fnIn K f_t___getitem__ = true)
    (l_t___getitem__ : K.lookup f_t___getitem__ = some ⟨oc_t___getitem__, od_t___getitem__, .func (PySem.W.fnOf "__getitem__" "Tree.__getitem__" (defArgs s_t___getitem__) (defBody s_t___getitem__) (defScope s_t___getitem__) .none kV_t___getitem__ dc_t___getitem__ pm_t___getitem__ an_t___getitem__ cd_t___getitem__ ct_t___getitem__), sl_t___getitem__⟩)
    (c_t___getitem__ : PySem.W.codeIn K cd_t___getitem__ "Tree.__getitem__" = true)
    (k_t___getitem__ : PySem.W.keepIn K (.ref f_t___getitem__) = true)
    (a_t_parent : PySem.W.findIn K (.ref C) "parent" = some (some (.ref f_t_parent)))
    (i_t_parent : PySem.W.isFn K (.ref f_t_parent) = true)
    (l_t_parent : K.lookup f_t_parent = some ⟨oc_t_parent, od_t_parent, .func (PySem.W.fnOf "parent" "Tree.parent" (defArgs s_t_parent) (defBody s_t_parent) (defScope s_t_parent) .none kV_t_parent dc_t_parent pm_t_parent an_t_parent cd_t_parent ct_t_parent), sl_t_parent⟩)
    (c_t_parent : PySem.W.codeIn K cd_t_parent "Tree.parent" = true)
    (k_t_parent : PySem.W.keepIn K (.ref f_t_parent) = true)
    (a_t_way_to : PySem.W.findIn K (.ref C) "way_to" = some (some (.ref f_t_way_to)))
    (i_t_way_to : PySem.W.isFn K (.ref f_t_way_to) = true)
    (l_t_way_to : K.lookup f_t_way_to = some ⟨oc_t_way_to, od_t_way_to, .func (PySem.W.fnOf "way_to" "Tree.way_to" (defArgs s_t_way_to) (defBody s_t_way_to) (defScope s_t_way_to) .none kV_t_way_to dc_t_way_to pm_t_way_to an_t_way_to cd_t_way_to ct_t_way_to), sl_t_way_to⟩)
    (c_t_way_to : PySem.W.codeIn K cd_t_way_to "Tree.way_to" = true)
    (k_t_way_to : PySem.W.keepIn K (.ref f_t_way_to) = true)
    (a_faults : PySem.W.nsIn K mainGlobals "faults" = some (some (.ref f_faults)))
    (l_faults : K.lookup f_faults = some ⟨oc_faults, od_faults, .func (PySem.W.fnOf "faults" "faults" (defArgs s_faults) (defBody s_faults) (defScope s_faults) .none (.ref D_faults) dc_faults pm_faults an_faults cd_faults ct_faults), sl_faults⟩)
    (c_faults : PySem.W.codeIn K cd_faults "faults" = true)
    (k_faults : PySem.W.keepIn K (.ref f_faults) = true)
    {tk_faults : Tok}
    (w_faults : PySem.W.nsIn K D_faults "arms" = some (some (.int 2 tk_faults)))
    (a_heap_of : PySem.W.nsIn K mainGlobals "heap_of" = some (some (.ref f_heap_of)))
    (l_heap_of : K.lookup f_heap_of = some ⟨oc_heap_of, od_heap_of, .func (PySem.W.fnOf "heap_of" "heap_of" (defArgs s_heap_of) (defBody s_heap_of) (defScope s_heap_of) .none kV_heap_of dc_heap_of pm_heap_of an_heap_of cd_heap_of ct_heap_of), sl_heap_of⟩)
    (c_heap_of : PySem.W.codeIn K cd_heap_of "heap_of" = true)
    (k_heap_of : PySem.W.keepIn K (.ref f_heap_of) = true)
    (a_check_filled : PySem.W.nsIn K mainGlobals "check_filled" = some (some (.ref f_check_filled)))
    (l_check_filled : K.lookup f_check_filled = some ⟨oc_check_filled, od_check_filled, .func (PySem.W.fnOf "check_filled" "check_filled" (defArgs s_check_filled) (defBody s_check_filled) (defScope s_check_filled) .none kV_check_filled dc_check_filled pm_check_filled an_check_filled cd_check_filled ct_check_filled), sl_check_filled⟩)
    (c_check_filled : PySem.W.codeIn K cd_check_filled "check_filled" = true)
    (k_check_filled : PySem.W.keepIn K (.ref f_check_filled) = true)
    (a_z___init__ : PySem.W.findIn K (.ref CS) "__init__" = some (some (.ref f_z___init__)))
    (i_z___init__ : PySem.W.isFn K (.ref f_z___init__) = true)
    (l_z___init__ : K.lookup f_z___init__ = some ⟨oc_z___init__, od_z___init__, .func (PySem.W.fnOf "__init__" "Sift.__init__" (defArgs s_z___init__) (defBody s_z___init__) (defScope s_z___init__) .none kV_z___init__ dc_z___init__ pm_z___init__ an_z___init__ cd_z___init__ ct_z___init__), sl_z___init__⟩)
    (c_z___init__ : PySem.W.codeIn K cd_z___init__ "Sift.__init__" = true)
    (k_z___init__ : PySem.W.keepIn K (.ref f_z___init__) = true)
    (a_sift_up : PySem.W.nsIn K mainGlobals "sift_up" = some (some (.ref f_sift_up)))
    (l_sift_up : K.lookup f_sift_up = some ⟨oc_sift_up, od_sift_up, .func (PySem.W.fnOf "sift_up" "sift_up" (defArgs s_sift_up) (defBody s_sift_up) (defScope s_sift_up) .none (.ref D_sift_up) dc_sift_up pm_sift_up an_sift_up cd_sift_up ct_sift_up), sl_sift_up⟩)
    (c_sift_up : PySem.W.codeIn K cd_sift_up "sift_up" = true)
    (k_sift_up : PySem.W.keepIn K (.ref f_sift_up) = true)
    {tk_sift_up : Tok}
    (w_sift_up : PySem.W.nsIn K D_sift_up "arms" = some (some (.int 2 tk_sift_up)))
    (a_sift_down : PySem.W.nsIn K mainGlobals "sift_down" = some (some (.ref f_sift_down)))
    (l_sift_down : K.lookup f_sift_down = some ⟨oc_sift_down, od_sift_down, .func (PySem.W.fnOf "sift_down" "sift_down" (defArgs s_sift_down) (defBody s_sift_down) (defScope s_sift_down) .none (.ref D_sift_down) dc_sift_down pm_sift_down an_sift_down cd_sift_down ct_sift_down), sl_sift_down⟩)
    (c_sift_down : PySem.W.codeIn K cd_sift_down "sift_down" = true)
    (k_sift_down : PySem.W.keepIn K (.ref f_sift_down) = true)
    {tk_sift_down : Tok}
    (w_sift_down : PySem.W.nsIn K D_sift_down "arms" = some (some (.int 2 tk_sift_down)))
    (a_least_child : PySem.W.nsIn K mainGlobals "least_child" = some (some (.ref f_least_child)))
    (l_least_child : K.lookup f_least_child = some ⟨oc_least_child, od_least_child, .func (PySem.W.fnOf "least_child" "least_child" (defArgs s_least_child) (defBody s_least_child) (defScope s_least_child) .none kV_least_child dc_least_child pm_least_child an_least_child (.ref cc_least_child) ct_least_child), sl_least_child⟩)
    (c_least_child : PySem.W.codeIn K (.ref cc_least_child) "least_child" = true)
    (k_least_child : PySem.W.keepIn K (.ref f_least_child) = true)
    (a_push : PySem.W.nsIn K mainGlobals "push" = some (some (.ref f_push)))
    (l_push : K.lookup f_push = some ⟨oc_push, od_push, .func (PySem.W.fnOf "push" "push" (defArgs s_push) (defBody s_push) (defScope s_push) .none (.ref D_push) dc_push pm_push an_push cd_push ct_push), sl_push⟩)
    (c_push : PySem.W.codeIn K cd_push "push" = true)
    (k_push : PySem.W.keepIn K (.ref f_push) = true)
    {tk_push : Tok}
    (w_push : PySem.W.nsIn K D_push "arms" = some (some (.int 2 tk_push)))
    (a_put_for : PySem.W.nsIn K mainGlobals "put_for" = some (some (.ref f_put_for)))
    (l_put_for : K.lookup f_put_for = some ⟨oc_put_for, od_put_for, .func (PySem.W.fnOf "put_for" "put_for" (defArgs s_put_for) (defBody s_put_for) (defScope s_put_for) .none (.ref D_put_for) dc_put_for pm_put_for an_put_for cd_put_for ct_put_for), sl_put_for⟩)
    (c_put_for : PySem.W.codeIn K cd_put_for "put_for" = true)
    (k_put_for : PySem.W.keepIn K (.ref f_put_for) = true)
    {tk_put_for : Tok}
    (w_put_for : PySem.W.nsIn K D_put_for "arms" = some (some (.int 2 tk_put_for)))
    (a_e___init__ : PySem.W.findIn K (.ref CK) "__init__" = some (some (.ref f_e___init__)))
    (i_e___init__ : PySem.W.isFn K (.ref f_e___init__) = true)
    (l_e___init__ : K.lookup f_e___init__ = some ⟨oc_e___init__, od_e___init__, .func (PySem.W.fnOf "__init__" "Keeper.__init__" (defArgs s_e___init__) (defBody s_e___init__) (defScope s_e___init__) .none (.ref D_e___init__) dc_e___init__ pm_e___init__ an_e___init__ cd_e___init__ ct_e___init__), sl_e___init__⟩)
    (c_e___init__ : PySem.W.codeIn K cd_e___init__ "Keeper.__init__" = true)
    (k_e___init__ : PySem.W.keepIn K (.ref f_e___init__) = true)
    {tk_e___init__ : Tok}
    (w_e___init__ : PySem.W.nsIn K D_e___init__ "arms" = some (some (.int 2 tk_e___init__)))
    (a_e___len__ : PySem.W.findIn K (.ref CK) "__len__" = some (some (.ref f_e___len__)))
    (i_e___len__ : PySem.W.isFn K (.ref f_e___len__) = true)
    (n_e___len__ : PySem.W.fnIn K f_e___len__ = true)
    (l_e___len__ : K.lookup f_e___len__ = some ⟨oc_e___len__, od_e___len__, .func (PySem.W.fnOf "__len__" "Keeper.__len__" (defArgs s_e___len__) (defBody s_e___len__) (defScope s_e___len__) .none kV_e___len__ dc_e___len__ pm_e___len__ an_e___len__ cd_e___len__ ct_e___len__), sl_e___len__⟩)
    (c_e___len__ : PySem.W.codeIn K cd_e___len__ "Keeper.__len__" = true)
    (k_e___len__ : PySem.W.keepIn K (.ref f_e___len__) = true)
    (a_e___contains__ : PySem.W.findIn K (.ref CK) "__contains__" = some (some (.ref f_e___contains__)))
    (i_e___contains__ : PySem.W.isFn K (.ref f_e___contains__) = true)
    (n_e___contains__ : PySem.W.fnIn K f_e___contains__ = true)
    (l_e___contains__ : K.lookup f_e___contains__ = some ⟨oc_e___contains__, od_e___contains__, .func (PySem.W.fnOf "__contains__" "Keeper.__contains__" (defArgs s_e___contains__) (defBody s_e___contains__) (defScope s_e___contains__) .none kV_e___contains__ dc_e___contains__ pm_e___contains__ an_e___contains__ cd_e___contains__ ct_e___contains__), sl_e___contains__⟩)
    (c_e___contains__ : PySem.W.codeIn K cd_e___contains__ "Keeper.__contains__" = true)
    (k_e___contains__ : PySem.W.keepIn K (.ref f_e___contains__) = true)
    (a_e_heap : PySem.W.findIn K (.ref CK) "heap" = some (some (.ref p_e_heap)))
    (pg_e_heap : PySem.W.specialIn K (.ref p_e_heap) "__get__" = some (some (.builtin "property.__get__")))
    (pt_e_heap : PySem.W.takesIn K (.ref p_e_heap) = some true)
    (pr_e_heap : PySem.W.recIn K p_e_heap "property" = some (.ref f_e_heap :: rest_e_heap))
    (l_e_heap : K.lookup f_e_heap = some ⟨oc_e_heap, od_e_heap, .func (PySem.W.fnOf "heap" "Keeper.heap" (defArgs s_e_heap) (defBody s_e_heap) (defScope s_e_heap) .none kV_e_heap dc_e_heap pm_e_heap an_e_heap cd_e_heap ct_e_heap), sl_e_heap⟩)
    (c_e_heap : PySem.W.codeIn K cd_e_heap "Keeper.heap" = true)
    (k_e_heap : PySem.W.keepIn K (.ref f_e_heap) = true)
    (a_e_entered : PySem.W.findIn K (.ref CK) "entered" = some (some (.ref p_e_entered)))
    (pg_e_entered : PySem.W.specialIn K (.ref p_e_entered) "__get__" = some (some (.builtin "property.__get__")))
    (pt_e_entered : PySem.W.takesIn K (.ref p_e_entered) = some true)
    (pr_e_entered : PySem.W.recIn K p_e_entered "property" = some (.ref f_e_entered :: rest_e_entered))
    (l_e_entered : K.lookup f_e_entered = some ⟨oc_e_entered, od_e_entered, .func (PySem.W.fnOf "entered" "Keeper.entered" (defArgs s_e_entered) (defBody s_e_entered) (defScope s_e_entered) .none kV_e_entered dc_e_entered pm_e_entered an_e_entered cd_e_entered ct_e_entered), sl_e_entered⟩)
    (c_e_entered : PySem.W.codeIn K cd_e_entered "Keeper.entered" = true)
    (k_e_entered : PySem.W.keepIn K (.ref f_e_entered) = true)
    (a_e_see : PySem.W.findIn K (.ref CK) "see" = some (some (.ref f_e_see)))
    (i_e_see : PySem.W.isFn K (.ref f_e_see) = true)
    (l_e_see : K.lookup f_e_see = some ⟨oc_e_see, od_e_see, .func (PySem.W.fnOf "see" "Keeper.see" (defArgs s_e_see) (defBody s_e_see) (defScope s_e_see) .none kV_e_see dc_e_see pm_e_see an_e_see cd_e_see ct_e_see), sl_e_see⟩)
    (c_e_see : PySem.W.codeIn K cd_e_see "Keeper.see" = true)
    (k_e_see : PySem.W.keepIn K (.ref f_e_see) = true)
    (a_e_ascending : PySem.W.findIn K (.ref CK) "ascending" = some (some (.ref f_e_ascending)))
    (i_e_ascending : PySem.W.isFn K (.ref f_e_ascending) = true)
    (l_e_ascending : K.lookup f_e_ascending = some ⟨oc_e_ascending, od_e_ascending, .func (PySem.W.fnOf "ascending" "Keeper.ascending" (defArgs s_e_ascending) (defBody s_e_ascending) (defScope s_e_ascending) .none kV_e_ascending dc_e_ascending pm_e_ascending an_e_ascending cd_e_ascending ct_e_ascending), sl_e_ascending⟩)
    (c_e_ascending : PySem.W.codeIn K cd_e_ascending "Keeper.ascending" = true)
    (k_e_ascending : PySem.W.keepIn K (.ref f_e_ascending) = true)
    (a_changes : PySem.W.nsIn K mainGlobals "changes" = some (some (.ref f_changes)))
    (l_changes : K.lookup f_changes = some ⟨oc_changes, od_changes, .func (PySem.W.fnOf "changes" "changes" (defArgs s_changes) (defBody s_changes) (defScope s_changes) .none kV_changes dc_changes pm_changes an_changes cd_changes ct_changes), sl_changes⟩)
    (c_changes : PySem.W.codeIn K cd_changes "changes" = true)
    (k_changes : PySem.W.keepIn K (.ref f_changes) = true)
    (a__law_number : PySem.W.nsIn K mainGlobals "_law_number" = some (some (.ref f__law_number)))
    (l__law_number : K.lookup f__law_number = some ⟨oc__law_number, od__law_number, .func (PySem.W.fnOf "_law_number" "_law_number" (defArgs s__law_number) (defBody s__law_number) (defScope s__law_number) .none kV__law_number dc__law_number pm__law_number an__law_number cd__law_number ct__law_number), sl__law_number⟩)
    (c__law_number : PySem.W.codeIn K cd__law_number "_law_number" = true)
    (k__law_number : PySem.W.keepIn K (.ref f__law_number) = true)
    (a__law_row : PySem.W.nsIn K mainGlobals "_law_row" = some (some (.ref f__law_row)))
    (l__law_row : K.lookup f__law_row = some ⟨oc__law_row, od__law_row, .func (PySem.W.fnOf "_law_row" "_law_row" (defArgs s__law_row) (defBody s__law_row) (defScope s__law_row) .none kV__law_row dc__law_row pm__law_row an__law_row cd__law_row ct__law_row), sl__law_row⟩)
    (c__law_row : PySem.W.codeIn K cd__law_row "_law_row" = true)
    (k__law_row : PySem.W.keepIn K (.ref f__law_row) = true)
    (a__law_pushed : PySem.W.nsIn K mainGlobals "_law_pushed" = some (some (.ref f__law_pushed)))
    (l__law_pushed : K.lookup f__law_pushed = some ⟨oc__law_pushed, od__law_pushed, .func (PySem.W.fnOf "_law_pushed" "_law_pushed" (defArgs s__law_pushed) (defBody s__law_pushed) (defScope s__law_pushed) .none kV__law_pushed dc__law_pushed pm__law_pushed an__law_pushed cd__law_pushed ct__law_pushed), sl__law_pushed⟩)
    (c__law_pushed : PySem.W.codeIn K cd__law_pushed "_law_pushed" = true)
    (k__law_pushed : PySem.W.keepIn K (.ref f__law_pushed) = true)
    (a__law_put : PySem.W.nsIn K mainGlobals "_law_put" = some (some (.ref f__law_put)))
    (l__law_put : K.lookup f__law_put = some ⟨oc__law_put, od__law_put, .func (PySem.W.fnOf "_law_put" "_law_put" (defArgs s__law_put) (defBody s__law_put) (defScope s__law_put) .none kV__law_put dc__law_put pm__law_put an__law_put cd__law_put ct__law_put), sl__law_put⟩)
    (c__law_put : PySem.W.codeIn K cd__law_put "_law_put" = true)
    (k__law_put : PySem.W.keepIn K (.ref f__law_put) = true)
    (a__law_things_right : PySem.W.nsIn K mainGlobals "_law_things_right" = some (some (.ref f__law_things_right)))
    (l__law_things_right : K.lookup f__law_things_right = some ⟨oc__law_things_right, od__law_things_right, .func (PySem.W.fnOf "_law_things_right" "_law_things_right" (defArgs s__law_things_right) (defBody s__law_things_right) (defScope s__law_things_right) .none kV__law_things_right dc__law_things_right pm__law_things_right an__law_things_right cd__law_things_right ct__law_things_right), sl__law_things_right⟩)
    (c__law_things_right : PySem.W.codeIn K cd__law_things_right "_law_things_right" = true)
    (k__law_things_right : PySem.W.keepIn K (.ref f__law_things_right) = true)
    (a__law_right : PySem.W.nsIn K mainGlobals "_law_right" = some (some (.ref f__law_right)))
    (l__law_right : K.lookup f__law_right = some ⟨oc__law_right, od__law_right, .func (PySem.W.fnOf "_law_right" "_law_right" (defArgs s__law_right) (defBody s__law_right) (defScope s__law_right) .none kV__law_right dc__law_right pm__law_right an__law_right cd__law_right ct__law_right), sl__law_right⟩)
    (c__law_right : PySem.W.codeIn K cd__law_right "_law_right" = true)
    (k__law_right : PySem.W.keepIn K (.ref f__law_right) = true)
    (a_law : PySem.W.nsIn K mainGlobals "law" = some (some (.ref f_law)))
    (l_law : K.lookup f_law = some ⟨oc_law, od_law, .func (PySem.W.fnOf "law" "law" (defArgs s_law) (defBody s_law) (defScope s_law) .none kV_law dc_law pm_law an_law cd_law ct_law), sl_law⟩)
    (c_law : PySem.W.codeIn K cd_law "law" = true)
    (k_law : PySem.W.keepIn K (.ref f_law) = true)
    {tc_GREATEST_KEY : Tok}
    (q_GREATEST_KEY : PySem.W.nsIn K mainGlobals "GREATEST_KEY" = some (some (.int 1000000000 tc_GREATEST_KEY)))
    {tc_MOST_ARMS : Tok}
    (q_MOST_ARMS : PySem.W.nsIn K mainGlobals "MOST_ARMS" = some (some (.int 4 tc_MOST_ARMS)))
    {tc_MOST_PLACES : Tok}
    (q_MOST_PLACES : PySem.W.nsIn K mainGlobals "MOST_PLACES" = some (some (.int 12 tc_MOST_PLACES)))
    {tc_MOST_ROOM : Tok}
    (q_MOST_ROOM : PySem.W.nsIn K mainGlobals "MOST_ROOM" = some (some (.int 12 tc_MOST_ROOM)))
    (z_all : PySem.W.nsIn K mainGlobals "all" = some none)
    (z_bool : PySem.W.nsIn K mainGlobals "bool" = some none)
    (z_enumerate : PySem.W.nsIn K mainGlobals "enumerate" = some none)
    (z_int : PySem.W.nsIn K mainGlobals "int" = some none)
    (z_isinstance : PySem.W.nsIn K mainGlobals "isinstance" = some none)
    (z_iter : PySem.W.nsIn K mainGlobals "iter" = some none)
    (z_len : PySem.W.nsIn K mainGlobals "len" = some none)
    (z_list : PySem.W.nsIn K mainGlobals "list" = some none)
    (z_min : PySem.W.nsIn K mainGlobals "min" = some none)
    (z_range : PySem.W.nsIn K mainGlobals "range" = some none)
    (z_reversed : PySem.W.nsIn K mainGlobals "reversed" = some none)
    (z_sorted : PySem.W.nsIn K mainGlobals "sorted" = some none)
    (z_sum : PySem.W.nsIn K mainGlobals "sum" = some none)
    (z_tuple : PySem.W.nsIn K mainGlobals "tuple" = some none)
    (pg : PySem.W.plainGet K C Str.empty = true)
    (hd : PySem.W.hasDictIn K C = true)
    (po_ : PySem.W.plainOver K C = true)
    (sa : PySem.W.findIn K (.ref C) "__setattr__" = some (some (.builtin "object.__setattr__")))
    (na_nMany : PySem.W.findIn K (.ref C) "many" = some none)
    (na_nArms : PySem.W.findIn K (.ref C) "arms" = some none)
    (na_nPl : PySem.W.findIn K (.ref C) "_places" = some none)
    (mk : PySem.W.makesIn K C = true)
    (kc : PySem.W.keepIn K (.ref C) = true)
    (rd : PySem.W.readsIn K C (.type "type") = true)
    (ga : PySem.W.specialIn K (.ref C) "__getattribute__" = some (some (.builtin "type.__getattribute__")))
    (pgS : PySem.W.plainGet K CS Str.empty = true)
    (hdS : PySem.W.hasDictIn K CS = true)
    (po_S : PySem.W.plainOver K CS = true)
    (saS : PySem.W.findIn K (.ref CS) "__setattr__" = some (some (.builtin "object.__setattr__")))
    (na_nRow : PySem.W.findIn K (.ref CS) "row" = some none)
    (na_nWay : PySem.W.findIn K (.ref CS) "way" = some none)
    (na_nLooks : PySem.W.findIn K (.ref CS) "looks" = some none)
    (mkS : PySem.W.makesIn K CS = true)
    (kcS : PySem.W.keepIn K (.ref CS) = true)
    (pgK : PySem.W.plainGet K CK Str.empty = true)
    (hdK : PySem.W.hasDictIn K CK = true)
    (po_K : PySem.W.plainOver K CK = true)
    (saK : PySem.W.findIn K (.ref CK) "__setattr__" = some (some (.builtin "object.__setattr__")))
    (na_kRoom : PySem.W.findIn K (.ref CK) "room" = some none)
    (na_kArms : PySem.W.findIn K (.ref CK) "arms" = some none)
    (na_kHeap : PySem.W.findIn K (.ref CK) "_heap" = some none)
    (na_kEnt : PySem.W.findIn K (.ref CK) "_entered" = some none)
    (na_kMark : PySem.W.findIn K (.ref CK) "_mark" = some none)
    (mkK : PySem.W.makesIn K CK = true)
    (kcK : PySem.W.keepIn K (.ref CK) = true)
    (pgM : PySem.W.plainGet K CM Str.empty = true)
    (hdM : PySem.W.hasDictIn K CM = true)
    (po_M : PySem.W.plainOver K CM = true)
    (saM : PySem.W.findIn K (.ref CM) "__setattr__" = some (some (.builtin "object.__setattr__")))
    (oiM : PySem.W.findIn K (.ref CM) "__init__" = some (some (.builtin "object.__init__")))
    (otM : PySem.W.mroIn K CM (.type "object") = some true)
    (mkM : PySem.W.makesIn K CM = true)
    (kcM : PySem.W.keepIn K (.ref CM) = true)
    (hT_least_child : h.get? PP_least_child = some (PySem.W.tabObj #[])) (hC_least_child : PySem.W.codeHdIn K cc_least_child PP_least_child = true) (hN_least_child : K.lookup PP_least_child = none)
    : LamX.LawAtS l w K CX0 16 63 "script" mg fa h := by
  have e := hfa.symm.trans (PySem.W.mg_of X G a_law)
  cases e
  let A : Ad := { f_is_integer := f_is_integer, d_is_integer := (PySem.W.fnOf "is_integer" "is_integer" (defArgs s_is_integer) (defBody s_is_integer) (defScope s_is_integer) .none kV_is_integer dc_is_integer pm_is_integer an_is_integer cd_is_integer ct_is_integer), f_is_integer_from := f_is_integer_from, d_is_integer_from := (PySem.W.fnOf "is_integer_from" "is_integer_from" (defArgs s_is_integer_from) (defBody s_is_integer_from) (defScope s_is_integer_from) .none kV_is_integer_from dc_is_integer_from pm_is_integer_from an_is_integer_from cd_is_integer_from ct_is_integer_from), f_is_key := f_is_key, d_is_key := (PySem.W.fnOf "is_key" "is_key" (defArgs s_is_key) (defBody s_is_key) (defScope s_is_key) .none kV_is_key dc_is_key pm_is_key an_is_key cd_is_key ct_is_key), f_check_arms := f_check_arms, d_check_arms := (PySem.W.fnOf "check_arms" "check_arms" (defArgs s_check_arms) (defBody s_check_arms) (defScope s_check_arms) .none kV_check_arms dc_check_arms pm_check_arms an_check_arms cd_check_arms ct_check_arms), f_check_many := f_check_many, d_check_many := (PySem.W.fnOf "check_many" "check_many" (defArgs s_check_many) (defBody s_check_many) (defScope s_check_many) .none kV_check_many dc_check_many pm_check_many an_check_many cd_check_many ct_check_many), f_check_place := f_check_place, d_check_place := (PySem.W.fnOf "check_place" "check_place" (defArgs s_check_place) (defBody s_check_place) (defScope s_check_place) .none kV_check_place dc_check_place pm_check_place an_check_place cd_check_place ct_check_place), f_check_key := f_check_key, d_check_key := (PySem.W.fnOf "check_key" "check_key" (defArgs s_check_key) (defBody s_check_key) (defScope s_check_key) .none kV_check_key dc_check_key pm_check_key an_check_key cd_check_key ct_check_key), f_check_room := f_check_room, d_check_room := (PySem.W.fnOf "check_room" "check_room" (defArgs s_check_room) (defBody s_check_room) (defScope s_check_room) .none kV_check_room dc_check_room pm_check_room an_check_room cd_check_room ct_check_room), f_row_of := f_row_of, d_row_of := (PySem.W.fnOf "row_of" "row_of" (defArgs s_row_of) (defBody s_row_of) (defScope s_row_of) .none kV_row_of dc_row_of pm_row_of an_row_of cd_row_of ct_row_of), f_t___init__ := f_t___init__, d_t___init__ := (PySem.W.fnOf "__init__" "Tree.__init__" (defArgs s_t___init__) (defBody s_t___init__) (defScope s_t___init__) .none (.ref D_t___init__) dc_t___init__ pm_t___init__ an_t___init__ cd_t___init__ ct_t___init__), f_t_of := f_t_of, d_t_of := (PySem.W.fnOf "of" "Tree.of" (defArgs s_t_of) (defBody s_t_of) (defScope s_t_of) .none (.ref D_t_of) dc_t_of pm_t_of an_t_of cd_t_of ct_t_of), f_t___len__ := f_t___len__, d_t___len__ := (PySem.W.fnOf "__len__" "Tree.__len__" (defArgs s_t___len__) (defBody s_t___len__) (defScope s_t___len__) .none kV_t___len__ dc_t___len__ pm_t___len__ an_t___len__ cd_t___len__ ct_t___len__), f_t___iter__ := f_t___iter__, d_t___iter__ := (PySem.W.fnOf "__iter__" "Tree.__iter__" (defArgs s_t___iter__) (defBody s_t___iter__) (defScope s_t___iter__) .none kV_t___iter__ dc_t___iter__ pm_t___iter__ an_t___iter__ cd_t___iter__ ct_t___iter__), f_t___getitem__ := f_t___getitem__, d_t___getitem__ := (PySem.W.fnOf "__getitem__" "Tree.__getitem__" (defArgs s_t___getitem__) (defBody s_t___getitem__) (defScope s_t___getitem__) .none kV_t___getitem__ dc_t___getitem__ pm_t___getitem__ an_t___getitem__ cd_t___getitem__ ct_t___getitem__), f_t_parent := f_t_parent, d_t_parent := (PySem.W.fnOf "parent" "Tree.parent" (defArgs s_t_parent) (defBody s_t_parent) (defScope s_t_parent) .none kV_t_parent dc_t_parent pm_t_parent an_t_parent cd_t_parent ct_t_parent), f_t_way_to := f_t_way_to, d_t_way_to := (PySem.W.fnOf "way_to" "Tree.way_to" (defArgs s_t_way_to) (defBody s_t_way_to) (defScope s_t_way_to) .none kV_t_way_to dc_t_way_to pm_t_way_to an_t_way_to cd_t_way_to ct_t_way_to), f_faults := f_faults, d_faults := (PySem.W.fnOf "faults" "faults" (defArgs s_faults) (defBody s_faults) (defScope s_faults) .none (.ref D_faults) dc_faults pm_faults an_faults cd_faults ct_faults), f_heap_of := f_heap_of, d_heap_of := (PySem.W.fnOf "heap_of" "heap_of" (defArgs s_heap_of) (defBody s_heap_of) (defScope s_heap_of) .none kV_heap_of dc_heap_of pm_heap_of an_heap_of cd_heap_of ct_heap_of), f_check_filled := f_check_filled, d_check_filled := (PySem.W.fnOf "check_filled" "check_filled" (defArgs s_check_filled) (defBody s_check_filled) (defScope s_check_filled) .none kV_check_filled dc_check_filled pm_check_filled an_check_filled cd_check_filled ct_check_filled), f_z___init__ := f_z___init__, d_z___init__ := (PySem.W.fnOf "__init__" "Sift.__init__" (defArgs s_z___init__) (defBody s_z___init__) (defScope s_z___init__) .none kV_z___init__ dc_z___init__ pm_z___init__ an_z___init__ cd_z___init__ ct_z___init__), f_sift_up := f_sift_up, d_sift_up := (PySem.W.fnOf "sift_up" "sift_up" (defArgs s_sift_up) (defBody s_sift_up) (defScope s_sift_up) .none (.ref D_sift_up) dc_sift_up pm_sift_up an_sift_up cd_sift_up ct_sift_up), f_sift_down := f_sift_down, d_sift_down := (PySem.W.fnOf "sift_down" "sift_down" (defArgs s_sift_down) (defBody s_sift_down) (defScope s_sift_down) .none (.ref D_sift_down) dc_sift_down pm_sift_down an_sift_down cd_sift_down ct_sift_down), f_least_child := f_least_child, d_least_child := (PySem.W.fnOf "least_child" "least_child" (defArgs s_least_child) (defBody s_least_child) (defScope s_least_child) .none kV_least_child dc_least_child pm_least_child an_least_child (.ref cc_least_child) ct_least_child), f_push := f_push, d_push := (PySem.W.fnOf "push" "push" (defArgs s_push) (defBody s_push) (defScope s_push) .none (.ref D_push) dc_push pm_push an_push cd_push ct_push), f_put_for := f_put_for, d_put_for := (PySem.W.fnOf "put_for" "put_for" (defArgs s_put_for) (defBody s_put_for) (defScope s_put_for) .none (.ref D_put_for) dc_put_for pm_put_for an_put_for cd_put_for ct_put_for), f_e___init__ := f_e___init__, d_e___init__ := (PySem.W.fnOf "__init__" "Keeper.__init__" (defArgs s_e___init__) (defBody s_e___init__) (defScope s_e___init__) .none (.ref D_e___init__) dc_e___init__ pm_e___init__ an_e___init__ cd_e___init__ ct_e___init__), f_e___len__ := f_e___len__, d_e___len__ := (PySem.W.fnOf "__len__" "Keeper.__len__" (defArgs s_e___len__) (defBody s_e___len__) (defScope s_e___len__) .none kV_e___len__ dc_e___len__ pm_e___len__ an_e___len__ cd_e___len__ ct_e___len__), f_e___contains__ := f_e___contains__, d_e___contains__ := (PySem.W.fnOf "__contains__" "Keeper.__contains__" (defArgs s_e___contains__) (defBody s_e___contains__) (defScope s_e___contains__) .none kV_e___contains__ dc_e___contains__ pm_e___contains__ an_e___contains__ cd_e___contains__ ct_e___contains__), f_e_heap := f_e_heap, d_e_heap := (PySem.W.fnOf "heap" "Keeper.heap" (defArgs s_e_heap) (defBody s_e_heap) (defScope s_e_heap) .none kV_e_heap dc_e_heap pm_e_heap an_e_heap cd_e_heap ct_e_heap), f_e_entered := f_e_entered, d_e_entered := (PySem.W.fnOf "entered" "Keeper.entered" (defArgs s_e_entered) (defBody s_e_entered) (defScope s_e_entered) .none kV_e_entered dc_e_entered pm_e_entered an_e_entered cd_e_entered ct_e_entered), f_e_see := f_e_see, d_e_see := (PySem.W.fnOf "see" "Keeper.see" (defArgs s_e_see) (defBody s_e_see) (defScope s_e_see) .none kV_e_see dc_e_see pm_e_see an_e_see cd_e_see ct_e_see), f_e_ascending := f_e_ascending, d_e_ascending := (PySem.W.fnOf "ascending" "Keeper.ascending" (defArgs s_e_ascending) (defBody s_e_ascending) (defScope s_e_ascending) .none kV_e_ascending dc_e_ascending pm_e_ascending an_e_ascending cd_e_ascending ct_e_ascending), f_changes := f_changes, d_changes := (PySem.W.fnOf "changes" "changes" (defArgs s_changes) (defBody s_changes) (defScope s_changes) .none kV_changes dc_changes pm_changes an_changes cd_changes ct_changes), f__law_number := f__law_number, d__law_number := (PySem.W.fnOf "_law_number" "_law_number" (defArgs s__law_number) (defBody s__law_number) (defScope s__law_number) .none kV__law_number dc__law_number pm__law_number an__law_number cd__law_number ct__law_number), f__law_row := f__law_row, d__law_row := (PySem.W.fnOf "_law_row" "_law_row" (defArgs s__law_row) (defBody s__law_row) (defScope s__law_row) .none kV__law_row dc__law_row pm__law_row an__law_row cd__law_row ct__law_row), f__law_pushed := f__law_pushed, d__law_pushed := (PySem.W.fnOf "_law_pushed" "_law_pushed" (defArgs s__law_pushed) (defBody s__law_pushed) (defScope s__law_pushed) .none kV__law_pushed dc__law_pushed pm__law_pushed an__law_pushed cd__law_pushed ct__law_pushed), f__law_put := f__law_put, d__law_put := (PySem.W.fnOf "_law_put" "_law_put" (defArgs s__law_put) (defBody s__law_put) (defScope s__law_put) .none kV__law_put dc__law_put pm__law_put an__law_put cd__law_put ct__law_put), f__law_things_right := f__law_things_right, d__law_things_right := (PySem.W.fnOf "_law_things_right" "_law_things_right" (defArgs s__law_things_right) (defBody s__law_things_right) (defScope s__law_things_right) .none kV__law_things_right dc__law_things_right pm__law_things_right an__law_things_right cd__law_things_right ct__law_things_right), f__law_right := f__law_right, d__law_right := (PySem.W.fnOf "_law_right" "_law_right" (defArgs s__law_right) (defBody s__law_right) (defScope s__law_right) .none kV__law_right dc__law_right pm__law_right an__law_right cd__law_right ct__law_right), f_law := fa, d_law := (PySem.W.fnOf "law" "law" (defArgs s_law) (defBody s_law) (defScope s_law) .none kV_law dc_law pm_law an_law cd_law ct_law), p_e_heap := p_e_heap, p_e_entered := p_e_entered, C := C, CS := CS, CK := CK, CM := CM, po := po, c_least_child := cc_least_child, P_least_child := PP_least_child }
  have T : Tx K mg A := {
    F_is_integer := (fun_mk (st := s_is_integer) l_is_integer c_is_integer k_is_integer)
    m_is_integer := PySem.W.mg_of X G a_is_integer
    F_is_integer_from := (fun_mk (st := s_is_integer_from) l_is_integer_from c_is_integer_from k_is_integer_from)
    m_is_integer_from := PySem.W.mg_of X G a_is_integer_from
    F_is_key := (fun_mk (st := s_is_key) l_is_key c_is_key k_is_key)
    m_is_key := PySem.W.mg_of X G a_is_key
    F_check_arms := (fun_mk (st := s_check_arms) l_check_arms c_check_arms k_check_arms)
    m_check_arms := PySem.W.mg_of X G a_check_arms
    F_check_many := (fun_mk (st := s_check_many) l_check_many c_check_many k_check_many)
    m_check_many := PySem.W.mg_of X G a_check_many
    F_check_place := (fun_mk (st := s_check_place) l_check_place c_check_place k_check_place)
    m_check_place := PySem.W.mg_of X G a_check_place
    F_check_key := (fun_mk (st := s_check_key) l_check_key c_check_key k_check_key)
    m_check_key := PySem.W.mg_of X G a_check_key
    F_check_room := (fun_mk (st := s_check_room) l_check_room c_check_room k_check_room)
    m_check_room := PySem.W.mg_of X G a_check_room
    F_row_of := (fun_mk (st := s_row_of) l_row_of c_row_of k_row_of)
    m_row_of := PySem.W.mg_of X G a_row_of
    F_t___init__ := ⟨⟨_, _, _, _, _, _, _, _, _, _, rfl, l_t___init__, c_t___init__, .inl ⟨rfl, rfl⟩, .inr ⟨_, rfl, fun q hq => by rw [List.mem_singleton.mp hq]; exact ⟨_, w_t___init__, relI _ _⟩⟩⟩, k_t___init__⟩
    F_t_of := ⟨⟨_, _, _, _, _, _, _, _, _, _, rfl, l_t_of, c_t_of, .inl ⟨rfl, rfl⟩, .inr ⟨_, rfl, fun q hq => by rw [List.mem_singleton.mp hq]; exact ⟨_, w_t_of, relI _ _⟩⟩⟩, k_t_of⟩
    F_t___len__ := (fun_mk (st := s_t___len__) l_t___len__ c_t___len__ k_t___len__)
    D_t___len__ := ⟨a_t___len__, i_t___len__, n_t___len__⟩
    F_t___iter__ := (fun_mk (st := s_t___iter__) l_t___iter__ c_t___iter__ k_t___iter__)
    D_t___iter__ := ⟨a_t___iter__, i_t___iter__, n_t___iter__⟩
    F_t___getitem__ := (fun_mk (st := s_t___getitem__) l_t___getitem__ c_t___getitem__ k_t___getitem__)
    D_t___getitem__ := ⟨a_t___getitem__, i_t___getitem__, n_t___getitem__⟩
    F_t_parent := (fun_mk (st := s_t_parent) l_t_parent c_t_parent k_t_parent)
    M_t_parent := ⟨a_t_parent, i_t_parent, k_t_parent⟩
    F_t_way_to := (fun_mk (st := s_t_way_to) l_t_way_to c_t_way_to k_t_way_to)
    M_t_way_to := ⟨a_t_way_to, i_t_way_to, k_t_way_to⟩
    F_faults := ⟨⟨_, _, _, _, _, _, _, _, _, _, rfl, l_faults, c_faults, .inl ⟨rfl, rfl⟩, .inr ⟨_, rfl, fun q hq => by rw [List.mem_singleton.mp hq]; exact ⟨_, w_faults, relI _ _⟩⟩⟩, k_faults⟩
    m_faults := PySem.W.mg_of X G a_faults
    F_heap_of := (fun_mk (st := s_heap_of) l_heap_of c_heap_of k_heap_of)
    m_heap_of := PySem.W.mg_of X G a_heap_of
    F_check_filled := (fun_mk (st := s_check_filled) l_check_filled c_check_filled k_check_filled)
    m_check_filled := PySem.W.mg_of X G a_check_filled
    F_z___init__ := (fun_mk (st := s_z___init__) l_z___init__ c_z___init__ k_z___init__)
    F_sift_up := ⟨⟨_, _, _, _, _, _, _, _, _, _, rfl, l_sift_up, c_sift_up, .inl ⟨rfl, rfl⟩, .inr ⟨_, rfl, fun q hq => by rw [List.mem_singleton.mp hq]; exact ⟨_, w_sift_up, relI _ _⟩⟩⟩, k_sift_up⟩
    m_sift_up := PySem.W.mg_of X G a_sift_up
    F_sift_down := ⟨⟨_, _, _, _, _, _, _, _, _, _, rfl, l_sift_down, c_sift_down, .inl ⟨rfl, rfl⟩, .inr ⟨_, rfl, fun q hq => by rw [List.mem_singleton.mp hq]; exact ⟨_, w_sift_down, relI _ _⟩⟩⟩, k_sift_down⟩
    m_sift_down := PySem.W.mg_of X G a_sift_down
    L_least_child := ⟨_, _, _, _, _, _, _, _, rfl, l_least_child, c_least_child⟩
    F_least_child := (fun_mk (st := s_least_child) l_least_child c_least_child k_least_child)
    m_least_child := PySem.W.mg_of X G a_least_child
    F_push := ⟨⟨_, _, _, _, _, _, _, _, _, _, rfl, l_push, c_push, .inl ⟨rfl, rfl⟩, .inr ⟨_, rfl, fun q hq => by rw [List.mem_singleton.mp hq]; exact ⟨_, w_push, relI _ _⟩⟩⟩, k_push⟩
    m_push := PySem.W.mg_of X G a_push
    F_put_for := ⟨⟨_, _, _, _, _, _, _, _, _, _, rfl, l_put_for, c_put_for, .inl ⟨rfl, rfl⟩, .inr ⟨_, rfl, fun q hq => by rw [List.mem_singleton.mp hq]; exact ⟨_, w_put_for, relI _ _⟩⟩⟩, k_put_for⟩
    m_put_for := PySem.W.mg_of X G a_put_for
    F_e___init__ := ⟨⟨_, _, _, _, _, _, _, _, _, _, rfl, l_e___init__, c_e___init__, .inl ⟨rfl, rfl⟩, .inr ⟨_, rfl, fun q hq => by rw [List.mem_singleton.mp hq]; exact ⟨_, w_e___init__, relI _ _⟩⟩⟩, k_e___init__⟩
    F_e___len__ := (fun_mk (st := s_e___len__) l_e___len__ c_e___len__ k_e___len__)
    D_e___len__ := ⟨a_e___len__, i_e___len__, n_e___len__⟩
    F_e___contains__ := (fun_mk (st := s_e___contains__) l_e___contains__ c_e___contains__ k_e___contains__)
    D_e___contains__ := ⟨a_e___contains__, i_e___contains__, n_e___contains__⟩
    F_e_heap := (fun_mk (st := s_e_heap) l_e_heap c_e_heap k_e_heap)
    P_e_heap := ⟨a_e_heap, pg_e_heap, pt_e_heap, ⟨_, pr_e_heap⟩⟩
    F_e_entered := (fun_mk (st := s_e_entered) l_e_entered c_e_entered k_e_entered)
    P_e_entered := ⟨a_e_entered, pg_e_entered, pt_e_entered, ⟨_, pr_e_entered⟩⟩
    F_e_see := (fun_mk (st := s_e_see) l_e_see c_e_see k_e_see)
    M_e_see := ⟨a_e_see, i_e_see, k_e_see⟩
    F_e_ascending := (fun_mk (st := s_e_ascending) l_e_ascending c_e_ascending k_e_ascending)
    M_e_ascending := ⟨a_e_ascending, i_e_ascending, k_e_ascending⟩
    F_changes := (fun_mk (st := s_changes) l_changes c_changes k_changes)
    m_changes := PySem.W.mg_of X G a_changes
    F__law_number := (fun_mk (st := s__law_number) l__law_number c__law_number k__law_number)
    m__law_number := PySem.W.mg_of X G a__law_number
    F__law_row := (fun_mk (st := s__law_row) l__law_row c__law_row k__law_row)
    m__law_row := PySem.W.mg_of X G a__law_row
    F__law_pushed := (fun_mk (st := s__law_pushed) l__law_pushed c__law_pushed k__law_pushed)
    m__law_pushed := PySem.W.mg_of X G a__law_pushed
    F__law_put := (fun_mk (st := s__law_put) l__law_put c__law_put k__law_put)
    m__law_put := PySem.W.mg_of X G a__law_put
    F__law_things_right := (fun_mk (st := s__law_things_right) l__law_things_right c__law_things_right k__law_things_right)
    m__law_things_right := PySem.W.mg_of X G a__law_things_right
    F__law_right := (fun_mk (st := s__law_right) l__law_right c__law_right k__law_right)
    m__law_right := PySem.W.mg_of X G a__law_right
    F_law := (fun_mk (st := s_law) l_law c_law k_law)
    m_law := PySem.W.mg_of X G a_law
    c_GREATEST_KEY := .inr ⟨_, PySem.W.mg_of X G q_GREATEST_KEY⟩
    c_MOST_ARMS := .inr ⟨_, PySem.W.mg_of X G q_MOST_ARMS⟩
    c_MOST_PLACES := .inr ⟨_, PySem.W.mg_of X G q_MOST_PLACES⟩
    c_MOST_ROOM := .inr ⟨_, PySem.W.mg_of X G q_MOST_ROOM⟩
    g_all := PySem.W.mg_none_of X G z_all
    g_bool := PySem.W.mg_none_of X G z_bool
    g_enumerate := PySem.W.mg_none_of X G z_enumerate
    g_int := PySem.W.mg_none_of X G z_int
    g_isinstance := PySem.W.mg_none_of X G z_isinstance
    g_iter := PySem.W.mg_none_of X G z_iter
    g_len := PySem.W.mg_none_of X G z_len
    g_list := PySem.W.mg_none_of X G z_list
    g_min := PySem.W.mg_none_of X G z_min
    g_range := PySem.W.mg_none_of X G z_range
    g_reversed := PySem.W.mg_none_of X G z_reversed
    g_sorted := PySem.W.mg_none_of X G z_sorted
    g_sum := PySem.W.mg_none_of X G z_sum
    g_tuple := PySem.W.mg_none_of X G z_tuple
    cT := ⟨pg, hd, po_, sa⟩
    nMany := na_nMany
    nArms := na_nArms
    nPl := na_nPl
    mC := PySem.W.mg_of X G aC
    mkC := ⟨mk, a_t___init__, i_t___init__, kc⟩
    cr := ⟨rd, ga⟩
    cof := ⟨a_t_of, ⟨_, r_t_of⟩, n_t_of⟩
    cTS := ⟨pgS, hdS, po_S, saS⟩
    nRow := na_nRow
    nWay := na_nWay
    nLooks := na_nLooks
    mCS := PySem.W.mg_of X G aCS
    mkCS := ⟨mkS, a_z___init__, i_z___init__, kcS⟩
    cTK := ⟨pgK, hdK, po_K, saK⟩
    kRoom := na_kRoom
    kArms := na_kArms
    kHeap := na_kHeap
    kEnt := na_kEnt
    kMark := na_kMark
    mCK := PySem.W.mg_of X G aCK
    mkCK := ⟨mkK, a_e___init__, i_e___init__, kcK⟩
    cTM := ⟨pgM, hdM, po_M, saM⟩
    mCM := PySem.W.mg_of X G aCM
    mkCM := ⟨mkM, oiM, otM, kcM⟩
  }
  refine ⟨A.d_law, [(cc_least_child, PP_least_child)], spLaw K A, fun p hp => by
    simp only [List.mem_cons, List.not_mem_nil, or_false] at hp
    rcases hp with rfl
    · exact hT_least_child, ?_, ?_, fun s v => .of_eq rfl, fun H a ns hl hb hH hS => ⟨a, ns, rfl, hS, hl, fun p hp => ?_, fun _ => rfl⟩, fun base _ _ hTB => ok_law T (hTB (cc_least_child, PP_least_child) (by simp))⟩
  · exact fun p hp => by
      simp only [List.mem_cons, List.not_mem_nil, or_false] at hp
      rcases hp with rfl
      · exact hN_least_child
  · exact fun p hp => by
      simp only [List.mem_cons, List.not_mem_nil, or_false] at hp
      rcases hp with rfl
      · exact PySem.W.codeHd_of_K X hC_least_child
  · unfold TT at hp
    simp only [List.mem_cons, List.not_mem_nil, or_false] at hp
    rcases hp with rfl
    · exact LamX.TabS.nil (hH (cc_least_child, PP_least_child) (by simp))
theorem walk {l : PySem.W.OpenLaw} {q : Program} {loose : List Str} {XP : (Str → Option Value) → Heap → Prop} {YP : World → Heap → Prop} {d : DefRec} {K : Params → PySem.W.Frag} (hn : l.most = some 63) (hdf : d.params.defaults = [])
    (hY : ∀ (w : World) (h : Heap), YP w h → (K w.params).In h)
    (F : ∀ (w : World) (mg : Str → Option Value) (fa : Addr) (h : Heap), YP w h → (K w.params).In h → h.Ns mainGlobals mg → mg d.name = some (.ref fa) → LamX.LawAtS l w (K w.params) CX0 16 63 "script" mg fa h) :
    PySem.W.WalkO q loose XP YP l.row.toRowW d [] (fun f vs => PySem.call f vs) :=
  LamX.walk_ofTs (n := 63) (k := 16) (x := "script") (CX := fun _ => CX0) hn (by decide) hdf ⟨rfl, by decide, by decide⟩ hY F fun _ _ _ _ _ z => z
end Tw

open PySem PySem.W PyProof.Rows in
set_option maxRecDepth 100000 in
set_option maxHeartbeats 0 in
theorem PySem.Challenge.cw_heaprows_k58_whole_keepers_holds : PySem.Challenge.rw_heaprows_k58_whole_keepers.Holds := by
  w_on; o_law; k_head; (case hw => w_witness2)
  k_fill
  refine Tw.walk (l := PySem.Challenge.rw_heaprows_k58_whole_keepers) rfl rfl (fun w h Y => PySem.W.km_in_of Y) ?F
  case F =>
    intro w mg fa h Y KX G hmg
    have hT8 := PySem.W.km_tabs_of Y
    refine' Tw.all_mk KX G hmg ?aC ?aCS ?aCK ?aCM ?a_is_integer ?l_is_integer ?c_is_integer ?k_is_integer ?a_is_integer_from ?l_is_integer_from ?c_is_integer_from ?k_is_integer_from ?a_is_key ?l_is_key ?c_is_key ?k_is_key ?a_check_arms ?l_check_arms ?c_check_arms ?k_check_arms ?a_check_many ?l_check_many ?c_check_many ?k_check_many ?a_check_place ?l_check_place ?c_check_place ?k_check_place ?a_check_key ?l_check_key ?c_check_key ?k_check_key ?a_check_room ?l_check_room ?c_check_room ?k_check_room ?a_row_of ?l_row_of ?c_row_of ?k_row_of ?a_t___init__ ?i_t___init__ ?l_t___init__ ?c_t___init__ ?k_t___init__ ?w_t___init__ ?a_t_of ?r_t_of ?n_t_of ?l_t_of ?c_t_of ?k_t_of ?w_t_of ?a_t___len__ ?i_t___len__ ?n_t___len__ ?l_t___len__ ?c_t___len__ ?k_t___len__ ?a_t___iter__ ?i_t___iter__ ?n_t___iter__ ?l_t___iter__ ?c_t___iter__ ?k_t___iter__ ?a_t___getitem__ ?i_t___getitem__ ?n_t___getitem__ ?l_t___getitem__ ?c_t___getitem__ ?k_t___getitem__ ?a_t_parent ?i_t_parent ?l_t_parent ?c_t_parent ?k_t_parent ?a_t_way_to ?i_t_way_to ?l_t_way_to ?c_t_way_to ?k_t_way_to ?a_faults ?l_faults ?c_faults ?k_faults ?w_faults ?a_heap_of ?l_heap_of ?c_heap_of ?k_heap_of ?a_check_filled ?l_check_filled ?c_check_filled ?k_check_filled ?a_z___init__ ?i_z___init__ ?l_z___init__ ?c_z___init__ ?k_z___init__ ?a_sift_up ?l_sift_up ?c_sift_up ?k_sift_up ?w_sift_up ?a_sift_down ?l_sift_down ?c_sift_down ?k_sift_down ?w_sift_down ?a_least_child ?l_least_child ?c_least_child ?k_least_child ?a_push ?l_push ?c_push ?k_push ?w_push ?a_put_for ?l_put_for ?c_put_for ?k_put_for ?w_put_for ?a_e___init__ ?i_e___init__ ?l_e___init__ ?c_e___init__ ?k_e___init__ ?w_e___init__ ?a_e___len__ ?i_e___len__ ?n_e___len__ ?l_e___len__ ?c_e___len__ ?k_e___len__ ?a_e___contains__ ?i_e___contains__ ?n_e___contains__ ?l_e___contains__ ?c_e___contains__ ?k_e___contains__ ?a_e_heap ?pg_e_heap ?pt_e_heap ?pr_e_heap ?l_e_heap ?c_e_heap ?k_e_heap ?a_e_entered ?pg_e_entered ?pt_e_entered ?pr_e_entered ?l_e_entered ?c_e_entered ?k_e_entered ?a_e_see ?i_e_see ?l_e_see ?c_e_see ?k_e_see ?a_e_ascending ?i_e_ascending ?l_e_ascending ?c_e_ascending ?k_e_ascending ?a_changes ?l_changes ?c_changes ?k_changes ?a__law_number ?l__law_number ?c__law_number ?k__law_number ?a__law_row ?l__law_row ?c__law_row ?k__law_row ?a__law_pushed ?l__law_pushed ?c__law_pushed ?k__law_pushed ?a__law_put ?l__law_put ?c__law_put ?k__law_put ?a__law_things_right ?l__law_things_right ?c__law_things_right ?k__law_things_right ?a__law_right ?l__law_right ?c__law_right ?k__law_right ?a_law ?l_law ?c_law ?k_law ?q_GREATEST_KEY ?q_MOST_ARMS ?q_MOST_PLACES ?q_MOST_ROOM ?z_all ?z_bool ?z_enumerate ?z_int ?z_isinstance ?z_iter ?z_len ?z_list ?z_min ?z_range ?z_reversed ?z_sorted ?z_sum ?z_tuple ?pg ?hd ?po_ ?sa ?na_nMany ?na_nArms ?na_nPl ?mk ?kc ?rd ?ga ?pgS ?hdS ?po_S ?saS ?na_nRow ?na_nWay ?na_nLooks ?mkS ?kcS ?pgK ?hdK ?po_K ?saK ?na_kRoom ?na_kArms ?na_kHeap ?na_kEnt ?na_kMark ?mkK ?kcK ?pgM ?hdM ?po_M ?saM ?oiM ?otM ?mkM ?kcM (hT8 _ (.head _)) (by kernel_rfl) (by kernel_rfl)
    (case aC => k_is)
    (case aCS => k_is)
    (case aCK => k_is)
    (case aCM => k_is)
    (case a_is_integer => k_is)
    (case l_is_integer => k_is)
    (case c_is_integer => k_is)
    (case k_is_integer => k_is)
    (case a_is_integer_from => k_is)
    (case l_is_integer_from => k_is)
    (case c_is_integer_from => k_is)
    (case k_is_integer_from => k_is)
    (case a_is_key => k_is)
    (case l_is_key => k_is)
    (case c_is_key => k_is)
    (case k_is_key => k_is)
    (case a_check_arms => k_is)
    (case l_check_arms => k_is)
    (case c_check_arms => k_is)
    (case k_check_arms => k_is)
    (case a_check_many => k_is)
    (case l_check_many => k_is)
    (case c_check_many => k_is)
    (case k_check_many => k_is)
    (case a_check_place => k_is)
    (case l_check_place => k_is)
    (case c_check_place => k_is)
    (case k_check_place => k_is)
    (case a_check_key => k_is)
    (case l_check_key => k_is)
    (case c_check_key => k_is)
    (case k_check_key => k_is)
    (case a_check_room => k_is)
    (case l_check_room => k_is)
    (case c_check_room => k_is)
    (case k_check_room => k_is)
    (case a_row_of => k_is)
    (case l_row_of => k_is)
    (case c_row_of => k_is)
    (case k_row_of => k_is)
    (case a_t___init__ => k_is)
    (case i_t___init__ => k_is)
    (case l_t___init__ => k_is)
    (case c_t___init__ => k_is)
    (case k_t___init__ => k_is)
    (case w_t___init__ => k_is)
    (case a_t_of => k_is)
    (case r_t_of => k_is)
    (case n_t_of => k_is)
    (case l_t_of => k_is)
    (case c_t_of => k_is)
    (case k_t_of => k_is)
    (case w_t_of => k_is)
    (case a_t___len__ => k_is)
    (case i_t___len__ => k_is)
    (case n_t___len__ => k_is)
    (case l_t___len__ => k_is)
    (case c_t___len__ => k_is)
    (case k_t___len__ => k_is)
    (case a_t___iter__ => k_is)
    (case i_t___iter__ => k_is)
    (case n_t___iter__ => k_is)
    (case l_t___iter__ => k_is)
    (case c_t___iter__ => k_is)
    (case k_t___iter__ => k_is)
    (case a_t___getitem__ => k_is)
    (case i_t___getitem__ => k_is)
    (case n_t___getitem__ => k_is)
    (case l_t___getitem__ => k_is)
    (case c_t___getitem__ => k_is)
    (case k_t___getitem__ => k_is)
    (case a_t_parent => k_is)
    (case i_t_parent => k_is)
    (case l_t_parent => k_is)
    (case c_t_parent => k_is)
    (case k_t_parent => k_is)
    (case a_t_way_to => k_is)
    (case i_t_way_to => k_is)
    (case l_t_way_to => k_is)
    (case c_t_way_to => k_is)
    (case k_t_way_to => k_is)
    (case a_faults => k_is)
    (case l_faults => k_is)
    (case c_faults => k_is)
    (case k_faults => k_is)
    (case w_faults => k_is)
    (case a_heap_of => k_is)
    (case l_heap_of => k_is)
    (case c_heap_of => k_is)
    (case k_heap_of => k_is)
    (case a_check_filled => k_is)
    (case l_check_filled => k_is)
    (case c_check_filled => k_is)
    (case k_check_filled => k_is)
    (case a_z___init__ => k_is)
    (case i_z___init__ => k_is)
    (case l_z___init__ => k_is)
    (case c_z___init__ => k_is)
    (case k_z___init__ => k_is)
    (case a_sift_up => k_is)
    (case l_sift_up => k_is)
    (case c_sift_up => k_is)
    (case k_sift_up => k_is)
    (case w_sift_up => k_is)
    (case a_sift_down => k_is)
    (case l_sift_down => k_is)
    (case c_sift_down => k_is)
    (case k_sift_down => k_is)
    (case w_sift_down => k_is)
    (case a_least_child => k_is)
    (case l_least_child => k_is)
    (case c_least_child => k_is)
    (case k_least_child => k_is)
    (case a_push => k_is)
    (case l_push => k_is)
    (case c_push => k_is)
    (case k_push => k_is)
    (case w_push => k_is)
    (case a_put_for => k_is)
    (case l_put_for => k_is)
    (case c_put_for => k_is)
    (case k_put_for => k_is)
    (case w_put_for => k_is)
    (case a_e___init__ => k_is)
    (case i_e___init__ => k_is)
    (case l_e___init__ => k_is)
    (case c_e___init__ => k_is)
    (case k_e___init__ => k_is)
    (case w_e___init__ => k_is)
    (case a_e___len__ => k_is)
    (case i_e___len__ => k_is)
    (case n_e___len__ => k_is)
    (case l_e___len__ => k_is)
    (case c_e___len__ => k_is)
    (case k_e___len__ => k_is)
    (case a_e___contains__ => k_is)
    (case i_e___contains__ => k_is)
    (case n_e___contains__ => k_is)
    (case l_e___contains__ => k_is)
    (case c_e___contains__ => k_is)
    (case k_e___contains__ => k_is)
    (case a_e_heap => k_is)
    (case pg_e_heap => k_is)
    (case pt_e_heap => k_is)
    (case pr_e_heap => k_is)
    (case l_e_heap => k_is)
    (case c_e_heap => k_is)
    (case k_e_heap => k_is)
    (case a_e_entered => k_is)
    (case pg_e_entered => k_is)
    (case pt_e_entered => k_is)
    (case pr_e_entered => k_is)
    (case l_e_entered => k_is)
    (case c_e_entered => k_is)
    (case k_e_entered => k_is)
    (case a_e_see => k_is)
    (case i_e_see => k_is)
    (case l_e_see => k_is)
    (case c_e_see => k_is)
    (case k_e_see => k_is)
    (case a_e_ascending => k_is)
    (case i_e_ascending => k_is)
    (case l_e_ascending => k_is)
    (case c_e_ascending => k_is)
    (case k_e_ascending => k_is)
    (case a_changes => k_is)
    (case l_changes => k_is)
    (case c_changes => k_is)
    (case k_changes => k_is)
    (case a__law_number => k_is)
    (case l__law_number => k_is)
    (case c__law_number => k_is)
    (case k__law_number => k_is)
    (case a__law_row => k_is)
    (case l__law_row => k_is)
    (case c__law_row => k_is)
    (case k__law_row => k_is)
    (case a__law_pushed => k_is)
    (case l__law_pushed => k_is)
    (case c__law_pushed => k_is)
    (case k__law_pushed => k_is)
    (case a__law_put => k_is)
    (case l__law_put => k_is)
    (case c__law_put => k_is)
    (case k__law_put => k_is)
    (case a__law_things_right => k_is)
    (case l__law_things_right => k_is)
    (case c__law_things_right => k_is)
    (case k__law_things_right => k_is)
    (case a__law_right => k_is)
    (case l__law_right => k_is)
    (case c__law_right => k_is)
    (case k__law_right => k_is)
    (case a_law => k_is)
    (case l_law => k_is)
    (case c_law => k_is)
    (case k_law => k_is)
    (case q_GREATEST_KEY => k_is)
    (case q_MOST_ARMS => k_is)
    (case q_MOST_PLACES => k_is)
    (case q_MOST_ROOM => k_is)
    (case z_all => k_is)
    (case z_bool => k_is)
    (case z_enumerate => k_is)
    (case z_int => k_is)
    (case z_isinstance => k_is)
    (case z_iter => k_is)
    (case z_len => k_is)
    (case z_list => k_is)
    (case z_min => k_is)
    (case z_range => k_is)
    (case z_reversed => k_is)
    (case z_sorted => k_is)
    (case z_sum => k_is)
    (case z_tuple => k_is)
    (case pg => k_is)
    (case hd => k_is)
    (case po_ => k_is)
    (case sa => k_is)
    (case na_nMany => k_is)
    (case na_nArms => k_is)
    (case na_nPl => k_is)
    (case mk => k_is)
    (case kc => k_is)
    (case rd => k_is)
    (case ga => k_is)
    (case pgS => k_is)
    (case hdS => k_is)
    (case po_S => k_is)
    (case saS => k_is)
    (case na_nRow => k_is)
    (case na_nWay => k_is)
    (case na_nLooks => k_is)
    (case mkS => k_is)
    (case kcS => k_is)
    (case pgK => k_is)
    (case hdK => k_is)
    (case po_K => k_is)
    (case saK => k_is)
    (case na_kRoom => k_is)
    (case na_kArms => k_is)
    (case na_kHeap => k_is)
    (case na_kEnt => k_is)
    (case na_kMark => k_is)
    (case mkK => k_is)
    (case kcK => k_is)
    (case pgM => k_is)
    (case hdM => k_is)
    (case po_M => k_is)
    (case saM => k_is)
    (case oiM => k_is)
    (case otM => k_is)
    (case mkM => k_is)
    (case kcM => k_is)

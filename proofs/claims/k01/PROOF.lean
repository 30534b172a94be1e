import PyProof.Rows.All
import Wide.All
import OpenK.AllK
import Wide.FinOn
import HandS.ForMost
import HandS.ForExc
import HandS.IsInst
import HandS.MakeKwOnly
import HandS.ClsMeth
import HandS.Conv
import HandS.Codes
import HandS.Walk
import HandS.Style
import HandS.Flow
import HandS.Wide
import HandS.OwnEq
import HandS.OwnIter
import HandS.IterVal
import KE.KOwnIter
import PyProof.FactsAll.tuple_iterator_1
import PySem.Challenge.RW_heaprows_k01_whole_trees
set_option Elab.async false
set_option maxRecDepth 100000
set_option Elab.async false
set_option linter.all false
set_option maxRecDepth 100000
set_option maxHeartbeats 2000000
namespace Tw
open PySem PySem.Spec PyProof.Rows L2

/-! own rules: an instance with dunder methods -/
/-- a dunder method of the class at C, its def at f -/
structure Dn (K : PySem.W.Frag) (C : Addr) (m : Str) (f : Addr) : Prop where
  at_ : PySem.W.findIn K (.ref C) m = some (some (.ref f))
  fn : PySem.W.isFn K (.ref f) = true
  fi : PySem.W.fnIn K f = true


section
variable {X : Cx} {CX : CXT} {k n : Nat} {f C : Addr} {fd : FuncData} {ps : List Str} {sp : Sp} {E : XK} {o e : Expr} {pos : Pos} {ta tb : TE} {A1 : Around}
  {pins : List (Addr × Obj)} {σ : L2.St} {H : Hp} {s : Shared} {Q : VK}
theorem Sub.env0 (sb : Sub X n A1) (I : Inv X pins σ H s) : Env0 X.prog X.w X.K X.mg X.base A1 X.stack s H := by
  have q := I.env0
  exact ⟨by rw [sb.fr]; exact q.frames, q.mod, q.bs, q.bsz, q.funs, q.frf, q.hok, q.bare⟩
theorem run_sub {us : List Value} {vs : List V} (F : FnOk X.prog X.w X.K X.mg X.base CX k f fd ps sp) (sb : Sub X k A1) (hb : Binds X.K fd ps []) (hx : Passes CX X E) (I : Inv X pins σ H s) (r : Vals vs us) (h : sp vs H Q E) :
    wpAny (model X.prog X.w) A1 (call (.ref f) us) (EP X pins σ Q) X.xe s := by
  have hl : us.length = ps.length := by rw [← r.length]; exact F.len _ _ _ _ h
  have hb1 : BindsTo s fd ⟨us, []⟩ (ps.zip us) := by
    have z := hb s us I.kIn (by rw [List.append_nil]; exact hl)
    rw [List.append_nil] at z
    exact z
  refine wpAny_call (codeAny_mono (F.run A1 X.stack s H ⟨us, []⟩ us vs Q E sb.room (Sub.env0 sb I) hb1 r h) fun z s' hq => ?_)
  match z, hq with
  | .error e, hq => exact hx pins σ H s e s' I hq
  | .ok (.ret u), hq => exact I.after hq
  | .ok .next, hq => exact False.elim hq
  | .ok .brk, hq => exact False.elim hq
  | .ok .cont, hq => exact False.elim hq
theorem relR (a : Addr) : RelV (V.ref a) (Value.ref a) := rfl
theorem relB (b : Bool) : RelV (V.bl b) (Value.bool b) := rfl
theorem relI (i : Int) (t : Tok) : RelV (V.int i) (Value.int i t) := ⟨t, rfl⟩
/-- o[e] by the class's own def -/
def tGi (C : Addr) (sp : Sp) (E : XK) (ta tb : TE) : TE := fun σ H Q => ta σ H fun x H1 => tb σ H1 fun y H2 =>
  ∃ a dx fs, x = .ref a ∧ H2 a = some (.ins C dx fs) ∧ sp [.ref a, y] H2 Q E
theorem pe_gi (hd : Dn X.K C "__getitem__" f) (F : FnOk X.prog X.w X.K X.mg X.base CX k f fd ps sp) (hr : Room (k + 1) X.A) (hb : Binds X.K fd ps []) (hx : Passes CX X E) (ho : PE X o ta) (he : PE X e tb)
    (hs : ∀ v u, subscripted e true v u = runValue (.builtin "lifetime.subscript" ⟨[v, u], []⟩) := by intro _ _; with_unfolding_all rfl) :
    PE X (.Subscript o e pos) (tGi C sp E ta tb) := by
  refine ⟨fun pins s σ H Q I h => ?_⟩
  refine Subscript_ (binT ho he (R := fun x y H2 => ∃ a dx fs, x = .ref a ∧ H2 a = some (.ins C dx fs) ∧ sp [.ref a, y] H2 Q E) I h fun v u s2 x y H2 I2 rx ry ⟨a, dx, fs, ex, ha, q⟩ => ?_)
  subst ex
  obtain rfl : v = Value.ref a := rx
  obtain ⟨mA, O, rr, _, _, _⟩ := ins_get I2.hok ha
  obtain ⟨od, J, hl⟩ := O.look
  obtain ⟨m0, hF⟩ := I2.fr
  exact PySem.W.sub_K hF I2.ok.mod.kin J hd.at_ hd.fi hd.fn (run_sub F (Sub.in1 ⟨hr, rfl⟩) hb hx I2 (.cons (relR a) (.cons ry .nil)) q) (hs _ _)
/-- e in o, by the class's own def -/
def rIn (C : Addr) (sp : Sp) (E : XK) (neg : Bool) : R2 := fun x y H Q =>
  ∃ a dx fs, y = .ref a ∧ H a = some (.ins C dx fs) ∧ sp [.ref a, x] H (fun v H' => ∃ b, v = .bl b ∧ Q (.bl (if neg then !b else b)) H') E
theorem op_in_own (hd : Dn X.K C "__contains__" f) (F : FnOk X.prog X.w X.K X.mg X.base CX k f fd ps sp) (hr : Room k X.A) (hb : Binds X.K fd ps []) (hx : Passes CX X E) : OpR X (compareOp .In) (rIn C sp E false) := by
  intro pins s σ H x y v u Q I rx ry ⟨a, dx, fs, ey, ha, q⟩
  subst ey
  obtain rfl : u = Value.ref a := ry
  obtain ⟨mA, O, rr, _, _, _⟩ := ins_get I.hok ha
  obtain ⟨od, J, hl⟩ := O.look
  obtain ⟨m0, hF⟩ := I.fr
  refine PySem.W.in_K hF I.ok.mod.kin J hd.at_ hd.fn (thn (run_sub F ⟨hr, rfl⟩ hb hx I (.cons (relR a) (.cons rx .nil)) q) fun r s' ⟨z, H', I', rz, b, ez, q'⟩ => ?_)
  subst ez
  obtain rfl : r = Value.bool b := rz
  exact wpAny_truthy_bool ⟨_, _, I', relB b, q'⟩
/-- len(o) by the class's own def -/
def rLenO (C : Addr) (sp : Sp) (E : XK) : List V → Hp → VK → Prop := fun xs H Q =>
  ∃ a dx fs, xs = [.ref a] ∧ H a = some (.ins C dx fs) ∧ sp [.ref a] H (fun v H' => ∃ n : Nat, v = .int n ∧ n < 1000 ∧ Q (.int n) H') E
theorem call_len_own (hd : Dn X.K C "__len__" f) (F : FnOk X.prog X.w X.K X.mg X.base CX k f fd ps sp) (hr : Room (k + 1) X.A) (hb : Binds X.K fd ps []) (hx : Passes CX X E) : CallR X (.builtin "len") (rLenO C sp E) := by
  intro pins s σ H xs us Q I rv ⟨a, dx, fs, ex, ha, q⟩
  subst ex
  obtain ⟨u, rfl, ru⟩ := rv.one
  obtain rfl : u = Value.ref a := ru
  obtain ⟨mA, O, rr, _, _, _⟩ := ins_get I.hok ha
  obtain ⟨od, J, hl⟩ := O.look
  obtain ⟨m0, hF⟩ := I.fr
  refine PySem.W.len_K hF I.ok.mod.kin J hd.at_ hd.fn (thn (run_sub F (Sub.in1 ⟨hr, rfl⟩) hb hx I (.cons (relR a) .nil) q) fun r s' ⟨z, H', I', rz, n, ez, hn, q'⟩ => ?_)
  subst ez
  obtain ⟨t, rfl⟩ := rz
  exact ⟨⟨by omega, by omega⟩, _, _, I'.tok _, relI _ _, q'⟩
end

/-! for x in o, o an instance whose __iter__ says: return iter(self.F), F a tuple -/
def itTup (t : Addr) (i : Nat) : Obj := { cls := .type "tuple_iterator", data := .fields #[.ref t, .int (i : Nat) 0] }
def ItT (t it : Addr) (i : Nat) : HO := .ext fun h => h.get? it = some (itTup t i)
def rIterT (K : PySem.W.Frag) (n : Nat) : List V → Hp → VK → Prop := fun xs H Q => ∃ (t : Addr) (zs : List V), xs = [.ref t] ∧ SqT K H t zs ∧ ∀ it, H it = Option.none → n ≤ it → Q (.ref it) (upd H it (ItT t it 0))
section
variable {X : Cx}
theorem call_iterT : CallR X (.builtin "iter") (rIterT X.K X.s_0.heap.objs.size) := by
  intro pins s σ H xs us Q I r ⟨t, zs, e, hq, q⟩
  subst e
  obtain ⟨u, rfl, ru⟩ := r.one
  obtain rfl : u = Value.ref t := ru
  obtain ⟨its, rv, pl, hz⟩ := I.tuple hq
  refine Calls.call_function_entry (by decide +kernel) (by decide +kernel) PySem.W.kdk_entry_iter (PySem.W.kdk_args_iter _) ?_
  unfold Builtin.«iter»
  refine wpAny_bind (m := someArgs "iter" 1 2 _) (wpAny_of_eq (a := [Value.ref t]) (by first | rfl | kernel_rfl!) ?_)
  show wpAny _ _ (pyIter (.ref t) >>= _) _ _ _
  refine wpAny_bind (wpAny_pyIter_tuple (show s.heap.IsTuple t its.toArray from pl) ?_)
  have g : (s.heap.push (itTup t 0)).get? s.heap.objs.size = some (itTup t 0) := Heap.get?_push_size _ rfl
  have ok : ObjOk X.prog X.w (upd H s.heap.objs.size (ItT t s.heap.objs.size 0)) (s.heap.push (itTup t 0)) s.heap.objs.size (ItT t s.heap.objs.size 0) := ⟨g, ⟨_, g⟩, fun _ _ q k => k _ q⟩
  exact wpAny_pure ⟨_, rfl, .ref s.heap.objs.size, _, I.laid (t' := s.toks) (fun b u e => Heap.get?_push_of_some _ e) (Nat.le_refl _) ok, relR _, q _ (I.hok.fresh (Nat.le_refl _)) I.sz⟩
end

/-- a promise that may speak of how many objects there are when the def is called -/
def FnIt (P : Program) (w : World) (K : PySem.W.Frag) (mg : Str → Option Value) (base : Heap) (k : Nat) (f : Addr) (fd : FuncData) (ps : List Str) (sp : Nat → List V → Hp → VK → Prop) : Prop :=
  ∀ (A : Around) (outer : List Env) (s : Shared) (H : Hp) (us : List Value) (vs : List V) (Q : VK), Room k A → Env0 P w K mg base A outer s H → BindsTo s fd ⟨us, []⟩ (ps.zip us) → vs.length = ps.length → Vals vs us →
    sp s.heap.objs.size vs H Q → codeAny (model P w) A (.call (.ref f) ⟨us, []⟩) (CR CX0 outer P w H s Q E0) s
section
variable {P : Program} {w : World} {K : PySem.W.Frag} {mg : Str → Option Value} {base : Heap}
theorem fnIt_of {x qual : Str} {st : Stmt} {f : Addr} {fd : FuncData} {N ps : List Str} {k : Nat} {sp : Nat → List V → Hp → VK → Prop} (F : Fun K x qual st f fd) (S : FnScope N ps (defScope st))
    (hbody : ∀ (cdv : Value) (A : Around) (outer : List Env) (s : Shared) (H : Hp) (vs : List V) (Q : VK), Room k (A.deeper (envOfC qual (defScope st) s.heap.objs.size f cdv)) → sp s.heap.objs.size vs H Q →
      ∃ t, PSs (cxOf CX0 P w K mg base N qual (defScope st) f cdv A outer s H E0).nox (defBody st) t ∧ t { nx := fun _ H' => Q .non H', rt := Q } (start N vs) H) : FnIt P w K mg base (k + 1) f fd ps sp := by
  obtain ⟨oc, od, kV, doc, pm, an, cdv, ct, osl, rfl, lk, hcd⟩ := F.ex
  intro A outer s H us vs Q hr e0 hb hl r hsp
  have kin : K.In s.heap := e0.mod.kin.keeps fun b o e => (e0.bs b o e).1
  have lim : s.heap.NoLimit := e0.mod.nolimit.keeps fun b o e => (e0.bs b o e).1
  have kinds : ∀ y ∈ ps.zip us, (defScope st).names.lookup y.1 = some .local ∨ ((defScope st).names.lookup y.1 = some .cell ∧ ((cellsFrom (s.heap.objs.size + 1) (defScope st).names []).lookup y.1).isSome = true) := by
    intro y hy
    cases S.par y.1 (List.of_mem_zip (a := y.1) (b := y.2) hy).1 with
    | inl q => exact .inl q
    | inr q => exact .inr ⟨q, PySem.W.cellsFrom_some _ _ _ (.inl q)⟩
  apply codeAny_call_function hr.depth (kin _ _ lk) rfl S.co S.gen rfl (PySem.W.codeRec_of kin hcd) (hb _ _ _ _ ?_)
  apply wpAny_newFunctionEnv_cells S.kind kinds
  intro env he s1 x
  subst he
  refine ⟨lim.keeps x.toInCall.keep, codeAny_func ?_⟩
  obtain ⟨t, ht, hq⟩ := hbody cdv A outer s H vs Q (hr.deeper _) hsp
  have I := inv_start (CX := CX0) (P := P) (w := w) (E := E0) (cd := cdv) (qual := qual) (f := f) (outer := outer) S hr.hd e0 hl r x
  refine wpAny_mono (ht.nox.run [] s1 (start N vs) H _ I hq) (fun fl s' hs => ?_) fun e s' hs => hs
  match fl, hs with
  | .ret u, ⟨v, σ', H', J, rv, q⟩ => exact ⟨v, H', J.os, J.bare, J.base, J.hok, rv, q⟩
  | .next, ⟨σ', H', J, q⟩ => exact ⟨V.non, H', J.os, J.bare, J.base, J.hok, rfl, q⟩
  | .brk, ⟨_, _, _, q⟩ => exact False.elim q
  | .cont, ⟨_, _, _, q⟩ => exact False.elim q
end
/-- what such an __iter__ promises -/
def spIter (K : PySem.W.Frag) (C : Addr) (fld : Str) : Nat → List V → Hp → VK → Prop := fun n vs H Q => ∃ a dx fs t zs, vs = [.ref a] ∧ H a = some (.ins C dx fs) ∧ fs.lookup fld = some (.ref t) ∧ SqT K H t zs ∧
  ∀ it, H it = Option.none → n ≤ it → Q (.ref it) (upd H it (ItT t it 0))
/-- x in o, for a loop: o's own tuple is walked -/
def iOwn (K : PySem.W.Frag) (C : Addr) (fld : Str) (to : TE) : TI := fun σ H R => to σ H fun x H1 => ∃ a dx fs t zs, x = .ref a ∧ H1 a = some (.ins C dx fs) ∧ fs.lookup fld = some (.ref t) ∧ SqT K H1 t zs ∧ R (Itt K t) H1
section
variable {X : Cx} {k : Nat} {f C : Addr} {fd : FuncData} {fld : Str} {tg o : Expr} {to : TE} {pins : List (Addr × Obj)} {σ : L2.St} {H : Hp} {s : Shared} {A1 : Around}
theorem run_iter {a t dx : Addr} {fs : List (Str × V)} {zs : List V} (F : FnIt X.prog X.w X.K X.mg X.base k f fd ["self"] (spIter X.K C fld)) (sb : Sub X k A1) (hb : Binds X.K fd ["self"] []) (I : Inv X pins σ H s)
    (ha : H a = some (.ins C dx fs)) (hf : fs.lookup fld = some (.ref t)) (ht : SqT X.K H t zs) {E : Value → Shared → Prop} :
    wpAny (model X.prog X.w) A1 (call (.ref f) [.ref a]) (fun u s' => ∃ it, u = .ref it ∧ s.heap.objs.size ≤ it ∧ H it = Option.none ∧ Inv X pins σ (upd H it (ItT t it 0)) s') E s := by
  have hb1 : BindsTo s fd ⟨[.ref a], []⟩ ((["self"] : List Str).zip [Value.ref a]) := by
    have z := hb s [.ref a] I.kIn rfl
    exact z
  refine wpAny_call (codeAny_mono (F A1 X.stack s H [.ref a] [.ref a] (fun v H' => ∃ it, v = .ref it ∧ s.heap.objs.size ≤ it ∧ H it = Option.none ∧ H' = upd H it (ItT t it 0)) sb.room (Sub.env0 sb I) hb1 rfl (.cons (relR a) .nil)
    ⟨a, dx, fs, t, zs, rfl, ha, hf, ht, fun it h0 hn => ⟨it, rfl, hn, h0, rfl⟩⟩) fun z s' hq => ?_)
  match z, hq with
  | .error e, hq => exact hq.elim
  | .ok (.ret u), hq =>
    obtain ⟨v, H', I', rv, it, ev, hn, h0, eH⟩ := I.after hq
    subst ev
    rw [eH] at I'
    obtain rfl : u = Value.ref it := rv
    exact ⟨it, rfl, hn, h0, I'⟩
  | .ok .next, hq => exact False.elim hq
  | .ok .brk, hq => exact False.elim hq
  | .ok .cont, hq => exact False.elim hq
theorem pi_own (hd : Dn X.K C "__iter__" f) (F : FnIt X.prog X.w X.K X.mg X.base k f fd ["self"] (spIter X.K C fld)) (hr : Room k X.A) (hb : Binds X.K fd ["self"] []) (ho : PE X o to) : PI X tg o (iOwn X.K C fld to) := by
  refine ⟨fun pins s σ H R I h => ?_⟩
  refine thn (ho.run pins s σ H _ I h) fun u s1 ⟨x, H1, I1, rx, a, dx, fs, t, zs, ex, ha, hf, ht, q⟩ => ?_
  subst ex
  obtain rfl : u = Value.ref a := rx
  obtain ⟨mA, O, rr, _, _, _⟩ := ins_get I1.hok ha
  obtain ⟨od, J, hl⟩ := O.look
  obtain ⟨m0, hF⟩ := I1.fr
  refine PySem.W.owit_iter hF I1.ok.mod.kin J hd.at_ hd.fn (thn (run_iter F ⟨hr, rfl⟩ hb I1 ha hf ht) fun r s2 ⟨it, er, hn, h0, I2⟩ => ?_)
  subst er
  have e2 : upd H1 it (ItT t it 0) it = some (ItT t it 0) := upd_same
  have g : s2.heap.get? it = some (itTup t 0) := (I2.hok it _ e2).1
  have hT : s2.TypeIs (.ref it) "tuple_iterator" := ⟨_, g, rfl⟩
  have hfp := ItX.inv_fp I2 e2 (Nat.le_trans I1.sz hn)
  have I3 := ItX.inv_drop I2 e2
  rw [ItX.dropH_upd h0] at I3 hfp
  unfold PySem.W.OwitIt
  refine wpAny_specialOf (name := Str.ofString "__next__") hT PySem.F.slot_tuple_iterator_next.lookup ?_
  refine ⟨it, [it], _, _, H1, rfl, I3, turn_tuple t it, ⟨_, g, rfl, rfl⟩, fun b hb => ?_, q⟩
  rw [List.mem_singleton.mp hb]
  exact hfp
end
/-! C.m(e, .., k = v, ..), m a classmethod; cls(e, .., k = v, ..), cls a local name that holds the class -/
def tCMethK (C : Addr) (n m : Nat) (sp : Sp) (gV : List V → List V → List V) (E : XK) (ta : TE) (t tk : TA) : TE := fun σ H Q => ta σ H fun x H1 => x = .ref C ∧ t σ H1 fun vs H2 => tk σ H2 fun zs H3 => (.ref C :: vs).length = n ∧ zs.length = m ∧ sp (gV (.ref C :: vs) zs) H3 Q E
def tMakeLK (i : Nat) (C : Addr) (n m : Nat) (sp : Sp) (gV : List V → List V → List V) (E : XK) (t tk : TA) : TE := fun σ H Q => σ[i]? = some (some (.ref C)) ∧ tMakeK C n m sp gV E t tk σ H Q
section
variable {X : Cx} {CX : CXT} {k n i : Nat} {C p g f : Addr} {mc : Value} {sp : Sp} {E : XK} {o e : Expr} {es : List Expr} {kws : List Keyword} {m x : Str} {pos apos xpos : Pos} {ta : TE} {t tk : TA} {pl : Sem Bool} {fd : FuncData} {ps ks : List Str}
  {gv : List Value → List Value → List Value} {gV : List V → List V → List V}
theorem pe_cmethK (he : PE X o ta) (r : ClX.CRead X.K C mc) (c : ClX.CMet X.K C mc m p g) (F : FnOk X.prog X.w X.K X.mg X.base CX k g fd ps sp) (hr : Room k X.A) (hb : KBn X.K fd ps n ks gv gV) (hx : Passes CX X E) (ha : PA X (e :: es) t) (hkw : PK X kws tk)
    (hall : (backToKw pos (keywordEach kws X.env)).all (·.1.isSome) = true := by rfl) (hks : (backToKw pos (keywordEach kws X.env)).filterMap (·.1) = ks := by rfl)
    (hst : starEach (e :: es) X.env = (false, eval e X.env) :: starEach es X.env := by rfl) (hpl : ((backTo pos (starEach (e :: es) X.env)).any (·.1) || (backToKw pos (keywordEach kws X.env)).any (·.1.isNone)) = false := by rfl)
    (ht : eval (.Call (.Attribute o m apos) (e :: es) kws pos) X.env = (do
      let ov ← eval o X.env
      standAt apos.atName
      let (f, first) ← holding [ov] (getMethod ov m pl)
      callWith pos f first (backTo pos (starEach (e :: es) X.env)) (backToKw pos (keywordEach kws X.env))) := by rfl) :
    PE X (.Call (.Attribute o m apos) (e :: es) kws pos) (tCMethK C n ks.length sp gV E ta t tk) := by
  refine ⟨fun pins s σ H Q I h => ?_⟩
  refine PySem.W.methodCall_KW (pl := pl) (thn (he.run pins s σ H _ I h) fun u s1 ⟨x, H1, I1, rx, ex, q⟩ => ?_) ht
  subst ex
  obtain rfl : u = Value.ref C := rx
  refine ClX.getmethcm_ok I1 r c fun s2 I2 => ?_
  refine PySem.W.callWith_of (P := PySem.W.MethP X.K s1.heap.objs.size g (.ref C)) hpl (PySem.W.keeps_M c.fi) (evalArgs_kw2 hall (thn (ha.run pos _ s2 σ H1 _ I2 q) fun us s3 ⟨vs, H2, I3, rv, q2⟩ => ?_) hst)
  refine thn (hkw.run pos _ s3 σ H2 _ I3 q2) fun ws s4 ⟨zs, H3, I4, rz, l1, l2, q3⟩ => ⟨⟨ClX.pin_at I4, I4.kIn⟩, ?_⟩
  rw [hks]
  have r2 : Vals (V.ref C :: vs) (Value.ref C :: us) := .cons (relR C) rv
  have n1 : (Value.ref C :: us).length = n := r2.length.symm.trans l1
  have I5 := ClX.unpin I4
  refine wpAny_call (PySem.W.method_call (ClX.pin_at I4) (codeAny_mono (F.run X.A X.stack s4 H3 ⟨Value.ref C :: us, ks.zip ws⟩ _ _ Q E hr I5.env0 (hb.to _ (Value.ref C :: us) ws I5.kIn n1 (rz.length.symm.trans l2)) (hb.rel r2 rz) q3) fun z s' hq => ?_))
  match z, hq with
  | .error e, hq => exact hx pins σ H3 s4 e s' I5 hq
  | .ok (.ret u), hq => exact I5.after hq
  | .ok .next, hq => exact False.elim hq
  | .ok .brk, hq => exact False.elim hq
  | .ok .cont, hq => exact False.elim hq
theorem pe_makeLK (M : Mk X.K C f) (F : FnOk X.prog X.w X.K X.mg X.base CX k f fd ps sp) (hr : Room (k + 1) X.A) (hb : KBn X.K fd ps (n + 1) ks gv gV) (hx : Passes CX X E) (ha : PA X (e :: es) t) (hkw : PK X kws tk)
    (hN : X.N[i]? = some x) (hv : Vis X.env.scope x) (hd : (x == ("__debug__" : Str)) = false := by decide) (hcd : (x == ("__classdict__" : Str)) = false := by decide)
    (hall : (backToKw pos (keywordEach kws X.env)).all (·.1.isSome) = true := by rfl) (hks : (backToKw pos (keywordEach kws X.env)).filterMap (·.1) = ks := by rfl)
    (hst : starEach (e :: es) X.env = (false, eval e X.env) :: starEach es X.env := by rfl) (hpl : ((backTo pos (starEach (e :: es) X.env)).any (·.1) || (backToKw pos (keywordEach kws X.env)).any (·.1.isNone)) = false := by rfl) :
    PE X (.Call (.Name x xpos) (e :: es) kws pos) (tMakeLK i C n ks.length sp gV E t tk) := by
  refine ⟨fun pins s σ H Q I ⟨h0, h⟩ => ?_⟩
  refine wpAny_Call_Name_kw (thn ((pe_var (pos := xpos) (i := i) hN hv hd hcd).run pins s σ H (fun v H1 => v = .ref C ∧ H1 = H) I ⟨.ref C, h0, rfl, rfl⟩) fun u s1 ⟨v, H1, I1, r1, ev, eH⟩ => ?_)
  subst ev
  rw [eH] at I1
  obtain rfl : u = Value.ref C := r1
  refine PySem.W.callWith_KW (h₀ := X.base) I1.ok.mod.kin M.kp hall (thn (ha.run pos pins s1 σ H _ I1 h) fun us s2 ⟨vs, H2, I2, r, q⟩ => ?_) hpl hst
  refine thn (hkw.run pos pins s2 σ H2 _ I2 q) fun ws s3 ⟨zs, H3, I3, rz, l1, l2, q2⟩ => ⟨I3.kIn, ?_⟩
  rw [hks]
  exact run_makeK M F hr hb hx I3 r rz l1 l2 q2
end

/-! heaps that only grow -/
theorem Same.up {H : Hp} {p : Addr} {o : HO} (h : H p = Option.none) : Same H (upd H p o) := fun b u e => by
  rw [upd_ne (ne_of_none e h)]
  exact e
/-- a list under way at D, which was not there in H1 -/
structure Acc (H1 : Hp) (D : Addr) (acc : List V) (H : Hp) : Prop where
  s : Same H1 H
  n : H1 D = Option.none
  a : H D = some (.lst acc)
theorem Acc.start {H1 : Hp} {D : Addr} (n : H1 D = Option.none) : Acc H1 D [] (upd H1 D (.lst [])) := ⟨Same.up n, n, upd_same⟩
theorem Acc.same {H1 H H' : Hp} {D : Addr} {acc : List V} (h : Acc H1 D acc H) (s : Same H H') : Acc H1 D acc H' := ⟨h.s.trans s, h.n, s _ _ h.a⟩
theorem Acc.push {H1 H : Hp} {D : Addr} {acc zs : List V} (h : Acc H1 D acc H) : Acc H1 D zs (upd H D (.lst zs)) :=
  ⟨fun b o e => by rw [upd_ne (ne_of_none e h.n)]; exact h.s b o e, h.n, upd_same⟩
theorem Same.none' {H H' : Hp} (s : Same H H') {p : Addr} (h : H' p = Option.none) : H p = Option.none := s.free h
theorem Same.of_upd {H H' : Hp} {p : Addr} {o : HO} (h : H p = Option.none) (s : Same (upd H p o) H') : Same H H' := (Same.up h).trans s
/-- a list of ints as values -/
theorem ints_at {ns : List Int} {i : Nat} {x : V} (h : (ns.map V.int)[i]? = some x) : ∃ (hi : i < ns.length), x = .int ns[i] := by
  rw [List.getElem?_map] at h
  cases e : ns[i]? with
  | none => rw [e] at h; cases h
  | some u =>
    rw [e] at h
    obtain ⟨hi, rfl⟩ := List.getElem?_eq_some_iff.mp e
    exact ⟨hi, (Option.some.inj h).symm⟩

/-! comprehensions that pick -/
section
variable {α : Type} {H1 H : Hp} {D : Addr} {ks : List α} {f : α → Option V} {i : Nat} {c : α → V}
def PickI (H1 : Hp) (D : Addr) (ks : List α) (f : α → Option V) : Nat → Hp → Prop := fun i H => Acc H1 D ((ks.take i).filterMap f) H
theorem pick_start (n : H1 D = Option.none) : PickI H1 D ks f 0 (upd H1 D (.lst [])) := Acc.start n
theorem take_fm (hi : i < ks.length) : (ks.take (i + 1)).filterMap f = (ks.take i).filterMap f ++ (f ks[i]).toList := by
  rw [List.take_succ_eq_append_getElem hi, List.filterMap_append]
  cases h : f ks[i] <;> simp [h]
theorem pick_yes {H' : Hp} {y : V} (hi : i < ks.length) (hl : ks.length ≤ 1000) (e : f ks[i] = some y) (s : Same H H') (h : PickI H1 D ks f i H) :
    ∃ acc, H' D = some (.lst acc) ∧ acc.length < sizeLine ∧ PickI H1 D ks f (i + 1) (upd H' D (.lst (acc ++ [y]))) := by
  have h2 := Acc.same h s
  refine ⟨_, h2.a, small1000 ?_, ?_⟩
  · exact Nat.le_trans (Nat.le_trans (List.length_filterMap_le _ _) (List.length_take_le _ _)) (by omega)
  · unfold PickI
    rw [take_fm hi, e]
    exact h2.push
theorem pick_no {H' : Hp} (hi : i < ks.length) (e : f ks[i] = none) (s : Same H H') (h : PickI H1 D ks f i H) : PickI H1 D ks f (i + 1) H' := by
  unfold PickI
  rw [take_fm hi, e, Option.toList_none, List.append_nil]
  exact Acc.same h s
theorem pick_end {m : Nat} (hm : m = ks.length) (h : PickI H1 D ks f m H) : Acc H1 D (ks.filterMap f) H := by
  subst hm
  unfold PickI at h
  rw [List.take_length] at h
  exact h
theorem map_at {x : V} (h : (ks.map c)[i]? = some x) : ∃ hi : i < ks.length, x = c ks[i] := by
  rw [List.getElem?_map] at h
  cases e : ks[i]? with
  | none => rw [e] at h; cases h
  | some u =>
    rw [e] at h
    obtain ⟨hi, rfl⟩ := List.getElem?_eq_some_iff.mp e
    exact ⟨hi, (Option.some.inj h).symm⟩
end
end Tw

set_option Elab.async false
set_option linter.all false
set_option maxRecDepth 100000
set_option maxHeartbeats 2000000
namespace Tw
open PySem PySem.Spec PyProof.Rows L2
open PySem.W (InstAt looks_findIn looks_subIn ifBound_K cmp_K)
/-- a class with an own __eq__ and the usual != -/
structure EqC (K : PySem.W.Frag) (C f : Addr) : Prop where
  eq : PySem.W.findIn K (.ref C) "__eq__" = some (some (.ref f))
  fn : PySem.W.isFn K (.ref f) = true
  ne : PySem.W.findIn K (.ref C) "__ne__" = some (some (.builtin "object.__ne__"))
  ob : PySem.W.subIn K (.ref C) (.type "object") = some true
  ni : PySem.W.subIn K (.type "int") (.ref C) = some false
  nt : PySem.W.subIn K (.type "tuple") (.ref C) = some false

section
variable {prog : Program} {w : World} {A : Around} {E : Value → Shared → Prop} {s : Shared} {K : PySem.W.Frag} {x C L f : Addr} {h₀ : Heap} {m : Str → Option Value} {ox : Obj} {od : Option Obj} {b tb : Value}
theorem ne_entry {Q : PySem.Fin → Shared → Prop} (hu : A.units < cLine) (X : K.In s.heap) (I : InstAt s.heap x ox C od) (c : EqC K C f)
    (h : wpAny (model prog w) A (call (.ref f) [.ref x, b]) (fun v s' => ∃ r, v = .bool r ∧ Q (.done (.ret (.bool (!r)))) s') E s) :
    wpAny (model prog w) A (Builtin.«object.__ne__» ⟨[.ref x, b], []⟩) Q E s := by
  unfold Builtin.«object.__ne__»
  refine wpAny_bind (wpAny_of_eq (a := (Value.ref x, [b])) (by first | rfl | kernel_rfl!) ?_)
  refine wpAny_bind (wpAny_cRoomFor hu ?_)
  refine wpAny_bind (m := callSpecialIfBound? (.ref x) (Str.ofString "__eq__") [b]) (ifBound_K X I c.eq c.fn (wpAny_mono h (fun v s' hv => ?_) fun _ _ e => e))
  obtain ⟨r, e, q⟩ := hv
  subst e
  refine wpAny_bind (m := truthy (.bool r)) (wpAny_truthy_bool ?_)
  exact wpAny_pure q
theorem ne_call {Q : Value → Shared → Prop} (hu : A.in1.units < cLine) (X : K.In s.heap) (I : InstAt s.heap x ox C od) (c : EqC K C f)
    (h : wpAny (model prog w) A.in1 (call (.ref f) [.ref x, b]) (fun v s' => ∃ r, v = .bool r ∧ Q (.bool (!r)) s') E s) :
    wpAny (model prog w) A (call (.builtin "object.__ne__") [.ref x, b]) Q E s := by
  have t2 : PySem.W.Looks (model prog w) s.heap (isInstance (.ref x) (.type "object")) true := I.type.andThen (looks_subIn X c.ob)
  refine wpAny_call (codeAny_call_builtin F.cmp_object.ne.plain F.cmpEntry_ne (PySem.W.check_slot F.cmpKind_ne F.cmpSplit_ne t2 (F.cmpArgs_ne _ _) (ne_entry hu X I c (wpAny_mono h (fun v s' hv => ?_) fun _ _ e => e))))
  obtain ⟨r, e, q⟩ := hv
  exact ⟨r, e, q⟩
theorem ne_bound {Q : Option Value → Shared → Prop} (hu : A.in1.units < cLine) (X : K.In s.heap) (I : InstAt s.heap x ox C od) (c : EqC K C f)
    (h : wpAny (model prog w) A.in1 (call (.ref f) [.ref x, b]) (fun v s' => ∃ r, v = .bool r ∧ Q (some (.bool (!r))) s') E s) :
    wpAny (model prog w) A (callSpecialIfBound? (.ref x) "__ne__" [b]) Q E s := by
  simp only [callSpecialIfBound?, bindSpecialIfBound?]
  refine wpAny_holding (wpAny_bind (wpAny_bind (wpAny_bind (I.type.here ((looks_findIn X c.ne).here ?_)))))
  refine wpAny_bind (wpAny_askSetting (wpAny_ite ?_))
  have fin : wpAny (model prog w) A (call (.builtin "object.__ne__") ([.ref x] ++ [b]) >>= fun v => pure (some v)) Q E s :=
    wpAny_bind (ne_call hu X I c (wpAny_mono h (fun v s' ⟨r, e, q⟩ => ⟨r, e, wpAny_pure q⟩) fun _ _ e => e))
  have bd := F.cmp_object.ne.bind (.ref x)
  split
  · refine wpAny_bind ?_
    rw [bd]
    exact wpAny_pure (wpAny_pure (by exact fin))
  · refine wpAny_tryCatch (wpAny_bind ?_)
    rw [bd]
    exact wpAny_pure (wpAny_pure (by exact fin))
theorem ne_K {Q : Value → Shared → Prop} (hu : A.in1.units < cLine) (hu0 : A.units < cLine) (F : Fr h₀ L s.heap m) (X₀ : K.In h₀) (I : InstAt s.heap x ox C od) (hb : PySem.W.Looks (model prog w) s.heap (typeOf b) tb) (hn : PySem.W.notFirst K C tb = true) (c : EqC K C f)
    (h : wpAny (model prog w) A.in1 (call (.ref f) [.ref x, b]) (fun v s' => ∃ r, v = .bool r ∧ Q (.bool (!r)) s') E s) : wpAny (model prog w) A (richCompare .NotEq (.ref x) b) Q E s := by
  have X := X₀.keeps F.keep
  have one : wpAny (model prog w) A (tryCompare (.ref x) (cmpInfo .NotEq).2.1 b) (fun r s' => ∃ v, r = some v ∧ Q v s') E s := by
    unfold tryCompare
    refine wpAny_bind (ne_bound hu X I c (wpAny_mono h (fun v s' ⟨r, e, q⟩ => ⟨r, e, ?_⟩) fun _ _ e => e))
    exact wpAny_pure ⟨_, rfl, q⟩
  have two : ∀ r s', (∃ v, r = some v ∧ Q v s') → ∃ v, r = some v ∧ Q v s' := fun _ _ z => z
  unfold richCompare
  simp only [oneThing_ref]
  refine wpAny_holding (wpAny_bind (wpAny_cRoomFor hu0 ?_))
  refine wpAny_bind (I.type.here (wpAny_bind (hb.here ?_)))
  split
  · rename_i q
    have e : PySem.W.subIn K tb (.ref C) = some false := by
      rcases Bool.or_eq_true_iff.mp hn with e | e
      · rw [beq_iff_eq.mp e] at q; simp at q
      · exact beq_iff_eq.mp e
    refine wpAny_bind ((looks_subIn X e).here ?_)
    simp only [Bool.false_eq_true, if_false]
    refine wpAny_bind (wpAny_mono one (fun r s' ⟨v, ev, hq⟩ => ?_) fun _ _ e => e)
    subst ev
    exact wpAny_pure hq
  · refine wpAny_bind (wpAny_pure ?_)
    simp only [Bool.false_eq_true, if_false]
    refine wpAny_bind (wpAny_mono one (fun r s' ⟨v, ev, hq⟩ => ?_) fun _ _ e => e)
    subst ev
    exact wpAny_pure hq
end
/-! as rules -/
section
variable {X : Cx} {CX : CXT} {k : Nat} {f C : Addr} {fd : FuncData} {ps : List Str} {sp : Sp} {E : XK}
/-- the other operand: an instance of the same class, an int, a tuple -/
inductive Oth (H : Hp) (C : Addr) : V → Prop where
  | ins {a dx : Addr} {fs : List (Str × V)} (h : H a = some (.ins C dx fs)) : Oth H C (.ref a)
  | int (i : Int) : Oth H C (.int i)
  | tup {a : Addr} {xs : List V} (h : H a = some (.tup xs)) : Oth H C (.ref a)
def rEqO (C : Addr) (sp : Sp) (E : XK) (neg : Bool) : R2 := fun x y H Q =>
  ∃ a dx fs, x = .ref a ∧ H a = some (.ins C dx fs) ∧ Oth H C y ∧ sp [.ref a, y] H (fun v H' => ∃ r, v = .bl r ∧ Q (.bl (if neg then !r else r)) H') E
theorem oth_type {pins : List (Addr × Obj)} {σ : L2.St} {H : Hp} {s : Shared} {y : V} {u : Value} (I : Inv X pins σ H s) (ry : RelV y u) (c : EqC X.K C f) (o : Oth H C y) :
    ∃ tb, PySem.W.Looks (model X.prog X.w) s.heap (typeOf u) tb ∧ PySem.W.notFirst X.K C tb = true := by
  cases o with
  | @ins a dx fs h =>
    obtain rfl : u = Value.ref a := ry
    obtain ⟨mA, O, rr, _, _, _⟩ := ins_get I.hok h
    obtain ⟨od, J, hl⟩ := O.look
    exact ⟨_, J.type, by unfold PySem.W.notFirst; simp⟩
  | int i =>
    obtain ⟨t, rfl⟩ := ry
    exact ⟨.type "int", .now, by unfold PySem.W.notFirst; rw [c.ni]; simp⟩
  | @tup a xs h =>
    obtain rfl : u = Value.ref a := ry
    obtain ⟨_, _, _, ob, h1, h2, _⟩ := (show ObjOk X.prog X.w H s.heap a (.tup xs) from I.hok a _ h)
    exact ⟨.type "tuple", h2 ▸ (PySem.W.Looks.ld h1).andThen .now, by unfold PySem.W.notFirst; rw [c.nt]; simp⟩
theorem op_eq_own (c : EqC X.K C f) (F : FnOk X.prog X.w X.K X.mg X.base CX k f fd ps sp) (hr : Room k X.A) (hb : Binds X.K fd ps []) (hx : Passes CX X E) : OpR X (compareOp .Eq) (rEqO C sp E false) := by
  intro pins s σ H x y v u Q I rx ry ⟨a, dx, fs, ex, ha, o, q⟩
  subst ex
  obtain rfl : v = Value.ref a := rx
  obtain ⟨mA, O, rr, _, _, _⟩ := ins_get I.hok ha
  obtain ⟨od, J, hl⟩ := O.look
  obtain ⟨m0, hF⟩ := I.fr
  obtain ⟨tb, lk, nf⟩ := oth_type I ry c o
  show wpAny _ _ (richCompare .Eq (.ref a) u) _ _ _
  refine cmp_K hr.units0 hF I.ok.mod.kin J lk nf c.eq c.fn (thn (run_sub F ⟨hr, rfl⟩ hb hx I (.cons (relR a) (.cons ry .nil)) q) fun r s' ⟨z, H', I', rz, b, ez, q'⟩ => ?_)
  subst ez
  obtain rfl : r = Value.bool b := rz
  exact ⟨_, H', I', relB b, q'⟩
theorem op_ne_own (c : EqC X.K C f) (F : FnOk X.prog X.w X.K X.mg X.base CX k f fd ps sp) (hr : Room (k + 1) X.A) (hb : Binds X.K fd ps []) (hx : Passes CX X E) : OpR X (compareOp .NotEq) (rEqO C sp E true) := by
  intro pins s σ H x y v u Q I rx ry ⟨a, dx, fs, ex, ha, o, q⟩
  subst ex
  obtain rfl : v = Value.ref a := rx
  obtain ⟨mA, O, rr, _, _, _⟩ := ins_get I.hok ha
  obtain ⟨od, J, hl⟩ := O.look
  obtain ⟨m0, hF⟩ := I.fr
  obtain ⟨tb, lk, nf⟩ := oth_type I ry c o
  show wpAny _ _ (richCompare .NotEq (.ref a) u) _ _ _
  refine ne_K (Room.units0 hr.in1) hr.units0 hF I.ok.mod.kin J lk nf c (thn (run_sub F (Sub.in1 ⟨hr, rfl⟩) hb hx I (.cons (relR a) (.cons ry .nil)) q) fun r s' ⟨z, H', I', rz, b, ez, q'⟩ => ?_)
  subst ez
  exact ⟨b, rz, _, H', I', relB (!b), q'⟩
end
end Tw

set_option Elab.async false
set_option linter.all false
set_option maxRecDepth 100000
set_option maxHeartbeats 2000000
namespace Tw
open PySem PySem.Spec PyProof.Rows L2
def topS (i : Nat) : Stmt := PySem.Challenge.pw_heaprows_k01_whole_trees.main.body.getD i (.Pass ⟨0, 0, 0, 0⟩)
abbrev s_is_integer : Stmt := topS 10
theorem sc_is_integer : FnScope ["thing"] ["thing"] (defScope s_is_integer) := ⟨rfl, rfl, rfl, by decide +kernel, rfl, by decide +kernel, by decide +kernel⟩
abbrev s_is_integer_from : Stmt := topS 11
theorem sc_is_integer_from : FnScope ["thing", "least", "greatest"] ["thing", "least", "greatest"] (defScope s_is_integer_from) := ⟨rfl, rfl, rfl, by decide +kernel, rfl, by decide +kernel, by decide +kernel⟩
abbrev s_is_key : Stmt := topS 12
theorem sc_is_key : FnScope ["thing"] ["thing"] (defScope s_is_key) := ⟨rfl, rfl, rfl, by decide +kernel, rfl, by decide +kernel, by decide +kernel⟩
abbrev s_check_arms : Stmt := topS 13
theorem sc_check_arms : FnScope ["arms"] ["arms"] (defScope s_check_arms) := ⟨rfl, rfl, rfl, by decide +kernel, rfl, by decide +kernel, by decide +kernel⟩
abbrev s_check_many : Stmt := topS 14
theorem sc_check_many : FnScope ["many"] ["many"] (defScope s_check_many) := ⟨rfl, rfl, rfl, by decide +kernel, rfl, by decide +kernel, by decide +kernel⟩
abbrev s_check_place : Stmt := topS 15
theorem sc_check_place : FnScope ["place", "many"] ["place", "many"] (defScope s_check_place) := ⟨rfl, rfl, rfl, by decide +kernel, rfl, by decide +kernel, by decide +kernel⟩
abbrev s_row_of : Stmt := topS 16
theorem sc_row_of : FnScope ["row", "index", "key"] ["row"] (defScope s_row_of) := ⟨rfl, rfl, rfl, by decide +kernel, rfl, by decide +kernel, by decide +kernel⟩
abbrev s_t___init__ : Stmt := inClass (topS 18) 0
theorem sc_t___init__ : FnScope ["self", "many", "arms"] ["self", "many", "arms"] (defScope s_t___init__) := ⟨rfl, rfl, rfl, by decide +kernel, rfl, by decide +kernel, by decide +kernel⟩
abbrev s_t_of : Stmt := inClass (topS 18) 1
theorem sc_t_of : FnScope ["cls", "row", "arms"] ["cls", "row", "arms"] (defScope s_t_of) := ⟨rfl, rfl, rfl, by decide +kernel, rfl, by decide +kernel, by decide +kernel⟩
abbrev s_t___len__ : Stmt := inClass (topS 18) 2
theorem sc_t___len__ : FnScope ["self"] ["self"] (defScope s_t___len__) := ⟨rfl, rfl, rfl, by decide +kernel, rfl, by decide +kernel, by decide +kernel⟩
abbrev s_t___contains__ : Stmt := inClass (topS 18) 3
theorem sc_t___contains__ : FnScope ["self", "thing"] ["self", "thing"] (defScope s_t___contains__) := ⟨rfl, rfl, rfl, by decide +kernel, rfl, by decide +kernel, by decide +kernel⟩
abbrev s_t___iter__ : Stmt := inClass (topS 18) 4
theorem sc_t___iter__ : FnScope ["self"] ["self"] (defScope s_t___iter__) := ⟨rfl, rfl, rfl, by decide +kernel, rfl, by decide +kernel, by decide +kernel⟩
abbrev s_t___getitem__ : Stmt := inClass (topS 18) 5
theorem sc_t___getitem__ : FnScope ["self", "place", "first"] ["self", "place"] (defScope s_t___getitem__) := ⟨rfl, rfl, rfl, by decide +kernel, rfl, by decide +kernel, by decide +kernel⟩
abbrev s_t___eq__ : Stmt := inClass (topS 18) 6
theorem sc_t___eq__ : FnScope ["self", "other"] ["self", "other"] (defScope s_t___eq__) := ⟨rfl, rfl, rfl, by decide +kernel, rfl, by decide +kernel, by decide +kernel⟩
abbrev s_t_parent : Stmt := inClass (topS 18) 7
theorem sc_t_parent : FnScope ["self", "place"] ["self", "place"] (defScope s_t_parent) := ⟨rfl, rfl, rfl, by decide +kernel, rfl, by decide +kernel, by decide +kernel⟩
abbrev s_t_way_to : Stmt := inClass (topS 18) 8
theorem sc_t_way_to : FnScope ["self", "place", "way", "above"] ["self", "place"] (defScope s_t_way_to) := ⟨rfl, rfl, rfl, by decide +kernel, rfl, by decide +kernel, by decide +kernel⟩
abbrev s_t_depth : Stmt := inClass (topS 18) 9
theorem sc_t_depth : FnScope ["self", "place"] ["self", "place"] (defScope s_t_depth) := ⟨rfl, rfl, rfl, by decide +kernel, rfl, by decide +kernel, by decide +kernel⟩
abbrev s_t_size : Stmt := inClass (topS 18) 10
theorem sc_t_size : FnScope ["self", "place"] ["self", "place"] (defScope s_t_size) := ⟨rfl, rfl, rfl, by decide +kernel, rfl, by decide +kernel, by decide +kernel⟩
abbrev s_t_height : Stmt := inClass (topS 18) 11
theorem sc_t_height : FnScope ["self", "place", "below"] ["self", "place"] (defScope s_t_height) := ⟨rfl, rfl, rfl, by decide +kernel, rfl, by decide +kernel, by decide +kernel⟩
abbrev s_t_subtree : Stmt := inClass (topS 18) 12
theorem sc_t_subtree : FnScope ["self", "place", "below"] ["self", "place"] (defScope s_t_subtree) := ⟨rfl, rfl, rfl, by decide +kernel, rfl, by decide +kernel, by decide +kernel⟩
abbrev s__law_number : Stmt := topS 20
theorem sc__law_number : FnScope ["script", "index", "cells", "cell", "low", "high", "total", "blend"] ["script", "index"] (defScope s__law_number) := ⟨rfl, rfl, rfl, by decide +kernel, rfl, by decide +kernel, by decide +kernel⟩
abbrev s__law_take : Stmt := topS 21
theorem sc__law_take : FnScope ["draw", "many"] ["draw", "many"] (defScope s__law_take) := ⟨rfl, rfl, rfl, by decide +kernel, rfl, by decide +kernel, by decide +kernel⟩
abbrev s__law_parent : Stmt := topS 22
theorem sc__law_parent : FnScope ["wide", "place"] ["wide", "place"] (defScope s__law_parent) := ⟨rfl, rfl, rfl, by decide +kernel, rfl, by decide +kernel, by decide +kernel⟩
abbrev s__law_children : Stmt := topS 23
theorem sc__law_children : FnScope ["wide", "many", "place", "other"] ["wide", "many", "place"] (defScope s__law_children) := ⟨rfl, rfl, rfl, by decide +kernel, rfl, by decide +kernel, by decide +kernel⟩
abbrev s__law_way : Stmt := topS 24
theorem sc__law_way : FnScope ["wide", "place", "way", "lap"] ["wide", "place"] (defScope s__law_way) := ⟨rfl, rfl, rfl, by decide +kernel, rfl, by decide +kernel, by decide +kernel⟩
abbrev s__law_subtree : Stmt := topS 25
theorem sc__law_subtree : FnScope ["wide", "many", "place", "other"] ["wide", "many", "place"] (defScope s__law_subtree) := ⟨rfl, rfl, rfl, by decide +kernel, rfl, by decide +kernel, by decide +kernel⟩
abbrev s__law_keys : Stmt := topS 26
theorem sc__law_keys : FnScope ["draw", "most", "span", "turn"] ["draw", "most", "span"] (defScope s__law_keys) := ⟨rfl, rfl, rfl, by decide +kernel, rfl, by decide +kernel, by decide +kernel⟩
abbrev s__law_places_right : Stmt := topS 27
theorem sc__law_places_right : FnScope ["tree", "many", "wide", "place", "way", "below", "other"] ["tree", "many", "wide"] (defScope s__law_places_right) := ⟨rfl, rfl, rfl, by decide +kernel, rfl, by decide +kernel, by decide +kernel⟩
abbrev s_law : Stmt := topS 28
theorem sc_law : FnScope ["script", "draw", "many", "wide", "other", "tree", "thing", "due", "row", "place"] ["script"] (defScope s_law) := ⟨rfl, rfl, rfl, by decide +kernel, rfl, by decide +kernel, by decide +kernel⟩
/-- where the text's defs stand -/
structure Ad where
  f_is_integer : Addr
  d_is_integer : FuncData
  f_is_integer_from : Addr
  d_is_integer_from : FuncData
  f_is_key : Addr
  d_is_key : FuncData
  f_check_arms : Addr
  d_check_arms : FuncData
  f_check_many : Addr
  d_check_many : FuncData
  f_check_place : Addr
  d_check_place : FuncData
  f_row_of : Addr
  d_row_of : FuncData
  f_t___init__ : Addr
  d_t___init__ : FuncData
  f_t_of : Addr
  d_t_of : FuncData
  f_t___len__ : Addr
  d_t___len__ : FuncData
  f_t___contains__ : Addr
  d_t___contains__ : FuncData
  f_t___iter__ : Addr
  d_t___iter__ : FuncData
  f_t___getitem__ : Addr
  d_t___getitem__ : FuncData
  f_t___eq__ : Addr
  d_t___eq__ : FuncData
  f_t_parent : Addr
  d_t_parent : FuncData
  f_t_way_to : Addr
  d_t_way_to : FuncData
  f_t_depth : Addr
  d_t_depth : FuncData
  f_t_size : Addr
  d_t_size : FuncData
  f_t_height : Addr
  d_t_height : FuncData
  f_t_subtree : Addr
  d_t_subtree : FuncData
  f__law_number : Addr
  d__law_number : FuncData
  f__law_take : Addr
  d__law_take : FuncData
  f__law_parent : Addr
  d__law_parent : FuncData
  f__law_children : Addr
  d__law_children : FuncData
  f__law_way : Addr
  d__law_way : FuncData
  f__law_subtree : Addr
  d__law_subtree : FuncData
  f__law_keys : Addr
  d__law_keys : FuncData
  f__law_places_right : Addr
  d__law_places_right : FuncData
  f_law : Addr
  d_law : FuncData
  C : Addr
  po : Addr
/-- what the top has written -/
structure Tx (K : PySem.W.Frag) (mg : Str → Option Value) (A : Ad) : Prop where
  F_is_integer : Fun K "is_integer" "is_integer" s_is_integer A.f_is_integer A.d_is_integer
  m_is_integer : mg "is_integer" = some (.ref A.f_is_integer)
  F_is_integer_from : Fun K "is_integer_from" "is_integer_from" s_is_integer_from A.f_is_integer_from A.d_is_integer_from
  m_is_integer_from : mg "is_integer_from" = some (.ref A.f_is_integer_from)
  F_is_key : Fun K "is_key" "is_key" s_is_key A.f_is_key A.d_is_key
  m_is_key : mg "is_key" = some (.ref A.f_is_key)
  F_check_arms : Fun K "check_arms" "check_arms" s_check_arms A.f_check_arms A.d_check_arms
  m_check_arms : mg "check_arms" = some (.ref A.f_check_arms)
  F_check_many : Fun K "check_many" "check_many" s_check_many A.f_check_many A.d_check_many
  m_check_many : mg "check_many" = some (.ref A.f_check_many)
  F_check_place : Fun K "check_place" "check_place" s_check_place A.f_check_place A.d_check_place
  m_check_place : mg "check_place" = some (.ref A.f_check_place)
  F_row_of : Fun K "row_of" "row_of" s_row_of A.f_row_of A.d_row_of
  m_row_of : mg "row_of" = some (.ref A.f_row_of)
  F_t___init__ : FunD K "__init__" "Tree.__init__" (defArgs s_t___init__) (defBody s_t___init__) (defScope s_t___init__) [] [("arms", V.int 2)] A.f_t___init__ A.d_t___init__
  F_t_of : FunD K "of" "Tree.of" (defArgs s_t_of) (defBody s_t_of) (defScope s_t_of) [] [("arms", V.int 2)] A.f_t_of A.d_t_of
  F_t___len__ : Fun K "__len__" "Tree.__len__" s_t___len__ A.f_t___len__ A.d_t___len__
  D_t___len__ : Dn K A.C "__len__" A.f_t___len__
  F_t___contains__ : Fun K "__contains__" "Tree.__contains__" s_t___contains__ A.f_t___contains__ A.d_t___contains__
  D_t___contains__ : Dn K A.C "__contains__" A.f_t___contains__
  F_t___iter__ : Fun K "__iter__" "Tree.__iter__" s_t___iter__ A.f_t___iter__ A.d_t___iter__
  D_t___iter__ : Dn K A.C "__iter__" A.f_t___iter__
  F_t___getitem__ : Fun K "__getitem__" "Tree.__getitem__" s_t___getitem__ A.f_t___getitem__ A.d_t___getitem__
  D_t___getitem__ : Dn K A.C "__getitem__" A.f_t___getitem__
  F_t___eq__ : Fun K "__eq__" "Tree.__eq__" s_t___eq__ A.f_t___eq__ A.d_t___eq__
  F_t_parent : Fun K "parent" "Tree.parent" s_t_parent A.f_t_parent A.d_t_parent
  M_t_parent : Meth K A.C "parent" A.f_t_parent
  F_t_way_to : Fun K "way_to" "Tree.way_to" s_t_way_to A.f_t_way_to A.d_t_way_to
  M_t_way_to : Meth K A.C "way_to" A.f_t_way_to
  F_t_depth : Fun K "depth" "Tree.depth" s_t_depth A.f_t_depth A.d_t_depth
  M_t_depth : Meth K A.C "depth" A.f_t_depth
  F_t_size : Fun K "size" "Tree.size" s_t_size A.f_t_size A.d_t_size
  M_t_size : Meth K A.C "size" A.f_t_size
  F_t_height : Fun K "height" "Tree.height" s_t_height A.f_t_height A.d_t_height
  M_t_height : Meth K A.C "height" A.f_t_height
  F_t_subtree : Fun K "subtree" "Tree.subtree" s_t_subtree A.f_t_subtree A.d_t_subtree
  M_t_subtree : Meth K A.C "subtree" A.f_t_subtree
  F__law_number : Fun K "_law_number" "_law_number" s__law_number A.f__law_number A.d__law_number
  m__law_number : mg "_law_number" = some (.ref A.f__law_number)
  F__law_take : Fun K "_law_take" "_law_take" s__law_take A.f__law_take A.d__law_take
  m__law_take : mg "_law_take" = some (.ref A.f__law_take)
  F__law_parent : Fun K "_law_parent" "_law_parent" s__law_parent A.f__law_parent A.d__law_parent
  m__law_parent : mg "_law_parent" = some (.ref A.f__law_parent)
  F__law_children : Fun K "_law_children" "_law_children" s__law_children A.f__law_children A.d__law_children
  m__law_children : mg "_law_children" = some (.ref A.f__law_children)
  F__law_way : Fun K "_law_way" "_law_way" s__law_way A.f__law_way A.d__law_way
  m__law_way : mg "_law_way" = some (.ref A.f__law_way)
  F__law_subtree : Fun K "_law_subtree" "_law_subtree" s__law_subtree A.f__law_subtree A.d__law_subtree
  m__law_subtree : mg "_law_subtree" = some (.ref A.f__law_subtree)
  F__law_keys : Fun K "_law_keys" "_law_keys" s__law_keys A.f__law_keys A.d__law_keys
  m__law_keys : mg "_law_keys" = some (.ref A.f__law_keys)
  F__law_places_right : Fun K "_law_places_right" "_law_places_right" s__law_places_right A.f__law_places_right A.d__law_places_right
  m__law_places_right : mg "_law_places_right" = some (.ref A.f__law_places_right)
  F_law : Fun K "law" "law" s_law A.f_law A.d_law
  m_law : mg "law" = some (.ref A.f_law)
  c_MOST_ARMS : mg "MOST_ARMS" = some (.int 4 0) ∨ ∃ t, mg "MOST_ARMS" = some (.int 4 t)
  c_MOST_PLACES : mg "MOST_PLACES" = some (.int 12 0) ∨ ∃ t, mg "MOST_PLACES" = some (.int 12 t)
  c_GREATEST_KEY : mg "GREATEST_KEY" = some (.int 1000000000 0) ∨ ∃ t, mg "GREATEST_KEY" = some (.int 1000000000 t)
  g_isinstance : mg "isinstance" = none
  g_int : mg "int" = none
  g_bool : mg "bool" = none
  g_len : mg "len" = none
  g_tuple : mg "tuple" = none
  g_list : mg "list" = none
  g_range : mg "range" = none
  g_enumerate : mg "enumerate" = none
  g_iter : mg "iter" = none
  g_max : mg "max" = none
  g_sum : mg "sum" = none
  cT : Cls K A.C
  nMany : NoAttr K A.C "many"
  nArms : NoAttr K A.C "arms"
  nPl : NoAttr K A.C "_places"
  mC : mg "Tree" = some (.ref A.C)
  mkC : Mk K A.C A.f_t___init__
  cr : ClX.CRead K A.C (.type "type")
  eqc : EqC K A.C A.f_t___eq__
  ka : PySem.W.findIn K (.ref A.C) "__class__" = some (some (.builtin "object.__class__"))
  kn : PySem.W.specialIn K (.builtin "object.__class__") "__get__" = some (some (.builtin "getset_descriptor.__get__"))
  ktk : PySem.W.takesIn K (.builtin "object.__class__") = some true
  km : PySem.W.mroIn K A.C (.type "object") = some true
  ki : PySem.W.kitOne K (.type "int") (.ref A.C) = some false
  cof : ClX.CMet K A.C (.type "type") "of" A.po A.f_t_of

section
variable {P : Program} {w : World} {K : PySem.W.Frag} {mg : Str → Option Value} {base : Heap} {A : Ad}
theorem cst {x : Str} {n : Int} (h : mg x = some (.int n 0) ∨ ∃ t, mg x = some (.int n t)) : ∃ t, mg x = some (.int n t) := h.elim (fun e => ⟨0, e⟩) id

/-- True just for ints -/
def spIs (K : PySem.W.Frag) : Sp := fun vs H Q _ => ∃ x : V, vs = [x] ∧
  ((∃ i, x = .int i ∧ Q (.bl true) H) ∨ (∃ n b1 b2, TyX K H x (.type n) ∧ kitB n "int" = some b1 ∧ kitB n "bool" = some b2 ∧ (b1 && !b2) = false ∧ Q (.bl false) H))
theorem ok_is (T : Tx K mg A) : FnOk P w K mg base CX0 1 A.f_is_integer A.d_is_integer ["thing"] (spIs K) := by
  refine T.F_is_integer.ok sc_is_integer (fun vs H Q E h => ?_) (fun cdv B outer s H vs Q E hr h => ?_)
  · obtain ⟨x, rfl, _⟩ := h
    rfl
  · obtain ⟨x, rfl, h⟩ := h
    refine ⟨_, pss_one (ps_ret (pe_and (pe_callB call_isi (by rfl) T.g_isinstance (by decide +kernel) (pa_cons (pv 0) (pa_cons (pe_bltn (v := .ty "int") (by rfl) T.g_int (by decide +kernel) rfl) pa_nil)))
      (pe_one (pe_not (pe_callB call_isi (by rfl) T.g_isinstance (by decide +kernel) (pa_cons (pv 0) (pa_cons (pe_bltn (v := .ty "bool") (by rfl) T.g_bool (by decide +kernel) rfl) pa_nil))))))), ?_⟩
    rcases h with ⟨i, rfl, q⟩ | ⟨n, b1, b2, ty, k1, k2, hb, q⟩
    · refine ⟨_, rfl, _, _, .type "int", .type "int", true, rfl, .ty "int", .base (.int i), kit_ty (by decide +kernel), true, rfl, iteT ?_⟩
      exact ⟨_, rfl, _, _, .type "int", .type "bool", false, rfl, .ty "bool", .base (.int i), kit_ty (by decide +kernel), false, rfl, q⟩
    · refine ⟨_, rfl, _, _, .type n, .type "int", b1, rfl, .ty "int", ty, kit_ty k1, b1, rfl, ?_⟩
      cases b1 with
      | false => exact iteF q
      | true =>
        cases b2 with
        | false => cases hb
        | true => exact iteT ⟨_, rfl, _, _, .type n, .type "bool", true, rfl, .ty "bool", ty, kit_ty k2, true, rfl, q⟩
theorem b_is (T : Tx K mg A) : L2.Binds K A.d_is_integer ["thing"] [] := T.F_is_integer.binds fun _ _ _ _ _ _ us hl => match us, hl with | [_], _ => rfl
/-- True just for ints within; other things by their class -/
def spII (K : PySem.W.Frag) : Sp := fun vs H Q _ => ∃ (x : V) (a b : Int), vs = [x, .int a, .int b] ∧
  ((∃ i, x = .int i ∧ Q (.bl (decide (a ≤ i ∧ i ≤ b))) H) ∨ (∃ n b1 b2, TyX K H x (.type n) ∧ kitB n "int" = some b1 ∧ kitB n "bool" = some b2 ∧ (b1 && !b2) = false ∧ Q (.bl false) H))
theorem ok_ii (T : Tx K mg A) : FnOk P w K mg base CX0 2 A.f_is_integer_from A.d_is_integer_from ["thing", "least", "greatest"] (spII K) := by
  refine T.F_is_integer_from.ok sc_is_integer_from (fun vs H Q E h => ?_) (fun cdv B outer s H vs Q E hr h => ?_)
  · obtain ⟨x, a, b, rfl, _⟩ := h
    rfl
  · obtain ⟨x, a, b, rfl, h⟩ := h
    refine ⟨_, pss_one (ps_ret (pe_and (pe_call (ok_is T) hr (by rfl) T.m_is_integer T.F_is_integer.kp (b_is T) .nil pass0 (pa_cons (pv 0) pa_nil))
        (pe_one (pe_chain op_le op_le (pv 1) (pv 0) (pv 2))))), ?_⟩
    rcases h with ⟨i, rfl, q⟩ | h
    · refine ⟨_, rfl, _, rfl, .inl ⟨i, rfl, true, rfl, iteT ?_⟩⟩
      refine ⟨_, rfl, _, rfl, _, _, rfl, rfl, _, rfl, ?_⟩
      by_cases h1 : a ≤ i
      · rw [decide_eq_true h1]
        refine iteT ⟨_, rfl, _, _, rfl, rfl, ?_⟩
        have e : decide (a ≤ i ∧ i ≤ b) = decide (i ≤ b) := by simp [h1]
        rw [e] at q
        exact q
      · rw [decide_eq_false h1]
        have e : decide (a ≤ i ∧ i ≤ b) = false := by simp [h1]
        rw [e] at q
        exact iteF q
    · obtain ⟨n, b1, b2, ty, k1, k2, hb, q⟩ := h
      exact ⟨_, rfl, _, rfl, .inr ⟨n, b1, b2, ty, k1, k2, hb, false, rfl, iteF q⟩⟩
theorem b_ii (T : Tx K mg A) : L2.Binds K A.d_is_integer_from ["thing", "least", "greatest"] [] := T.F_is_integer_from.binds fun _ _ _ _ _ _ us hl => match us, hl with | [_, _, _], _ => rfl

/-- is_key of an int -/
def spKey : Sp := fun vs H Q _ => ∃ i : Int, vs = [.int i] ∧ Q (.bl (decide (-1000000000 ≤ i ∧ i ≤ 1000000000))) H
theorem ok_key (T : Tx K mg A) : FnOk P w K mg base CX0 3 A.f_is_key A.d_is_key ["thing"] spKey := by
  refine T.F_is_key.ok sc_is_key (fun vs H Q E h => ?_) (fun cdv B outer s H vs Q E hr h => ?_)
  · obtain ⟨i, rfl, _⟩ := h
    rfl
  · obtain ⟨i, rfl, q⟩ := h
    obtain ⟨t, hg⟩ := cst T.c_GREATEST_KEY
    refine ⟨_, pss_one (ps_ret (pe_call (ok_ii T) hr (by rfl) T.m_is_integer_from T.F_is_integer_from.kp (b_ii T) .nil pass0
      (pa_cons (pv 0) (pa_cons (pe_un un_neg (pe_glob (by rfl) hg (relI _ _))) (pa_cons (pe_glob (by rfl) hg (relI _ _)) pa_nil))))), ?_⟩
    exact ⟨_, rfl, _, rfl, _, _, _, rfl, .inl ⟨i, rfl, q⟩⟩
theorem b_key (T : Tx K mg A) : L2.Binds K A.d_is_key ["thing"] [] := T.F_is_key.binds fun _ _ _ _ _ _ us hl => match us, hl with | [_], _ => rfl
def spCa : Sp := fun vs H Q _ => ∃ i : Int, vs = [.int i] ∧ (1 ≤ i ∧ i ≤ 4) ∧ Q .non H
theorem ok_ca (T : Tx K mg A) : FnOk P w K mg base CX0 3 A.f_check_arms A.d_check_arms ["arms"] spCa := by
  refine T.F_check_arms.ok sc_check_arms (fun vs H Q E h => ?_) (fun cdv B outer s H vs Q E hr h => ?_)
  · obtain ⟨i, rfl, _⟩ := h
    rfl
  · obtain ⟨i, rfl, hi, q⟩ := h
    obtain ⟨t, hg⟩ := cst T.c_MOST_ARMS
    refine ⟨_, pss_one (ps_if (pt_not (pt_val (pe_call (ok_ii T) hr (by rfl) T.m_is_integer_from T.F_is_integer_from.kp (b_ii T) .nil pass0
      (pa_cons (pv 0) (pa_cons pe_int (pa_cons (pe_glob (by rfl) hg (relI _ _)) pa_nil)))))) (pss_one ps_never) pss_nil), ?_⟩
    refine ⟨_, rfl, _, _, _, rfl, .inl ⟨i, rfl, _, rfl, ?_⟩⟩
    rw [decide_eq_true hi]
    exact iteF q
theorem b_ca (T : Tx K mg A) : L2.Binds K A.d_check_arms ["arms"] [] := T.F_check_arms.binds fun _ _ _ _ _ _ us hl => match us, hl with | [_], _ => rfl
def spCm : Sp := fun vs H Q _ => ∃ i : Int, vs = [.int i] ∧ (0 ≤ i ∧ i ≤ 12) ∧ Q .non H
theorem ok_cm (T : Tx K mg A) : FnOk P w K mg base CX0 3 A.f_check_many A.d_check_many ["many"] spCm := by
  refine T.F_check_many.ok sc_check_many (fun vs H Q E h => ?_) (fun cdv B outer s H vs Q E hr h => ?_)
  · obtain ⟨i, rfl, _⟩ := h
    rfl
  · obtain ⟨i, rfl, hi, q⟩ := h
    obtain ⟨t, hg⟩ := cst T.c_MOST_PLACES
    refine ⟨_, pss_one (ps_if (pt_not (pt_val (pe_call (ok_ii T) hr (by rfl) T.m_is_integer_from T.F_is_integer_from.kp (b_ii T) .nil pass0
      (pa_cons (pv 0) (pa_cons pe_int (pa_cons (pe_glob (by rfl) hg (relI _ _)) pa_nil)))))) (pss_one ps_never) pss_nil), ?_⟩
    refine ⟨_, rfl, _, _, _, rfl, .inl ⟨i, rfl, _, rfl, ?_⟩⟩
    rw [decide_eq_true hi]
    exact iteF q
theorem b_cm (T : Tx K mg A) : L2.Binds K A.d_check_many ["many"] [] := T.F_check_many.binds fun _ _ _ _ _ _ us hl => match us, hl with | [_], _ => rfl
def spCp : Sp := fun vs H Q _ => ∃ i n : Int, vs = [.int i, .int n] ∧ (0 ≤ i ∧ i < n) ∧ Q .non H
theorem ok_cp (T : Tx K mg A) : FnOk P w K mg base CX0 3 A.f_check_place A.d_check_place ["place", "many"] spCp := by
  refine T.F_check_place.ok sc_check_place (fun vs H Q E h => ?_) (fun cdv B outer s H vs Q E hr h => ?_)
  · obtain ⟨i, n, rfl, _⟩ := h
    rfl
  · obtain ⟨i, n, rfl, hi, q⟩ := h
    refine ⟨_, pss_one (ps_if (pt_not (pt_val (pe_call (ok_ii T) hr (by rfl) T.m_is_integer_from T.F_is_integer_from.kp (b_ii T) .nil pass0
      (pa_cons (pv 0) (pa_cons pe_int (pa_cons (pe_op op_sub (pv 1) pe_int) pa_nil)))))) (pss_one ps_never) pss_nil), ?_⟩
    refine ⟨_, rfl, _, rfl, _, _, rfl, rfl, _, _, _, rfl, .inl ⟨i, rfl, _, rfl, ?_⟩⟩
    rw [decide_eq_true (show 0 ≤ i ∧ i ≤ n - 1 by omega)]
    exact iteF q
theorem b_cp (T : Tx K mg A) : L2.Binds K A.d_check_place ["place", "many"] [] := T.F_check_place.binds fun _ _ _ _ _ _ us hl => match us, hl with | [_, _], _ => rfl
/-- a list of keys goes in, a tuple of them comes out -/
def spRow (K : PySem.W.Frag) : Sp := fun vs H Q _ => ∃ (a : Addr) (ns : List Int), vs = [.ref a] ∧ H a = some (.lst (ns.map V.int)) ∧ ns.length ≤ 12 ∧ (∀ n ∈ ns, -1000000000 ≤ n ∧ n ≤ 1000000000) ∧
  ∀ H' p, Same H H' → H p = none → H' p = some (.tup (ns.map V.int)) → Q (.ref p) H'
theorem ok_row (T : Tx K mg A) : FnOk P w K mg base CX0 4 A.f_row_of A.d_row_of ["row"] (spRow K) := by
  refine T.F_row_of.ok sc_row_of (fun vs H Q E h => ?_) (fun cdv B outer s H vs Q E hr h => ?_)
  · obtain ⟨a, ns, rfl, _⟩ := h
    rfl
  · obtain ⟨a, ns, rfl, ha, hl, hk, q⟩ := h
    obtain ⟨t, hg⟩ := cst T.c_MOST_PLACES
    refine ⟨_, pss_cons (ps_if (PW.pt (pw_or (pt_not (pt_val (pe_callB call_isiT (by rfl) T.g_isinstance (by decide +kernel) (pa_cons (pv 0) (pa_cons (pe_tup (pa_cons (pe_bltn (v := .ty "list") (by rfl) T.g_list (by decide +kernel) rfl) (pa_cons (pe_bltn (v := .ty "tuple") (by rfl) T.g_tuple (by decide +kernel) rfl) pa_nil))) pa_nil)))))
        (pw_or1 (pt_cmpR op_gt (pe_callB call_len_seq (by rfl) T.g_len PySem.boot_len (pa_cons (pv 0) pa_nil)) (pe_glob (by rfl) hg (relI _ _)) (nomark _))))) (pss_one ps_never) pss_nil)
      (pss_cons (ps_for PassesOwn.never rfl (pi_enum (by rfl) T.g_enumerate (pa_cons (pv 0) pa_nil)) (pg_tup rfl (pgs_cons (pg_name (i := 1) sc_row_of.nd rfl (Or.inl rfl)) (pgs_cons (pg_name (i := 2) sc_row_of.nd rfl (Or.inl rfl)) pgs_nil)))
        (pss_one (ps_if (pt_not (pt_val (pe_call (ok_key T) hr (by rfl) T.m_is_key T.F_is_key.kp (b_key T) .nil pass0 (pa_cons (pv 2) pa_nil)))) (pss_one ps_never) pss_nil)))
      (pss_one (ps_ret (pe_callTy call_tuple_of (by rfl) T.g_tuple (by decide +kernel) (pa_cons (pv 0) pa_nil))))), ?_⟩
    refine ⟨_, rfl, by show 2 ≤ sizeLine; decide, fun tp htp => ?_⟩
    have na : a ≠ tp := ne_of_none ha htp
    have ha1 : upd H tp (.tup [.ty "list", .ty "tuple"]) a = some (.lst (ns.map V.int)) := by rw [upd_ne na]; exact ha
    refine ⟨_, tp, _, .type "list", [.type "list", .type "tuple"], true, rfl, upd_same, .cons (.ty _) (.cons (.ty _) .nil), .base (.lst ha1), kitAny_cons (b := true) (kit_ty (by decide +kernel)) (fun z => by cases z) (fun _ => rfl), true, rfl, ?_⟩
    refine iteF ⟨_, rfl, a, _, rfl, .inl (SqL.of ha1), _, _, rfl, rfl, _, rfl, ite2 (fun z => ?_) (fun _ => ?_)⟩
    · exfalso
      rw [List.length_map] at z
      have := of_decide_eq_true z
      omega
    refine ⟨_, rfl, a, _, rfl, SqL.of ha1, for_it (walk_enum (xs := ns.map V.int)) (fun i σ H' => ∃ z y, σ = [some (.ref a), z, y] ∧ Same H H') ⟨none, none, rfl, Same.up htp⟩ (fun i σ H' _ ⟨_, _, _, s⟩ => SqL.of (s _ _ ha)) ?_ ?_⟩
    · rintro i v σ H2 H3 hi ⟨z, y, rfl, s⟩ ⟨T', x, x2, rfl, hT, rfl, e1, e2⟩
      obtain ⟨hi', rfl⟩ := ints_at e2
      cases e1
      refine ⟨_, _, rfl, SqT.of upd_same, rfl, _, _, rfl, _, _, rfl, rfl, ?_⟩
      refine ⟨_, rfl, _, rfl, _, rfl, ?_⟩
      rw [decide_eq_true (hk _ (List.getElem_mem hi'))]
      exact iteF ⟨_, _, rfl, s.trans (Same.up hT)⟩
    · rintro σ H2 ⟨z, y, rfl, s⟩
      exact ⟨_, rfl, a, _, rfl, .inl ⟨SqL.of (s _ _ ha), fun p hp => q _ _ (s.trans (Same.up hp)) (s.free hp) upd_same⟩⟩
theorem b_row (T : Tx K mg A) : L2.Binds K A.d_row_of ["row"] [] := T.F_row_of.binds fun _ _ _ _ _ _ us hl => match us, hl with | [_], _ => rfl
end

end Tw

set_option Elab.async false
set_option linter.all false
set_option maxRecDepth 100000
set_option maxHeartbeats 2000000
namespace Tw
open PySem PySem.Spec PyProof.Rows L2
section
variable {P : Program} {w : World} {K : PySem.W.Frag} {mg : Str → Option Value} {base : Heap} {A : Ad}
/-! the tree -/
/-- the places of a tree -/
def pl (n : Nat) : List V := (List.range n).map fun i => V.int (i : Nat)
theorem rg_pl (n : Nat) : rgV 0 (n : Int) = pl n := by
  unfold rgV pl
  rw [show ((n : Int) - 0).toNat = n by omega]
  exact congrArg (fun f => (List.range n).map f) (funext fun i => by rw [Int.zero_add])
theorem n1 : ¬ (("many" : Str) = "arms") := by decide +kernel
theorem n2 : ¬ (("many" : Str) = "_places") := by decide +kernel
theorem n3 : ¬ (("arms" : Str) = "_places") := by decide +kernel
/-- its attributes -/
def tf (n w t : Nat) : List (Str × V) := putF "_places" (.ref t) (putF "arms" (.int w) (putF "many" (.int n) []))
theorem tf_eq (n w t : Nat) : tf n w t = ([("many", V.int n), ("arms", V.int w), ("_places", V.ref t)] : List (Str × V)) := by
  unfold tf
  simp only [putF, n1, n2, n3, if_false]
theorem tf_many (n w t : Nat) : (tf n w t).lookup ("many" : Str) = some (.int n) := by
  unfold tf
  rw [lookup_putF, if_neg n2, lookup_putF, if_neg n1, lookup_putF, if_pos rfl]
theorem tf_arms (n w t : Nat) : (tf n w t).lookup ("arms" : Str) = some (.int w) := by
  unfold tf
  rw [lookup_putF, if_neg n3, lookup_putF, if_pos rfl]
theorem tf_pl (n w t : Nat) : (tf n w t).lookup ("_places" : Str) = some (.ref t) := by
  unfold tf
  rw [lookup_putF, if_pos rfl]
theorem tf_no (n w t : Nat) {m : Str} (h1 : ¬ m = "many") (h2 : ¬ m = "arms") (h3 : ¬ m = "_places") : (tf n w t).lookup m = none := by
  unfold tf
  rw [lookup_putF, if_neg h3, lookup_putF, if_neg h2, lookup_putF, if_neg h1]
  rfl
/-- a tree of n places and w arms stands at p -/
structure TreeAt (C : Addr) (H : Hp) (p n w : Nat) : Prop where
  ob : ∃ dx t, H p = some (.ins C dx (tf n w t)) ∧ H t = some (.tup (pl n))
  hn : n ≤ 12
  hw : 1 ≤ w ∧ w ≤ 4
theorem TreeAt.same {C : Addr} {H H' : Hp} {p n w : Nat} (h : TreeAt C H p n w) (s : Same H H') : TreeAt C H' p n w :=
  ⟨let ⟨dx, t, a, b⟩ := h.ob; ⟨dx, t, s _ _ a, s _ _ b⟩, h.hn, h.hw⟩

def spInit (C : Addr) : Sp := fun vs H Q _ => ∃ (p dx n w : Nat), vs = [.ref p, .int n, .int w] ∧ n ≤ 12 ∧ (1 ≤ w ∧ w ≤ 4) ∧ H p = some (.ins C dx []) ∧
  ∀ (H' : Hp), (∀ b o, H b = some o → b ≠ p → H' b = some o) → TreeAt C H' p n w → Q .non H'
theorem ok_init (T : Tx K mg A) : FnOk P w K mg base CX0 4 A.f_t___init__ A.d_t___init__ ["self", "many", "arms"] (spInit A.C) := by
  refine T.F_t___init__.ok sc_t___init__ (fun vs H Q E h => ?_) (fun cdv B outer s H vs Q E hr h => ?_)
  · obtain ⟨p, dx, n, w, rfl, _⟩ := h
    rfl
  · obtain ⟨p, dx, n, w, rfl, hn, hw, hp, q⟩ := h
    refine ⟨_, PSs.nox (pss_cons (ps_expr (pe_call (ok_ca T) hr (by rfl) T.m_check_arms T.F_check_arms.kp (b_ca T) .nil pass0 (pa_cons (pv 2) pa_nil)))
      (pss_cons (ps_expr (pe_call (ok_cm T) hr (by rfl) T.m_check_many T.F_check_many.kp (b_cm T) .nil pass0 (pa_cons (pv 1) pa_nil)))
      (pss_cons (ps_fld (pv 0) (pv 1) rfl) (pss_cons (ps_fld (pv 0) (pv 2) rfl)
      (pss_one (ps_fld (pv 0) (pe_tupRg rfl (by rfl) T.g_tuple (prg_1 (by rfl) T.g_range (pv 1))) rfl)))))), ?_⟩
    refine ⟨_, rfl, _, rfl, ⟨by omega, by omega⟩, _, rfl, _, rfl, ⟨by omega, by omega⟩, ?_⟩
    refine ⟨_, rfl, _, rfl, p, A.C, dx, _, rfl, hp, T.cT, T.nMany, (by show 0 < 1000; decide), ?_⟩
    refine ⟨_, rfl, _, rfl, p, A.C, dx, _, rfl, upd_same, T.cT, T.nArms, (by show 1 < 1000; decide), ?_⟩
    refine ⟨_, rfl, _, rfl, RgOk.of_le (by omega) (by omega) (by omega) (by omega), fun t ht => ?_⟩
    have npt : p ≠ t := fun z => by
      rw [z, upd_same] at ht
      cases ht
    refine ⟨_, rfl, p, A.C, dx, _, rfl, Eq.trans (upd_ne npt) upd_same, T.cT, T.nPl, (by simp only [putF, n1, if_false]; show 2 < 1000; decide), ?_⟩
    refine q _ (fun b o e hb => ?_) ⟨⟨dx, t, upd_same, ?_⟩, hn, hw⟩
    · have nbt : b ≠ t := ne_of_none (by rw [upd_ne hb, upd_ne hb]; exact e) ht
      rw [upd_ne hb, upd_ne nbt, upd_ne hb, upd_ne hb]
      exact e
    · rw [upd_ne npt.symm, upd_same, rg_pl]

theorem kb_init (T : Tx K mg A) : ∃ mv : List Value, KBn K A.d_t___init__ ["self", "many", "arms"] 2 ["arms"] (fun us ws => us ++ (mv ++ ws)) (fun vs zs => vs ++ zs) := by
  obtain ⟨mv, h⟩ := T.F_t___init__.kbinds0 (ps := ["self", "many", "arms"]) 2 ["arms"] [] (fun us mv ws => us ++ (mv ++ ws)) (by simp) (by simp) (fun r1 r2 r3 => r1.append (r2.append r3))
    (fun D doc pm an cdv ct us mv ws h1 h2 h3 => by
      match us, mv, ws, h1, h2, h3 with
      | [a, b], [], [c], _, _, _ => rfl)
  exact ⟨mv, h⟩
theorem bd_init (T : Tx K mg A) : ∃ ds, Vals [V.int 2] ds ∧ L2.Binds K A.d_t___init__ ["self", "many", "arms"] ds := by
  refine T.F_t___init__.binds0 2 (by simp) rfl (fun D doc pm an cdv ct us ks h1 h2 => ?_)
  match us, ks, h1, h2 with
  | [a, b], [c], _, _ => exact ⟨_, _, _, _, _, _, rfl, rfl, rfl⟩
def spOf (K : PySem.W.Frag) (C : Addr) : Sp := fun vs H Q _ => ∃ (a w : Nat) (ns : List Int), vs = [.ref C, .ref a, .int w] ∧ (1 ≤ w ∧ w ≤ 4) ∧ H a = some (.lst (ns.map V.int)) ∧ ns.length ≤ 12 ∧ (∀ n ∈ ns, -1000000000 ≤ n ∧ n ≤ 1000000000) ∧
  ∀ (H' : Hp) p, Same H H' → H p = none → TreeAt C H' p ns.length w → Q (.ref p) H'
theorem ok_of (T : Tx K mg A) : FnOk P w K mg base CX0 6 A.f_t_of A.d_t_of ["cls", "row", "arms"] (spOf K A.C) := by
  obtain ⟨mv, kb⟩ := kb_init T
  refine T.F_t_of.ok sc_t_of (fun vs H Q E h => ?_) (fun cdv B outer s H vs Q E hr h => ?_)
  · obtain ⟨a, w, ns, rfl, _⟩ := h
    rfl
  · obtain ⟨a, w, ns, rfl, hw, ha, hl, hk, q⟩ := h
    refine ⟨_, PSs.nox (pss_cons (ps_expr (pe_call (ok_ca T) (hr.mono (by decide)) (by rfl) T.m_check_arms T.F_check_arms.kp (b_ca T) .nil pass0 (pa_cons (pv 2) pa_nil)))
      (pss_one (ps_ret (pe_makeLK (i := 0) T.mkC (ok_init T) hr kb pass0 (pa_cons (pe_callB call_len_seq (by rfl) T.g_len PySem.boot_len (pa_cons (pe_call (ok_row T) (hr.mono (by decide)) (by rfl) T.m_row_of T.F_row_of.kp (b_row T) .nil pass0 (pa_cons (pv 1) pa_nil)) pa_nil)) pa_nil)
        (pk_cons (pv 2) pk_nil) rfl (Or.inl rfl))))), ?_⟩
    refine ⟨_, rfl, _, rfl, ⟨by omega, by omega⟩, rfl, _, rfl, a, ns, rfl, ha, hl, hk, fun H1 p s1 p0 hp => ?_⟩
    refine ⟨p, _, rfl, .inr (SqT.of hp), _, rfl, rfl, rfl, fun x dx nx ndx nex => ?_⟩
    refine ⟨x, dx, ns.length, w, by rw [List.length_map]; rfl, hl, hw, upd_same, fun H2 k2 t2 => ⟨rfl, q H2 x (fun b o e => k2 b o ?_ (ne_of_none (s1 _ _ e) nx)) (s1.free nx) t2⟩⟩
    rw [upd_ne (ne_of_none (s1 _ _ e) nx), upd_ne (ne_of_none (s1 _ _ e) ndx)]
    exact s1 _ _ e

end

end Tw

set_option Elab.async false
set_option linter.all false
set_option maxRecDepth 100000
set_option maxHeartbeats 2000000
namespace Tw
open PySem PySem.Spec PyProof.Rows L2
section
variable {P : Program} {w : World} {K : PySem.W.Frag} {mg : Str → Option Value} {base : Heap} {A : Ad}

theorem bnd {k : Nat} {v : V} {x qual : Str} {st : Stmt} {f : Addr} {fd : FuncData} {ps : List Str} (F : Fun K x qual st f fd) (h : ∀ (kV doc pm : Value) (an : Option Addr) (cdv ct : Value) (us : List Value), us.length = ps.length → bindArgs (PySem.W.fnOf x qual (defArgs st) (defBody st) (defScope st) .none kV doc pm an cdv ct) ⟨us, []⟩ = pure (ps.zip us)) : L2.Binds K fd ps [] := F.binds h
theorem b_len (T : Tx K mg A) : L2.Binds K A.d_t___len__ ["self"] [] := T.F_t___len__.binds fun _ _ _ _ _ _ us hl => match us, hl with | [_], _ => rfl
theorem b_cont (T : Tx K mg A) : L2.Binds K A.d_t___contains__ ["self", "thing"] [] := T.F_t___contains__.binds fun _ _ _ _ _ _ us hl => match us, hl with | [_, _], _ => rfl
theorem b_iter (T : Tx K mg A) : L2.Binds K A.d_t___iter__ ["self"] [] := T.F_t___iter__.binds fun _ _ _ _ _ _ us hl => match us, hl with | [_], _ => rfl
theorem b_gi (T : Tx K mg A) : L2.Binds K A.d_t___getitem__ ["self", "place"] [] := T.F_t___getitem__.binds fun _ _ _ _ _ _ us hl => match us, hl with | [_, _], _ => rfl
theorem b_eq (T : Tx K mg A) : L2.Binds K A.d_t___eq__ ["self", "other"] [] := T.F_t___eq__.binds fun _ _ _ _ _ _ us hl => match us, hl with | [_, _], _ => rfl
theorem b_par (T : Tx K mg A) : L2.Binds K A.d_t_parent ["self", "place"] [] := T.F_t_parent.binds fun _ _ _ _ _ _ us hl => match us, hl with | [_, _], _ => rfl
theorem b_way (T : Tx K mg A) : L2.Binds K A.d_t_way_to ["self", "place"] [] := T.F_t_way_to.binds fun _ _ _ _ _ _ us hl => match us, hl with | [_, _], _ => rfl
theorem b_dep (T : Tx K mg A) : L2.Binds K A.d_t_depth ["self", "place"] [] := T.F_t_depth.binds fun _ _ _ _ _ _ us hl => match us, hl with | [_, _], _ => rfl
theorem b_siz (T : Tx K mg A) : L2.Binds K A.d_t_size ["self", "place"] [] := T.F_t_size.binds fun _ _ _ _ _ _ us hl => match us, hl with | [_, _], _ => rfl
theorem b_hei (T : Tx K mg A) : L2.Binds K A.d_t_height ["self", "place"] [] := T.F_t_height.binds fun _ _ _ _ _ _ us hl => match us, hl with | [_, _], _ => rfl
theorem b_sub (T : Tx K mg A) : L2.Binds K A.d_t_subtree ["self", "place"] [] := T.F_t_subtree.binds fun _ _ _ _ _ _ us hl => match us, hl with | [_, _], _ => rfl

theorem pl_len (n : Nat) : (pl n).length = n := by unfold pl; rw [List.length_map, List.length_range]
def spLen (C : Addr) : Sp := fun vs H Q _ => ∃ (p n w : Nat), vs = [.ref p] ∧ TreeAt C H p n w ∧ Q (.int n) H
theorem ok_len (T : Tx K mg A) : FnOk P w K mg base CX0 2 A.f_t___len__ A.d_t___len__ ["self"] (spLen A.C) := by
  refine T.F_t___len__.ok sc_t___len__ (fun vs H Q E h => ?_) (fun cdv B outer s H vs Q E hr h => ?_)
  · obtain ⟨p, n, w, rfl, _⟩ := h
    rfl
  · obtain ⟨p, n, w, rfl, t, q⟩ := h
    obtain ⟨dx, l, h1, h2⟩ := t.ob
    refine ⟨_, pss_one (ps_ret (pe_callB call_len_seq (by rfl) T.g_len PySem.boot_len (pa_cons (pe_fld (pv 0) rfl) pa_nil))), ?_⟩
    refine ⟨_, rfl, p, A.C, dx, _, _, rfl, h1, T.cT, T.nPl, tf_pl _ _ _, l, _, rfl, .inr (SqT.of h2), ?_⟩
    rw [pl_len]
    exact q
/-- thing in tree -/
def spCont (K : PySem.W.Frag) (C : Addr) : Sp := fun vs H Q _ => ∃ (p n w : Nat) (x : V), vs = [.ref p, x] ∧ TreeAt C H p n w ∧
  ((∃ i : Int, x = .int i ∧ Q (.bl (decide (0 ≤ i ∧ i ≤ (n : Int) - 1))) H) ∨ (∃ c b1 b2, TyX K H x (.type c) ∧ kitB c "int" = some b1 ∧ kitB c "bool" = some b2 ∧ (b1 && !b2) = false ∧ Q (.bl false) H))
theorem ok_cont (T : Tx K mg A) : FnOk P w K mg base CX0 3 A.f_t___contains__ A.d_t___contains__ ["self", "thing"] (spCont K A.C) := by
  refine T.F_t___contains__.ok sc_t___contains__ (fun vs H Q E h => ?_) (fun cdv B outer s H vs Q E hr h => ?_)
  · obtain ⟨p, n, w, x, rfl, _⟩ := h
    rfl
  · obtain ⟨p, n, w, x, rfl, t, q⟩ := h
    obtain ⟨dx, l, h1, h2⟩ := t.ob
    refine ⟨_, pss_one (ps_ret (pe_call (ok_ii T) hr (by rfl) T.m_is_integer_from T.F_is_integer_from.kp (b_ii T) .nil pass0 (pa_cons (pv 1) (pa_cons pe_int (pa_cons (pe_op op_sub (pe_fld (pv 0) rfl) pe_int) pa_nil))))), ?_⟩
    exact ⟨_, rfl, _, rfl, p, A.C, dx, _, _, rfl, h1, T.cT, T.nMany, tf_many _ _ _, _, _, rfl, rfl, _, _, _, rfl, q⟩
theorem ok_iter (T : Tx K mg A) : FnIt P w K mg base 2 A.f_t___iter__ A.d_t___iter__ ["self"] (spIter K A.C "_places") := by
  refine fnIt_of T.F_t___iter__ sc_t___iter__ (fun cdv B outer s H vs Q hr h => ?_)
  obtain ⟨a, dx, fs, t, zs, rfl, ha, hf, ht, q⟩ := h
  refine ⟨_, pss_one (ps_ret (pe_callB call_iterT (by rfl) T.g_iter (by decide +kernel) (pa_cons (pe_fld (pv 0) rfl) pa_nil))), ?_⟩
  exact ⟨_, rfl, a, A.C, dx, _, _, rfl, ha, T.cT, T.nPl, hf, t, zs, rfl, ht, q⟩
/-- the children of a place, as the program cuts them -/
def kids (n w i : Nat) : List V := cutV (pl n) (some ((i : Int) * (w : Int) + 1)) (some ((i : Int) * (w : Int) + 1 + (w : Int)))
def spGi (C : Addr) : Sp := fun vs H Q _ => ∃ (p n w i : Nat), vs = [.ref p, .int i] ∧ TreeAt C H p n w ∧ i < n ∧ ∀ H' q, Same H H' → H' q = some (.tup (kids n w i)) → Q (.ref q) H'
theorem ok_gi (T : Tx K mg A) : FnOk P w K mg base CX0 4 A.f_t___getitem__ A.d_t___getitem__ ["self", "place"] (spGi A.C) := by
  refine T.F_t___getitem__.ok sc_t___getitem__ (fun vs H Q E h => ?_) (fun cdv B outer s H vs Q E hr h => ?_)
  · obtain ⟨p, n, w, i, rfl, _⟩ := h
    rfl
  · obtain ⟨p, n, w, i, rfl, t, hi, q⟩ := h
    obtain ⟨dx, l, h1, h2⟩ := t.ob
    refine ⟨_, pss_cons (ps_expr (pe_call (ok_cp T) hr (by rfl) T.m_check_place T.F_check_place.kp (b_cp T) .nil pass0 (pa_cons (pv 1) (pa_cons (pe_fld (pv 0) rfl) pa_nil))))
      (pss_cons (ps_set (i := 2) sc_t___getitem__.nd rfl (Or.inl rfl) (pe_op op_add (pe_op op_mul (pv 1) (pe_fld (pv 0) rfl)) pe_int))
      (pss_one (ps_ret (pe_slice sl_tup (pe_fld (pv 0) rfl) (po_some (pv 2)) (po_some (pe_op op_add (pv 2) (pe_fld (pv 0) rfl))))))), ?_⟩
    refine ⟨_, rfl, _, rfl, p, A.C, dx, _, _, rfl, h1, T.cT, T.nMany, tf_many _ _ _, _, _, rfl, ⟨by omega, by omega⟩, ?_⟩
    refine ⟨_, rfl, _, rfl, p, A.C, dx, _, _, rfl, h1, T.cT, T.nArms, tf_arms _ _ _, _, _, rfl, rfl, .inl ⟨by have := t.hn; omega, by have := t.hn; omega⟩, _, _, rfl, rfl, ?_⟩
    refine ⟨_, rfl, p, A.C, dx, _, _, rfl, h1, T.cT, T.nPl, tf_pl _ _ _, ?_⟩
    refine ⟨_, rfl, _, rfl, _, rfl, _, rfl, p, A.C, dx, _, _, rfl, h1, T.cT, T.nArms, tf_arms _ _ _, _, _, rfl, rfl, _, rfl, ?_⟩
    refine ⟨l, pl n, rfl, SqT.of h2, fun z => ?_, fun r hr0 => q _ r (Same.up hr0) upd_same⟩
    have z1 := z.1
    rw [pl_len, show ((i : Int) * (w : Int) + 1) = ((i * w + 1 : Nat) : Int) by push_cast; rfl, HT.sIx_nat] at z1
    omega

end

end Tw

set_option Elab.async false
set_option linter.all false
set_option maxRecDepth 100000
set_option maxHeartbeats 2000000
namespace Tw
open PySem PySem.Spec PyProof.Rows L2
section
variable {P : Program} {w : World} {K : PySem.W.Frag} {mg : Str → Option Value} {base : Heap} {A : Ad}

/-! ways -/
def upF : Nat → Nat → Nat → List Nat
  | 0, _, p => [p]
  | k + 1, w, p => if p = 0 then [0] else p :: upF k w ((p - 1) / w)
def upL (w p : Nat) : List Nat := upF 13 w p
def wayL (w p : Nat) : List Nat := (upL w p).reverse
def vi (l : List Nat) : List V := l.map fun i => V.int (i : Nat)
theorem up_eq : ∀ w, w < 5 → ∀ p, p < 13 → 1 ≤ w → upL w p = if p = 0 then [0] else p :: upL w ((p - 1) / w) := by decide +kernel
theorem up_len : ∀ w, w < 5 → ∀ p, p < 13 → 1 ≤ w → (upL w p).length ≤ 13 := by decide +kernel
theorem vi_len (l : List Nat) : (vi l).length = l.length := by unfold vi; rw [List.length_map]
theorem vi_app (a b : List Nat) : vi (a ++ b) = vi a ++ vi b := by unfold vi; rw [List.map_append]
theorem vi_rev (a : List Nat) : (vi a).reverse = vi a.reverse := by unfold vi; rw [List.map_reverse]
/-- the parent as the program says it -/
def parV (w p : Nat) : V := if p = 0 then .non else .int ((p - 1) / w : Nat)
def spPar (C : Addr) : Sp := fun vs H Q _ => ∃ (p n w i : Nat), vs = [.ref p, .int i] ∧ TreeAt C H p n w ∧ i < n ∧ Q (parV w i) H
theorem ok_par (T : Tx K mg A) : FnOk P w K mg base CX0 4 A.f_t_parent A.d_t_parent ["self", "place"] (spPar A.C) := by
  refine T.F_t_parent.ok sc_t_parent (fun vs H Q E h => ?_) (fun cdv B outer s H vs Q E hr h => ?_)
  · obtain ⟨p, n, w, i, rfl, _⟩ := h
    rfl
  · obtain ⟨p, n, w, i, rfl, t, hi, q⟩ := h
    obtain ⟨dx, l, h1, h2⟩ := t.ob
    refine ⟨_, pss_cons (ps_expr (pe_call (ok_cp T) hr (by rfl) T.m_check_place T.F_check_place.kp (b_cp T) .nil pass0 (pa_cons (pv 1) (pa_cons (pe_fld (pv 0) rfl) pa_nil))))
      (pss_cons (ps_if (pt_cmpR op_eq (pv 1) pe_int (nomark _)) (pss_one (ps_ret pe_non)) pss_nil)
      (pss_one (ps_ret (pe_op op_fdivN (pe_op op_sub (pv 1) pe_int) (pe_fld (pv 0) rfl))))), ?_⟩
    refine ⟨_, rfl, _, rfl, p, A.C, dx, _, _, rfl, h1, T.cT, T.nMany, tf_many _ _ _, _, _, rfl, ⟨by omega, by omega⟩, ?_⟩
    refine ⟨_, rfl, rfl, _, rfl, ?_⟩
    by_cases h0 : i = 0
    · rw [decide_eq_true (show V.int (i : Nat) = V.int 0 by rw [h0]; rfl)]
      refine iteT ?_
      unfold parV at q
      rw [if_pos h0] at q
      exact q
    · rw [decide_eq_false (show ¬ V.int (i : Nat) = V.int 0 by intro z; injection z with z; omega)]
      refine iteF ?_
      refine ⟨_, rfl, _, _, rfl, rfl, _, rfl, p, A.C, dx, _, _, rfl, h1, T.cT, T.nArms, tf_arms _ _ _, _, _, rfl, rfl, ⟨by have := t.hw; omega, by have := t.hw; omega⟩, ?_⟩
      unfold parV at q
      rw [if_neg h0] at q
      have e : Int.fdiv ((i : Int) - 1) (w : Int) = ((i - 1) / w : Nat) := by
        rw [Int.fdiv_eq_ediv_of_nonneg _ (by omega), show ((i : Int) - 1) = ((i - 1 : Nat) : Int) by omega]
        rfl
      show Q (V.int (Int.fdiv ((i : Int) - 1) (w : Int))) H
      rw [e]
      exact q
/-- a number that falls while a place goes up -/
def muV : Option (Option V) → Nat
  | some (some (V.int z)) => z.toNat + 1
  | _ => 0
def spWay (C : Addr) : Sp := fun vs H Q _ => ∃ (p n w i : Nat), vs = [.ref p, .int i] ∧ TreeAt C H p n w ∧ i < n ∧ ∀ H' q, Same H H' → H q = none → H' q = some (.tup (vi (wayL w i))) → Q (.ref q) H'
theorem ok_way (T : Tx K mg A) : FnOk P w K mg base CX0 5 A.f_t_way_to A.d_t_way_to ["self", "place"] (spWay A.C) := by
  refine T.F_t_way_to.ok sc_t_way_to (fun vs H Q E h => ?_) (fun cdv B outer s H vs Q E hr h => ?_)
  · obtain ⟨p, n, w, i, rfl, _⟩ := h
    rfl
  · obtain ⟨p, n, w, i, rfl, t, hi, q⟩ := h
    refine ⟨_, pss_cons (ps_set (i := 2) sc_t_way_to.nd rfl (Or.inl rfl) (pe_lst (pa_cons (pv 1) pa_nil)))
      (pss_cons (ps_set (i := 3) sc_t_way_to.nd rfl (Or.inl rfl) (pe_meth (pv 0) T.cT T.M_t_parent (ok_par T) hr (b_par T) .nil pass0 (pa_cons (pv 1) pa_nil)))
      (pss_cons (ps_while PassesOwn.never (pt_cmpR op_notN (pv 3) pe_non (nomark _))
        (pss_cons (ps_expr (pe_bm PySem.F.plainAttrs_list PySem.F.slot_list_append PySem.F.type_list_append mt_append (pv 2) (pa_cons (pv 3) pa_nil)))
        (pss_one (ps_set (i := 3) sc_t_way_to.nd rfl (Or.inl rfl) (pe_meth (pv 0) T.cT T.M_t_parent (ok_par T) hr (b_par T) .nil pass0 (pa_cons (pv 3) pa_nil))))))
      (pss_one (ps_ret (pe_callTy call_tuple_of (by rfl) T.g_tuple (by decide +kernel) (pa_cons (pe_revL (pv 2)) pa_nil)))))), ?_⟩
    obtain ⟨dx, l, h1, h2⟩ := t.ob
    have noP : (tf n w l).lookup ("parent" : Str) = none := tf_no _ _ _ (by decide +kernel) (by decide +kernel) (by decide +kernel)
    refine ⟨_, rfl, by show 1 ≤ sizeLine; decide, fun d hd => ?_⟩
    have s1 : Same H (upd H d (.lst [V.int (i : Nat)])) := Same.up hd
    refine ⟨_, rfl, p, dx, _, rfl, s1 _ _ h1, noP, _, rfl, p, n, w, i, rfl, t.same s1, hi, ?_⟩
    refine while_by (fun σ H' => ∃ (c : Nat) (acc : List Nat), σ = [some (.ref p), some (.int i), some (.ref d), some (parV w c)] ∧ c < n ∧ Acc H d (vi (acc ++ [c])) H' ∧ acc ++ upL w c = upL w i ∧ acc.length ≤ 12)
      (fun σ _ => muV σ[3]?) ⟨i, [], rfl, hi, ⟨s1, hd, upd_same⟩, rfl, Nat.zero_le _⟩ ?_ ?_
    · rintro σ H' ⟨c, acc, rfl, hc, ac, ea, hl⟩
      have hn := t.hn
      have hw := t.hw
      have eu := up_eq w (by omega) c (by omega) hw.1
      refine ⟨_, rfl, rfl, _, rfl, ?_⟩
      by_cases h0 : c = 0
      · have ev : parV w c = V.non := by unfold parV; rw [if_pos h0]
        rw [ev, decide_eq_true (rfl : V.non = V.non)]
        refine iteF ?_
        rw [if_pos h0] at eu
        refine ⟨_, rfl, d, _, rfl, SqL.of ac.a, fun r hr0 => ⟨r, _, rfl, .inl ⟨SqL.of upd_same, fun u hu => q _ u (ac.s.trans ((Same.up hr0).trans (Same.up hu))) (ac.s.free ((Same.up hr0).free hu)) ?_⟩⟩⟩
        unfold wayL
        rw [upd_same, vi_rev, ← ea, eu, h0]
      · have ev : parV w c = V.int ((c - 1) / w : Nat) := by unfold parV; rw [if_neg h0]
        rw [ev, decide_eq_false (show ¬ V.int ((c - 1) / w : Nat) = V.non from fun z => nomatch z)]
        refine iteT ?_
        rw [if_neg h0] at eu
        have hlt : (c - 1) / w < c := Nat.lt_of_le_of_lt (Nat.div_le_self _ _) (by omega)
        have hL : acc.length + 1 + (upL w ((c - 1) / w)).length = (upL w i).length := by
          rw [← ea, eu, List.length_append, List.length_cons]
          omega
        have hL2 := up_len w (by omega) i (by omega) hw.1
        have hL3 := up_eq w (by omega) ((c - 1) / w) (by omega) hw.1
        have hL4 : 1 ≤ (upL w ((c - 1) / w)).length := by
          rw [hL3]
          split
          · exact Nat.le_refl _
          · rw [List.length_cons]; omega
        refine ⟨_, rfl, .inl ⟨rfl, _, SqL.of ac.a⟩, _, rfl, d, _, _, rfl, rfl, ac.a, small1000 (by rw [vi_len, List.length_append, List.length_singleton]; omega), ?_⟩
        have e2 : vi (acc ++ [c]) ++ [V.int ((c - 1) / w : Nat)] = vi (acc ++ [c] ++ [(c - 1) / w]) := by rw [vi_app (acc ++ [c])]; rfl
        rw [e2]
        have ac2 : Acc H d (vi (acc ++ [c] ++ [(c - 1) / w])) (upd H' d (.lst (vi (acc ++ [c] ++ [(c - 1) / w])))) := ac.push
        refine ⟨_, rfl, p, dx, _, rfl, ac2.s _ _ h1, noP, _, rfl, p, n, w, (c - 1) / w, rfl, t.same ac2.s, by omega, ?_⟩
        refine ⟨⟨(c - 1) / w, acc ++ [c], rfl, by omega, ac2, ?_, by rw [List.length_append, List.length_singleton]; omega⟩, ?_⟩
        · rw [← ea, eu, List.append_assoc]
          rfl
        · show muV (some (some (parV w ((c - 1) / w)))) < muV (some (some (V.int ((c - 1) / w : Nat))))
          unfold parV
          split
          · show 0 < _
            exact Nat.succ_pos _
          · rename_i h9
            show (((((c - 1) / w - 1) / w : Nat) : Int)).toNat + 1 < ((((c - 1) / w : Nat) : Int)).toNat + 1
            rw [Int.toNat_natCast, Int.toNat_natCast]
            exact Nat.succ_lt_succ (Nat.lt_of_le_of_lt (Nat.div_le_self _ _) (Nat.sub_lt (Nat.pos_of_ne_zero h9) Nat.one_pos))
    · rintro σ' H1 Q1 Q2 mono ⟨v, hv, e1, b1, e2, z⟩
      exact ⟨v, hv, e1, b1, e2, mono _ _ z⟩

end

end Tw

set_option Elab.async false
set_option linter.all false
set_option maxRecDepth 100000
set_option maxHeartbeats 2000000
namespace Tw
open PySem PySem.Spec PyProof.Rows L2
section
variable {P : Program} {w : World} {K : PySem.W.Frag} {mg : Str → Option Value} {base : Heap} {A : Ad}

def spDep (C : Addr) : Sp := fun vs H Q _ => ∃ (p n w i : Nat), vs = [.ref p, .int i] ∧ TreeAt C H p n w ∧ i < n ∧ ∀ H', Same H H' → Q (.int (((wayL w i).length : Int) - 1)) H'
theorem ok_dep (T : Tx K mg A) : FnOk P w K mg base CX0 6 A.f_t_depth A.d_t_depth ["self", "place"] (spDep A.C) := by
  refine T.F_t_depth.ok sc_t_depth (fun vs H Q E h => ?_) (fun cdv B outer s H vs Q E hr h => ?_)
  · obtain ⟨p, n, w, i, rfl, _⟩ := h
    rfl
  · obtain ⟨p, n, w, i, rfl, t, hi, q⟩ := h
    obtain ⟨dx, l, h1, h2⟩ := t.ob
    have noW : (tf n w l).lookup ("way_to" : Str) = none := tf_no _ _ _ (by decide +kernel) (by decide +kernel) (by decide +kernel)
    refine ⟨_, pss_one (ps_ret (pe_op op_sub (pe_callB call_len_seq (by rfl) T.g_len PySem.boot_len (pa_cons (pe_meth (pv 0) T.cT T.M_t_way_to (ok_way T) hr (b_way T) .nil pass0 (pa_cons (pv 1) pa_nil)) pa_nil)) pe_int)), ?_⟩
    refine ⟨_, rfl, p, dx, _, rfl, h1, noW, _, rfl, p, n, w, i, rfl, t, hi, fun H1 r s1 r0 hr1 => ?_⟩
    refine ⟨r, _, rfl, .inr (SqT.of hr1), _, _, rfl, rfl, ?_⟩
    rw [vi_len]
    exact q _ s1
/-- the places of a subtree -/
def subL (n w i : Nat) : List Nat := (List.range n).filter fun j => decide (i ∈ wayL w j)
theorem mem_vi (i : Nat) (l : List Nat) : inV (V.int (i : Nat)) (vi l) = decide (i ∈ l) := by
  have key : ∀ j : Nat, eqV (V.int (j : Nat)) (V.int (i : Nat)) = decide (j = i) := fun j => by
    show ((j : Int) == (i : Int)) = decide (j = i)
    by_cases h : j = i
    · rw [h, decide_eq_true rfl, beq_self_eq_true]
    · rw [decide_eq_false h]
      exact beq_eq_false_iff_ne.mpr (by omega)
  unfold inV vi
  induction l with
  | nil => rfl
  | cons a l ih =>
    rw [List.map_cons, List.any_cons, ih, key]
    by_cases h : a = i
    · simp [h]
    · simp [h, Ne.symm h]
theorem vi_flat (l : List Nat) : (vi l).all flatV = true := by
  unfold vi
  rw [List.all_map]
  exact List.all_eq_true.mpr fun _ _ => rfl
theorem sub_pick (n w i : Nat) : vi (subL n w i) = (List.range n).filterMap fun j => if i ∈ wayL w j then some (V.int (j : Nat)) else none := by
  unfold vi subL
  induction List.range n with
  | nil => rfl
  | cons a l ih =>
    by_cases h : i ∈ wayL w a
    · rw [List.filter_cons_of_pos (by simp [h]), List.map_cons, ih, List.filterMap_cons, if_pos h]
    · rw [List.filter_cons_of_neg (by simp [h]), ih, List.filterMap_cons, if_neg h]
def spSub (C : Addr) : Sp := fun vs H Q _ => ∃ (p n w i : Nat), vs = [.ref p, .int i] ∧ TreeAt C H p n w ∧ i < n ∧ ∀ H' q, Same H H' → H q = none → H' q = some (.tup (vi (subL n w i))) → Q (.ref q) H'
theorem ok_sub (T : Tx K mg A) : FnOk P w K mg base CX0 6 A.f_t_subtree A.d_t_subtree ["self", "place"] (spSub A.C) := by
  refine T.F_t_subtree.ok sc_t_subtree (fun vs H Q E h => ?_) (fun cdv B outer s H vs Q E hr h => ?_)
  · obtain ⟨p, n, w, i, rfl, _⟩ := h
    rfl
  · obtain ⟨p, n, w, i, rfl, t, hi, q⟩ := h
    obtain ⟨dx, l, h1, h2⟩ := t.ob
    have noW : (tf n w l).lookup ("way_to" : Str) = none := tf_no _ _ _ (by decide +kernel) (by decide +kernel) (by decide +kernel)
    refine ⟨_, pss_cons (ps_expr (pe_call (ok_cp T) (hr.mono (by decide)) (by rfl) T.m_check_place T.F_check_place.kp (b_cp T) .nil pass0 (pa_cons (pv 1) (pa_cons (pe_fld (pv 0) rfl) pa_nil))))
      (pss_one (ps_ret (pe_callTy call_tuple_of (by rfl) T.g_tuple (by decide +kernel) (pa_cons
        (pe_lc (own := [("below", 2)]) (g := gName 2) rfl sc_t_subtree.nd (pi_tup (pe_fld (pv 0) rfl)) (blkOk_by (own := [("below", 2)]) (N := ["self", "place", "below"]) (sc := defScope s_t_subtree) (by decide +kernel)) (fun _ _ _ _ _ => pg_name (i := 2) sc_t_subtree.nd rfl (Or.inl rfl))
          (fun _ _ _ _ _ => pts_one (pt_cmpR (r := L2.rIn K false) op_in_seq (pv 1) (pe_meth (pv 0) T.cT T.M_t_way_to (ok_way T) hr (b_way T) .nil pass0 (pa_cons (pv 2) pa_nil)) (by rfl))) (fun _ _ _ _ _ => pv 2)) pa_nil)))), ?_⟩
    refine ⟨_, rfl, _, rfl, p, A.C, dx, _, _, rfl, h1, T.cT, T.nMany, tf_many _ _ _, _, _, rfl, ⟨by omega, by omega⟩, ?_⟩
    refine ⟨_, rfl, p, A.C, dx, _, _, rfl, h1, T.cT, T.nPl, tf_pl _ _ _, l, rfl, ⟨_, SqT.of h2⟩, fun D hD => ?_⟩
    refine lc_it (walk_tup (xs := pl n)) (PickI H D (List.range n) fun j => if i ∈ wayL w j then some (V.int (j : Nat)) else none) (pick_start hD) (fun k H' _ h => SqT.of (h.s _ _ h2)) ?_ ?_
    · rintro k x H2 H3 hk pk ⟨rfl, ex⟩
      obtain ⟨hk', rfl⟩ := map_at ex
      rw [List.getElem_range]
      rw [List.length_range] at hk'
      refine ⟨rfl, _, rfl, _, rfl, p, dx, _, rfl, pk.s _ _ h1, noW, _, rfl, p, n, w, k, rfl, t.same pk.s, hk', fun H4 r s4 r0 hr4 => ?_⟩
      refine ⟨r, _, rfl, .inr (SqT.of hr4), rfl, vi_flat _, _, rfl, ?_⟩
      show if (inV (V.int (i : Nat)) (vi (wayL w k))) = true then _ else _
      rw [mem_vi]
      by_cases hm : i ∈ wayL w k
      · rw [decide_eq_true hm]
        exact iteT ⟨_, rfl, pick_yes (by rw [List.length_range]; exact hk') (by rw [List.length_range]; have := t.hn; omega) (by rw [List.getElem_range, if_pos hm]) s4 pk⟩
      · rw [decide_eq_false hm]
        exact iteF (pick_no (by rw [List.length_range]; exact hk') (by rw [List.getElem_range, if_neg hm]) s4 pk)
    · intro H2 pk
      have ac := pick_end (by rw [pl_len, List.length_range]) pk
      refine ⟨D, _, rfl, .inl ⟨SqL.of ac.a, fun r hr0 => q _ r (ac.s.trans (Same.up hr0)) (ac.s.free hr0) ?_⟩⟩
      rw [upd_same, ← sub_pick]

theorem sub_n (n w i : Nat) : (subL n w i).length ≤ n := by
  unfold subL
  exact Nat.le_trans (List.length_filter_le _ _) (by rw [List.length_range]; exact Nat.le_refl _)
def spSiz (C : Addr) : Sp := fun vs H Q _ => ∃ (p n w i : Nat), vs = [.ref p, .int i] ∧ TreeAt C H p n w ∧ i < n ∧ ∀ H', Same H H' → Q (.int (subL n w i).length) H'
theorem ok_siz (T : Tx K mg A) : FnOk P w K mg base CX0 7 A.f_t_size A.d_t_size ["self", "place"] (spSiz A.C) := by
  refine T.F_t_size.ok sc_t_size (fun vs H Q E h => ?_) (fun cdv B outer s H vs Q E hr h => ?_)
  · obtain ⟨p, n, w, i, rfl, _⟩ := h
    rfl
  · obtain ⟨p, n, w, i, rfl, t, hi, q⟩ := h
    obtain ⟨dx, l, h1, h2⟩ := t.ob
    have noS : (tf n w l).lookup ("subtree" : Str) = none := tf_no _ _ _ (by decide +kernel) (by decide +kernel) (by decide +kernel)
    refine ⟨_, pss_one (ps_ret (pe_callB call_len_seq (by rfl) T.g_len PySem.boot_len (pa_cons (pe_meth (pv 0) T.cT T.M_t_subtree (ok_sub T) hr (b_sub T) .nil pass0 (pa_cons (pv 1) pa_nil)) pa_nil))), ?_⟩
    refine ⟨_, rfl, p, dx, _, rfl, h1, noS, _, rfl, p, n, w, i, rfl, t, hi, fun H1 r s1 r0 hr1 => ?_⟩
    refine ⟨r, _, rfl, .inr (SqT.of hr1), ?_⟩
    rw [vi_len]
    exact q _ s1
/-- how deep the subtree of a place goes -/
def dps (n w i : Nat) : List Int := (subL n w i).map fun j => ((wayL w j).length : Int) - 1
def spHei (C : Addr) : Sp := fun vs H Q _ => ∃ (p n w i : Nat), vs = [.ref p, .int i] ∧ TreeAt C H p n w ∧ i < n ∧ ∀ H' m, Same H H' → m ∈ dps n w i → (∀ z ∈ dps n w i, z ≤ m) → Q (.int (m - (((wayL w i).length : Int) - 1))) H'
theorem self_sub : ∀ w, w < 5 → ∀ i, i < 13 → 1 ≤ w → i ∈ wayL w i := by decide +kernel
theorem ok_hei (T : Tx K mg A) : FnOk P w K mg base CX0 7 A.f_t_height A.d_t_height ["self", "place"] (spHei A.C) := by
  refine T.F_t_height.ok sc_t_height (fun vs H Q E h => ?_) (fun cdv B outer s H vs Q E hr h => ?_)
  · obtain ⟨p, n, w, i, rfl, _⟩ := h
    rfl
  · obtain ⟨p, n, w, i, rfl, t, hi, q⟩ := h
    obtain ⟨dx, l, h1, h2⟩ := t.ob
    have noS : (tf n w l).lookup ("subtree" : Str) = none := tf_no _ _ _ (by decide +kernel) (by decide +kernel) (by decide +kernel)
    have noD : (tf n w l).lookup ("depth" : Str) = none := tf_no _ _ _ (by decide +kernel) (by decide +kernel) (by decide +kernel)
    refine ⟨_, pss_one (ps_ret (pe_op op_sub (pe_callB (cr_max rfl) (by rfl) T.g_max (by decide +kernel) (pa_cons
        (pe_lc (own := [("below", 2)]) (g := gName 2) (tt := tYes) rfl sc_t_height.nd (pi_tup (pe_meth (pv 0) T.cT T.M_t_subtree (ok_sub T) hr (b_sub T) .nil pass0 (pa_cons (pv 1) pa_nil))) (blkOk_by (own := [("below", 2)]) (N := ["self", "place", "below"]) (sc := defScope s_t_height) (by decide +kernel))
          (fun _ _ _ _ _ => pg_name (i := 2) sc_t_height.nd rfl (Or.inl rfl))
          (fun _ _ _ _ _ => pts_nil) (fun _ _ _ _ _ => pe_meth (pv 0) T.cT T.M_t_depth (ok_dep T) hr (b_dep T) .nil pass0 (pa_cons (pv 2) pa_nil))) pa_nil))
        (pe_meth (pv 0) T.cT T.M_t_depth (ok_dep T) hr (b_dep T) .nil pass0 (pa_cons (pv 1) pa_nil)))), ?_⟩
    refine ⟨_, rfl, p, dx, _, rfl, h1, noS, _, rfl, p, n, w, i, rfl, t, hi, fun H1 r s1 r0 hr1 => ?_⟩
    refine ⟨r, rfl, ⟨_, SqT.of hr1⟩, fun D hD => ?_⟩
    have hn := t.hn
    have hsn := sub_n n w i
    refine lc_it (walk_tup (xs := vi (subL n w i))) (PickI H1 D (subL n w i) fun j => some (V.int (((wayL w j).length : Int) - 1))) (pick_start hD) (fun k H' _ h => SqT.of (h.s _ _ hr1)) ?_ ?_
    · rintro k x H2 H3 hk pk ⟨rfl, ex⟩
      obtain ⟨hk', rfl⟩ := map_at ex
      have hm : (subL n w i)[k] < n := by
        have := List.getElem_mem hk'
        exact List.mem_range.mp (List.mem_filter.mp this).1
      have s3 := s1.trans pk.s
      refine ⟨rfl, ?_⟩
      refine iteT (B := PickI H1 D (subL n w i) (fun j => some (V.int (((wayL w j).length : Int) - 1))) (k + 1) H3) ?_
      exact ⟨_, rfl, p, dx, _, rfl, s3 _ _ h1, noD, _, rfl, p, n, w, (subL n w i)[k], rfl, t.same s3, hm, fun H4 s4 => pick_yes hk' (by omega) rfl s4 pk⟩
    · intro H2 pk
      have ac := pick_end (vi_len _) pk
      have e : ((subL n w i).filterMap fun j => some (V.int (((wayL w j).length : Int) - 1))) = (dps n w i).map V.int := by
        unfold dps
        rw [List.filterMap_eq_map', List.map_map]
        rfl
      rw [e] at ac
      have hpos : 0 < (dps n w i).length := by
        unfold dps subL
        rw [List.length_map]
        exact List.length_pos_of_mem (a := i) (List.mem_filter.mpr ⟨List.mem_range.mpr hi, decide_eq_true (self_sub w (by have := t.hw; omega) i (by omega) t.hw.1)⟩)
      refine ⟨D, _, rfl, SqL.of ac.a, hpos, fun m hm hle => ?_⟩
      have s3 := s1.trans ac.s
      exact ⟨_, rfl, p, dx, _, rfl, s3 _ _ h1, noD, _, rfl, p, n, w, i, rfl, t.same s3, hi, fun H4 s4 => ⟨_, _, rfl, rfl, q _ m (s3.trans s4) hm hle⟩⟩

end

end Tw

set_option Elab.async false
set_option linter.all false
set_option maxRecDepth 100000
set_option maxHeartbeats 2000000
namespace Tw
open PySem PySem.Spec PyProof.Rows L2
section
variable {P : Program} {w : World} {K : PySem.W.Frag} {mg : Str → Option Value} {base : Heap} {A : Ad}

def spEq (C : Addr) : Sp := fun vs H Q _ => ∃ (p n w : Nat) (y : V), vs = [.ref p, y] ∧ TreeAt C H p n w ∧
  ((∃ p2 n2 w2 : Nat, y = .ref p2 ∧ TreeAt C H p2 n2 w2 ∧ Q (.bl (decide (n = n2 ∧ w = w2))) H) ∨ (∃ i : Int, y = .int i ∧ Q (.bl false) H))
theorem ok_eq (T : Tx K mg A) : FnOk P w K mg base CX0 2 A.f_t___eq__ A.d_t___eq__ ["self", "other"] (spEq A.C) := by
  refine T.F_t___eq__.ok sc_t___eq__ (fun vs H Q E h => ?_) (fun cdv B outer s H vs Q E hr h => ?_)
  · obtain ⟨p, n, w, y, rfl, _⟩ := h
    rfl
  · obtain ⟨p, n, w, y, rfl, t, h⟩ := h
    obtain ⟨dx, l, h1, h2⟩ := t.ob
    refine ⟨_, pss_one (ps_ret (pe_and (pe_callB call_isi (by rfl) T.g_isinstance (by decide +kernel) (pa_cons (pv 1) (pa_cons (pe_glob (v := .ref A.C) (by rfl) T.mC (relR _)) pa_nil)))
      (pe_and (pe_cmpR op_eq (pe_fld (pv 0) rfl) (pe_fld (pv 1) rfl) (nomark _)) (pe_one (pe_cmpR op_eq (pe_fld (pv 0) rfl) (pe_fld (pv 1) rfl) (nomark _)))))), ?_⟩
    rcases h with ⟨p2, n2, w2, rfl, t2, q⟩ | ⟨i, rfl, q⟩
    · obtain ⟨dx2, l2, h3, h4⟩ := t2.ob
      refine ⟨_, rfl, _, _, .ref A.C, .ref A.C, true, rfl, .own A.C, .base (.ins h3 T.cT T.ka T.kn T.ktk T.km), (by unfold PySem.W.kitOne; rw [if_pos (by simp)]), true, rfl, iteT ?_⟩
      refine ⟨_, rfl, p, A.C, dx, _, _, rfl, h1, T.cT, T.nMany, tf_many _ _ _, _, rfl, p2, A.C, dx2, _, _, rfl, h3, T.cT, T.nMany, tf_many _ _ _, rfl, ?_⟩
      by_cases e1 : n = n2
      · refine ⟨_, rfl, ?_⟩
        rw [decide_eq_true (show V.int (n : Nat) = V.int (n2 : Nat) by rw [e1])]
        refine iteT ⟨_, rfl, p, A.C, dx, _, _, rfl, h1, T.cT, T.nArms, tf_arms _ _ _, _, rfl, p2, A.C, dx2, _, _, rfl, h3, T.cT, T.nArms, tf_arms _ _ _, rfl, ?_⟩
        have e : decide (n = n2 ∧ w = w2) = decide (V.int (w : Nat) = V.int (w2 : Nat)) := by
          by_cases e2 : w = w2
          · rw [decide_eq_true ⟨e1, e2⟩, decide_eq_true (by rw [e2])]
          · rw [decide_eq_false (fun z => e2 z.2), decide_eq_false (fun z => e2 (by injection z with z; omega))]
        rw [e] at q
        exact q
      · refine ⟨_, rfl, ?_⟩
        rw [decide_eq_false (show ¬ V.int (n : Nat) = V.int (n2 : Nat) from fun z => e1 (by injection z with z; omega))]
        have e : decide (n = n2 ∧ w = w2) = false := decide_eq_false fun z => e1 z.1
        rw [e] at q
        exact iteF q
    · exact ⟨_, rfl, _, _, .type "int", .ref A.C, false, rfl, .own A.C, .base (.int i), T.ki, false, rfl, iteF q⟩

end

end Tw

set_option Elab.async false
set_option linter.all false
set_option maxRecDepth 100000
set_option maxHeartbeats 2000000
namespace Tw
open PySem PySem.Spec PyProof.Rows L2
section
variable {P : Program} {w : World} {K : PySem.W.Frag} {mg : Str → Option Value} {base : Heap} {A : Ad}

/-! the law's own defs -/
theorem ints_dp (K : PySem.W.Frag) (H : Hp) : ∀ ns : List Int, DpAll K H (ns.map V.int) (ns.map PyData.int)
  | [] => .nil
  | n :: ns => .cons (.int n) (ints_dp K H ns)
theorem emp_eqv : ∀ ns : List Int, PyData.eqv (.list (ns.map PyData.int)) (.list []) = decide (ns = [])
  | [] => by rfl
  | n :: ns => by rfl
theorem shaped_ints (ns : List Int) : SeqAt.shaped (.list (ns.map PyData.int)) = true := by
  have h1 : ∀ ms : List Int, PyData.canLayAll0 (ms.map PyData.int) = true := fun ms => by
    induction ms with
    | nil => rfl
    | cons m ms ih => rw [List.map_cons, PyData.canLayAll0, ih]; rfl
  have h2 : ∀ ms : List Int, PyData.depthAll (ms.map PyData.int) ≤ 1 := fun ms => by
    induction ms with
    | nil => simp [PyData.depthAll]
    | cons m ms ih =>
      simp only [List.map_cons, PyData.depthAll, PyData.depth]
      omega
  have h3 : PyData.depth (.list (ns.map PyData.int)) ≤ 64 := by
    have := h2 ns
    simp only [PyData.depth]
    omega
  unfold SeqAt.shaped
  rw [decide_eq_true h3, Bool.and_true]
  simp only [PyData.canLay0]
  exact h1 ns
theorem cut63 (xs : List V) (h : xs.length ≤ 63) : cutV xs none (some 63) = xs := by
  unfold cutV
  rw [HT.sIx_none, show (63 : Int) = ((63 : Nat) : Int) from rfl, HT.sIx_nat, List.drop_zero, Nat.min_eq_right h, Nat.sub_zero, List.take_length]
def spNum (K : PySem.W.Frag) : Sp := fun vs H Q _ => ∃ (a : Addr) (ns : List Int) (i : Nat), vs = [.ref a, .int i] ∧ SqL K H a (ns.map V.int) ∧ ns.length ≤ 63 ∧ i < 1000000 ∧ ∀ H' r, Same H H' → Q (.int r) H'
theorem ok_num (T : Tx K mg A) : FnOk P w K mg base CX0 2 A.f__law_number A.d__law_number ["script", "index"] (spNum K) := by
  refine T.F__law_number.ok sc__law_number (fun vs H Q E h => ?_) (fun cdv B outer s H vs Q E hr h => ?_)
  · obtain ⟨a, ns, i, rfl, _⟩ := h
    rfl
  · obtain ⟨a, ns, i, rfl, ha, hl, hi, q⟩ := h
    have nd := sc__law_number.nd
    have hu := hr.units
    refine ⟨_, C8.pss_cut (ps_set (i := 2) nd rfl (Or.inl rfl) (pe_ifExp (pt_cmpR (op_neD hu) (pv 0) (pe_lst pa_nil) (nomark _)) (pe_slice sl_list (pv 0) po_none (po_some pe_int)) (pe_lst (pa_cons pe_int pa_nil))))
      (pss_cons (ps_set (i := 3) nd rfl (Or.inl rfl) (pe_op op_add
        (pe_ix ix_list (pv 2) (pe_op op_mod (pe_callTy call_int1 (by rfl) T.g_int (by decide +kernel) (pa_cons (pv 1) pa_nil)) (pe_callB call_len_seq (by rfl) T.g_len PySem.boot_len (pa_cons (pv 2) pa_nil))) (fun _ _ => rfl))
        (pe_op op_mul pe_int (pe_op op_fdivN (pv 1) (pe_callB call_len_seq (by rfl) T.g_len PySem.boot_len (pa_cons (pv 2) pa_nil))))))
      (pss_cons (ps_par (i := 4) (j := 5) rfl nd rfl rfl (by decide) rfl rfl (pa_cons (pe_op op_mod (pe_callTy call_int1 (by rfl) T.g_int (by decide +kernel) (pa_cons (pv 3) pa_nil)) pe_int)
          (pa_cons (pe_op op_mod (pe_callTy call_int1 (by rfl) T.g_int (by decide +kernel) (pa_cons (pe_op op_fdivN (pv 3) pe_int) pa_nil)) pe_int) pa_nil)) rfl)
      (pss_cons (ps_set (i := 6) nd rfl (Or.inl rfl) (pe_op op_mod (pe_callTy call_int1 (by rfl) T.g_int (by decide +kernel) (pa_cons (pe_callB (cr_sum rfl) (by rfl) T.g_sum (by decide +kernel) (pa_cons (pv 2) pa_nil)) pa_nil)) pe_int))
      (pss_cons (ps_set (i := 7) nd rfl (Or.inl rfl) (pe_op op_mod (pe_callTy call_int1 (by rfl) T.g_int (by decide +kernel) (pa_cons
          (pe_op op_add (pe_op op_add (pe_op op_mul (pe_op op_add (pv 4) (pe_op op_mul pe_int (pv 1))) pe_int) (pe_op op_mul pe_int (pv 5))) (pv 6)) pa_nil)) pe_int))
      (pss_one (ps_ret (pe_op op_add (pe_op op_mul (pe_op op_mod (pe_callTy call_int1 (by rfl) T.g_int (by decide +kernel) (pa_cons
          (pe_op op_mul (pv 7) (pe_op op_add (pe_op op_add (pv 7) (pe_op op_mul pe_int (pv 1))) pe_int)) pa_nil)) pe_int) pe_int) (pv 5)))))))), ?_⟩
    refine ⟨fun σ H1 => ∃ (c : Addr) (cs : List Int), σ = [some (.ref a), some (.int i), some (.ref c), none, none, none, none, none] ∧ Same H H1 ∧ H1 c = some (.lst (cs.map V.int)) ∧ 0 < cs.length ∧ cs.length ≤ 63, ?_, ?_⟩
    · refine ⟨_, rfl, Nat.zero_le _, fun l0 hl0 => ?_⟩
      have hs0 : Same H (upd H l0 (.lst [])) := Same.up hl0
      refine ⟨.list (ns.map PyData.int), .list [], .lst (hs0.seq ha) (ints_dp _ _ _), .lst (SqL.of upd_same) .nil, ?_, rfl, _, rfl, ?_⟩
      · exact shaped_ints _
      · rw [emp_eqv]
        by_cases e : ns = []
        · rw [decide_eq_true e]
          refine iteF ⟨by show 1 ≤ sizeLine; decide, fun l1 hl1 => ⟨l1, [5], rfl, hs0.trans (Same.up hl1), upd_same, by decide, by decide⟩⟩
        · rw [decide_eq_false e]
          refine iteT ⟨_, rfl, _, rfl, a, _, rfl, hs0.seq ha, fun l1 hl1 => ⟨l1, ns, rfl, hs0.trans (Same.up hl1), ?_, ?_, hl⟩⟩
          · rw [upd_same]
            exact congrArg (fun z => some (HO.lst z)) (cut63 _ (by rw [List.length_map]; exact hl))
          · exact List.length_pos_iff.mpr e
    · rintro σ H1 ⟨c, cs, rfl, s1, hc, h0, h63⟩
      have hq := SqL.of (K := K) hc
      have hL : ((cs.map V.int).length : Int) = (cs.length : Int) := by rw [List.length_map]
      have hm0 : 0 ≤ (i : Int) % (cs.length : Int) := Int.emod_nonneg _ (by omega)
      have hm1 : (i : Int) % (cs.length : Int) < (cs.length : Int) := Int.emod_lt_of_pos _ (by omega)
      obtain ⟨j, hj⟩ : ∃ j : Nat, (i : Int) % (cs.length : Int) = (j : Int) := ⟨_, (Int.toNat_of_nonneg hm0).symm⟩
      have hjl : j < cs.length := by omega
      have hat : atI (cs.map V.int) ((i : Int) % ((cs.map V.int).length : Int)) = some (V.int cs[j]) := by
        rw [hL, hj]
        exact atI_nat (by rw [List.getElem?_map, List.getElem?_eq_getElem hjl]; rfl)
      refine ⟨_, rfl, _, rfl, .inl ⟨_, rfl, _, rfl, c, _, rfl, .inl hq, _, _, rfl, rfl, ?_, c, _, _, _, rfl, rfl, hq, hat, _, rfl, _, rfl, c, _, rfl, .inl hq, _, _, rfl, rfl, ⟨?_, ?_⟩, _, _, rfl, rfl, .inl ⟨by decide, by decide⟩, _, _, rfl, rfl, ?_⟩⟩
      · show (0 : Int) < ((cs.map V.int).length : Int)
        omega
      · omega
      · omega
      · refine ⟨_, rfl, .inl ⟨_, rfl, _, _, rfl, rfl, by show (0 : Int) < 1000003; decide, ?_⟩⟩
        refine ⟨_, rfl, _, _, rfl, rfl, ⟨by decide, by decide⟩, .inl ⟨_, rfl, _, _, rfl, rfl, by show (0 : Int) < 999983; decide, _, _, rfl, ?_⟩⟩
        refine ⟨_, rfl, c, cs, rfl, hq, .inl ⟨_, rfl, _, _, rfl, rfl, by show (0 : Int) < 65521; decide, ?_⟩⟩
        refine ⟨_, rfl, _, rfl, _, _, rfl, rfl, .inl ⟨by decide, by decide⟩, _, _, rfl, rfl, _, _, rfl, rfl, .inr ⟨by decide, by decide⟩, ?_⟩
        refine ⟨_, rfl, _, _, rfl, rfl, .inl ⟨by decide, by decide⟩, _, _, rfl, rfl, _, rfl, _, _, rfl, rfl, .inl ⟨_, rfl, _, _, rfl, rfl, by show (0 : Int) < 2147483647; decide, ?_⟩⟩
        refine ⟨_, rfl, _, rfl, _, rfl, _, _, rfl, rfl, .inl ⟨by decide, by decide⟩, _, _, rfl, rfl, _, _, rfl, rfl, _, _, rfl, rfl, .inl ⟨?_, ?_⟩, .inl ⟨_, rfl, _, _, rfl, rfl, by show (0 : Int) < 2147483629; decide, ?_⟩⟩
        · have := Int.emod_nonneg ((((cs[j] + 13 * Int.fdiv (i : Int) ((cs.map V.int).length : Int)) % 1000003 + 977 * (i : Int)) * 48271 + 31 * (Int.fdiv (cs[j] + 13 * Int.fdiv (i : Int) ((cs.map V.int).length : Int)) 1000003 % 999983)) + cs.sum % 65521) (show (2147483647 : Int) ≠ 0 by decide)
          omega
        · have := Int.emod_lt_of_pos ((((cs[j] + 13 * Int.fdiv (i : Int) ((cs.map V.int).length : Int)) % 1000003 + 977 * (i : Int)) * 48271 + 31 * (Int.fdiv (cs[j] + 13 * Int.fdiv (i : Int) ((cs.map V.int).length : Int)) 1000003 % 999983)) + cs.sum % 65521) (show (0 : Int) < 2147483647 by decide)
          omega
        · exact ⟨_, _, rfl, rfl, .inr ⟨by decide, by decide⟩, _, rfl, _, _, rfl, rfl, q _ _ s1⟩
theorem b_num (T : Tx K mg A) : L2.Binds K A.d__law_number ["script", "index"] [] := T.F__law_number.binds fun _ _ _ _ _ _ us hl => match us, hl with | [_, _], _ => rfl

/-- what stood, but for what stands at d -/
def But (d : Addr) (H H' : Hp) : Prop := ∀ b o, b ≠ d → H b = some o → H' b = some o
theorem But.of {d : Addr} {H H' : Hp} (s : Same H H') : But d H H' := fun b o _ e => s b o e
theorem But.trans {d : Addr} {H H1 H2 : Hp} (a : But d H H1) (b : But d H1 H2) : But d H H2 := fun c o n e => b c o n (a c o n e)
theorem But.put {d : Addr} {o : HO} {H : Hp} : But d H (upd H d o) := fun b u n e => by rw [upd_ne n]; exact e
theorem But.seq {d a : Addr} {H H' : Hp} {xs : List V} (s : But d H H') (h : SqL K H a xs) (n : a ≠ d ∨ ∀ H', SqL K H' a xs) : SqL K H' a xs := by
  rcases n with n | n
  rotate_left
  · exact n _
  rcases h with (h | ⟨o, h⟩) | h
  · exact .inl (.inl (s _ _ n h))
  · exact .inl (.inr ⟨o, s _ _ n h⟩)
  · exact .inr h
/-- the draws: a list of the script and of a number -/
structure DrAt (K : PySem.W.Frag) (H : Hp) (d a : Addr) (ns : List Int) (k : Nat) : Prop where
  l : H d = some (.lst [.ref a, .int k])
  n : a ≠ d ∨ ∀ H', SqL K H' a (ns.map V.int)
  s : SqL K H a (ns.map V.int)
  h : ns.length ≤ 63
theorem DrAt.start {K : PySem.W.Frag} {H : Hp} {d a : Addr} {ns : List Int} (ha : SqL K H a (ns.map V.int)) (hl : ns.length ≤ 63) (hd : H d = none) : DrAt K (upd H d (.lst [.ref a, .int 0])) d a ns 0 := by
  refine ⟨upd_same, ?_, (Same.up hd).seq ha, hl⟩
  rcases ha with (h | ⟨o, h⟩) | h
  · exact .inl (ne_of_none h hd)
  · exact .inl (ne_of_none h hd)
  · exact .inr fun H' => .inr h
theorem DrAt.same {K : PySem.W.Frag} {H H' : Hp} {d a : Addr} {ns : List Int} {k : Nat} (h : DrAt K H d a ns k) (s : Same H H') : DrAt K H' d a ns k := ⟨s _ _ h.l, h.n, s.seq h.s, h.h⟩
def spTake (K : PySem.W.Frag) : Sp := fun vs H Q _ => ∃ (d a : Addr) (ns : List Int) (k m : Nat), vs = [.ref d, .int m] ∧ DrAt K H d a ns k ∧ k < 100000 ∧ 0 < m ∧
  ∀ (H' : Hp) (r : Nat), But d H H' → DrAt K H' d a ns (k + 1) → r < m → Q (.int r) H'
theorem ok_take (T : Tx K mg A) : FnOk P w K mg base CX0 3 A.f__law_take A.d__law_take ["draw", "many"] (spTake K) := by
  refine T.F__law_take.ok sc__law_take (fun vs H Q E h => ?_) (fun cdv B outer s H vs Q E hr h => ?_)
  · obtain ⟨d, a, ns, k, m, rfl, _⟩ := h
    rfl
  · obtain ⟨d, a, ns, k, m, rfl, ⟨hl, hn, hs, h63⟩, hk, hm, q⟩ := h
    refine ⟨_, pss_cons (ps_asg (pe_op op_add (pe_ix ix_list (pv 0) pe_int (fun _ _ => rfl)) pe_int) (pg_sub (pv 0) pe_int set_list))
      (pss_one (ps_ret (pe_op op_mod (pe_callTy call_int1 (by rfl) T.g_int (by decide +kernel) (pa_cons
        (pe_call (ok_num T) hr (by rfl) T.m__law_number T.F__law_number.kp (b_num T) .nil pass0 (pa_cons (pe_ix ix_list (pv 0) pe_int (fun _ _ => rfl))
          (pa_cons (pe_callTy call_int1 (by rfl) T.g_int (by decide +kernel) (pa_cons (pe_ix ix_list (pv 0) pe_int (fun _ _ => rfl)) pa_nil)) pa_nil))) pa_nil)) (pv 1)))), ?_⟩
    have at1 : atI [V.ref a, V.int (k : Nat)] 1 = some (V.int (k : Nat)) := rfl
    refine ⟨_, rfl, d, _, _, _, rfl, rfl, SqL.of hl, at1, _, _, rfl, rfl, _, rfl, d, _, _, 1, rfl, rfl, hl, rfl, ?_⟩
    have e1 : upd H d (.lst (([V.ref a, V.int (k : Nat)]).set 1 (V.int ((k : Int) + 1)))) d = some (.lst [V.ref a, V.int ((k + 1 : Nat) : Int)]) := by
      rw [upd_same]
      rfl
    have b1 : But d H (upd H d (.lst (([V.ref a, V.int (k : Nat)]).set 1 (V.int ((k : Int) + 1))))) := But.put
    have s1 := b1.seq hs hn
    refine ⟨_, rfl, d, _, _, _, rfl, rfl, SqL.of e1, rfl, _, rfl, d, _, _, _, rfl, rfl, SqL.of e1, rfl, .inl ⟨_, rfl, a, ns, k + 1, rfl, s1, h63, by omega, fun H2 r s2 => ?_⟩⟩
    refine .inl ⟨_, rfl, _, rfl, _, _, rfl, rfl, by show (0 : Int) < (m : Nat); omega, ?_⟩
    have m0 := Int.emod_nonneg r (show ((m : Nat) : Int) ≠ 0 by omega)
    have m1 := Int.emod_lt_of_pos r (show (0 : Int) < (m : Nat) by omega)
    obtain ⟨z, hz⟩ : ∃ z : Nat, r % (m : Nat) = (z : Int) := ⟨_, (Int.toNat_of_nonneg m0).symm⟩
    have h := q H2 z (b1.trans (But.of s2)) ⟨s2 _ _ e1, hn, s2.seq s1, h63⟩ (by omega)
    rw [← hz] at h
    exact h
theorem b_take (T : Tx K mg A) : L2.Binds K A.d__law_take ["draw", "many"] [] := T.F__law_take.binds fun _ _ _ _ _ _ us hl => match us, hl with | [_, _], _ => rfl

end

end Tw

set_option Elab.async false
set_option linter.all false
set_option maxRecDepth 100000
set_option maxHeartbeats 2000000
namespace Tw
open PySem PySem.Spec PyProof.Rows L2
section
variable {P : Program} {w : World} {K : PySem.W.Frag} {mg : Str → Option Value} {base : Heap} {A : Ad}
/-! ways, children, subtrees by the law -/
def dl (l : List Nat) : List PyData := l.map fun i => PyData.int (i : Nat)
theorem dl_ints (l : List Nat) : dl l = (l.map fun i => ((i : Nat) : Int)).map PyData.int := by unfold dl; rw [List.map_map]; rfl
theorem vi_ints (l : List Nat) : vi l = (l.map fun i => ((i : Nat) : Int)).map V.int := by unfold vi; rw [List.map_map]; rfl
theorem vi_dp (K : PySem.W.Frag) (H : Hp) (l : List Nat) : DpAll K H (vi l) (dl l) := by
  rw [vi_ints, dl_ints]
  exact ints_dp _ _ _
theorem dl_shaped (l : List Nat) : SeqAt.shaped (.tuple (dl l)) = true := by
  rw [dl_ints]
  exact shaped_ints _
theorem dl_shapedL (l : List Nat) : SeqAt.shaped (.list (dl l)) = true := by
  rw [dl_ints]
  exact shaped_ints _
theorem refl_of {d : PyData} (h : SeqAt.shaped d = true) : PyData.eqv d d = true := PySem.SeqAt.eqv_refl d (SeqAt.canLay_of_shaped h)
def spLPar : Sp := fun vs H Q _ => ∃ (w i : Nat), vs = [.int w, .int i] ∧ (1 ≤ w ∧ w ≤ 4) ∧ 1 ≤ i ∧ Q (.int ((i - 1) / w : Nat)) H
theorem ok_lpar (T : Tx K mg A) : FnOk P w K mg base CX0 2 A.f__law_parent A.d__law_parent ["wide", "place"] spLPar := by
  refine T.F__law_parent.ok sc__law_parent (fun vs H Q E h => ?_) (fun cdv B outer s H vs Q E hr h => ?_)
  · obtain ⟨w, i, rfl, _⟩ := h
    rfl
  · obtain ⟨w, i, rfl, hw, hi, q⟩ := h
    refine ⟨_, pss_one (ps_ret (pe_op op_fdivN (pe_callTy call_int1 (by rfl) T.g_int (by decide +kernel) (pa_cons (pe_op op_sub (pv 1) pe_int) pa_nil)) (pv 0))), ?_⟩
    refine ⟨_, rfl, _, _, rfl, rfl, .inl ⟨_, rfl, _, rfl, _, _, rfl, rfl, ⟨by omega, by omega⟩, ?_⟩⟩
    have e : Int.fdiv ((i : Int) - 1) (w : Int) = ((i - 1) / w : Nat) := by
      rw [Int.fdiv_eq_ediv_of_nonneg _ (by omega), show ((i : Int) - 1) = ((i - 1 : Nat) : Int) by omega]
      rfl
    show Q (V.int (Int.fdiv ((i : Int) - 1) (w : Int))) H
    rw [e]
    exact q
theorem b_lpar (T : Tx K mg A) : L2.Binds K A.d__law_parent ["wide", "place"] [] := T.F__law_parent.binds fun _ _ _ _ _ _ us hl => match us, hl with | [_, _], _ => rfl
def spLWay : Sp := fun vs H Q _ => ∃ (w i : Nat), vs = [.int w, .int i] ∧ (1 ≤ w ∧ w ≤ 4) ∧ i ≤ 12 ∧ ∀ H' q, Same H H' → H q = none → H' q = some (.lst (vi (wayL w i))) → Q (.ref q) H'
theorem up_head : ∀ w, w < 5 → ∀ p, p < 13 → 1 ≤ w → upL w p = p :: (upL w p).tail := by decide +kernel
theorem way_len : ∀ w, w < 5 → ∀ p, p < 13 → 1 ≤ w → (wayL w p).length ≤ 13 := by decide +kernel
theorem ok_lway (T : Tx K mg A) : FnOk P w K mg base CX0 3 A.f__law_way A.d__law_way ["wide", "place"] spLWay := by
  refine T.F__law_way.ok sc__law_way (fun vs H Q E h => ?_) (fun cdv B outer s H vs Q E hr h => ?_)
  · obtain ⟨w, i, rfl, _⟩ := h
    rfl
  · obtain ⟨w, i, rfl, hw, hi, q⟩ := h
    have nd := sc__law_way.nd
    refine ⟨_, pss_cons (ps_set (i := 2) nd rfl (Or.inl rfl) (pe_lst (pa_cons (pv 1) pa_nil)))
      (pss_cons (ps_for PassesOwn.never rfl (pi_range1 rfl T.g_range (pa_cons pe_int pa_nil)) (pg_name (i := 3) nd rfl (Or.inl rfl))
        (pss_cons (ps_if (pt_cmpR op_eq (pe_ix ix_list (pv 2) pe_int (fun _ _ => rfl)) pe_int (nomark _)) (pss_one (ps_ret (pv 2))) pss_nil)
        (pss_one (ps_set (i := 2) nd rfl (Or.inl rfl) (pe_op op_cat (pe_lst (pa_cons (pe_call (ok_lpar T) hr (by rfl) T.m__law_parent T.F__law_parent.kp (b_lpar T) .nil pass0 (pa_cons (pv 0) (pa_cons (pe_ix ix_list (pv 2) pe_int (fun _ _ => rfl)) pa_nil))) pa_nil)) (pv 2))))))
      (pss_one (ps_ret (pv 2)))), ?_⟩
    refine ⟨_, rfl, by show 1 ≤ sizeLine; decide, fun d hd => ?_⟩
    refine ⟨20, rfl, by decide, by decide, for_range (n := 20) (fun k σ H' => ∃ (c : Nat) (L : List Nat) (a : Addr) (z : Option V), σ = [some (.int w), some (.int i), some (.ref a), z] ∧ Same H H' ∧ H a = none ∧ H' a = some (.lst (vi (c :: L))) ∧
      wayL w i = (upL w c).tail.reverse ++ (c :: L) ∧ c + k ≤ 12) ⟨i, [], d, none, rfl, Same.up hd, hd, upd_same, ?_, by omega⟩ ?_ ?_⟩
    · unfold wayL
      have h := up_head w (by omega) i (by omega) hw.1
      rw [h, List.reverse_cons]
      rfl
    · rintro k σ H' hk ⟨c, L, a, z, rfl, s1, a0, ha, eq, hc⟩
      have hat : atI (vi (c :: L)) 0 = some (V.int (c : Nat)) := atI_nat (j := 0) rfl
      refine ⟨_, rfl, a, _, _, _, rfl, rfl, SqL.of ha, hat, rfl, _, rfl, ?_⟩
      by_cases h0 : c = 0
      · rw [decide_eq_true (show V.int (c : Nat) = V.int 0 by rw [h0]; rfl)]
        refine iteT ⟨_, rfl, q _ a s1 a0 ?_⟩
        subst h0
        have e0 := up_eq w (by omega) 0 (by omega) hw.1
        rw [if_pos rfl] at e0
        rw [e0] at eq
        rw [ha, eq]
        rfl
      · rw [decide_eq_false (show ¬ V.int (c : Nat) = V.int 0 by intro z; injection z with z; omega)]
        refine iteF ?_
        have hlt : (c - 1) / w < c := Nat.lt_of_le_of_lt (Nat.div_le_self _ _) (by omega)
        have e1 := up_eq w (by omega) c (by omega) hw.1
        rw [if_neg h0] at e1
        have e2 := up_head w (by omega) ((c - 1) / w) (by omega) hw.1
        have hlen : (c :: L).length ≤ 13 := by
          have h3 := way_len w (by omega) i (by omega) hw.1
          rw [eq, List.length_append] at h3
          omega
        refine ⟨_, rfl, _, rfl, a, _, _, _, rfl, rfl, SqL.of ha, hat, w, c, rfl, hw, by omega, by show 1 ≤ sizeLine; decide, fun a2 ha2 => ?_⟩
        have s2 : Same H' (upd H' a2 (.lst [V.int ((c - 1) / w : Nat)])) := Same.up ha2
        refine ⟨_, rfl, a2, a, _, _, rfl, rfl, upd_same, s2 _ _ ha, ?_, fun a3 ha3 => ?_⟩
        · rw [vi_len]
          exact Nat.le_of_lt (small1000 (by rw [List.length_singleton]; omega))
        · refine ⟨(c - 1) / w, c :: L, a3, _, rfl, s1.trans (s2.trans (Same.up ha3)), (s1.trans s2).free ha3, upd_same, ?_, by omega⟩
          rw [eq, e1, List.tail_cons]
          conv => lhs; rw [e2]
          rw [List.reverse_cons, List.append_assoc]
          rfl
    · rintro σ H' ⟨c, L, a, z, rfl, s1, a0, ha, eq, hc⟩
      omega
theorem b_lway (T : Tx K mg A) : L2.Binds K A.d__law_way ["wide", "place"] [] := T.F__law_way.binds fun _ _ _ _ _ _ us hl => match us, hl with | [_, _], _ => rfl

end

end Tw

set_option Elab.async false
set_option linter.all false
set_option maxRecDepth 100000
set_option maxHeartbeats 2000000
namespace Tw
open PySem PySem.Spec PyProof.Rows L2
section
variable {P : Program} {w : World} {K : PySem.W.Frag} {mg : Str → Option Value} {base : Heap} {A : Ad}

def spLSub : Sp := fun vs H Q _ => ∃ (w n i : Nat), vs = [.int w, .int n, .int i] ∧ (1 ≤ w ∧ w ≤ 4) ∧ n ≤ 12 ∧ i < n ∧ ∀ H' q, Same H H' → H q = none → H' q = some (.lst (vi (subL n w i))) → Q (.ref q) H'
theorem ok_lsub (T : Tx K mg A) : FnOk P w K mg base CX0 4 A.f__law_subtree A.d__law_subtree ["wide", "many", "place"] spLSub := by
  refine T.F__law_subtree.ok sc__law_subtree (fun vs H Q E h => ?_) (fun cdv B outer s H vs Q E hr h => ?_)
  · obtain ⟨w, n, i, rfl, _⟩ := h
    rfl
  · obtain ⟨w, n, i, rfl, hw, hn, hi, q⟩ := h
    have nd := sc__law_subtree.nd
    refine ⟨_, pss_one (ps_ret (pe_lc (own := [("other", 3)]) (g := gName 3) rfl nd (pi_range1 rfl T.g_range (pa_cons (pv 1) pa_nil)) (blkOk_by (own := [("other", 3)]) (N := ["wide", "many", "place", "other"]) (sc := defScope s__law_subtree) (by decide +kernel))
      (fun _ _ _ _ _ => pg_name (i := 3) nd rfl (Or.inl rfl))
      (fun _ _ _ _ _ => pts_one (pt_cmpR (r := L2.rIn K false) op_in_seq (pv 2) (pe_call (ok_lway T) hr (by rfl) T.m__law_way T.F__law_way.kp (b_lway T) .nil pass0 (pa_cons (pv 0) (pa_cons (pv 3) pa_nil))) (by rfl))) (fun _ _ _ _ _ => pv 3))), ?_⟩
    refine ⟨_, rfl, _, rfl, by omega, by omega, fun D hD => ?_⟩
    rw [Int.toNat_natCast]
    refine lc_it (walk_range (lo := 0) (n := n)) (PickI H D (List.range n) fun j => if i ∈ wayL w j then some (V.int (j : Nat)) else none) (pick_start hD) (fun k H' _ h => trivial) ?_ ?_
    · rintro k x H2 H3 hk pk ⟨rfl, ex⟩
      have ex2 : x = V.int (k : Nat) := ex.trans (by show V.int (0 + (k : Int)) = _; rw [Int.zero_add])
      subst ex2
      have hk' : k < (List.range n).length := by rw [List.length_range]; exact hk
      refine ⟨rfl, _, rfl, _, rfl, _, rfl, w, k, rfl, hw, by omega, fun H4 r s4 r0 hr4 => ?_⟩
      refine ⟨r, _, rfl, .inl (SqL.of hr4), rfl, vi_flat _, _, rfl, ?_⟩
      show if (inV (V.int (i : Nat)) (vi (wayL w k))) = true then _ else _
      rw [mem_vi]
      by_cases hm : i ∈ wayL w k
      · rw [decide_eq_true hm]
        exact iteT ⟨_, rfl, pick_yes hk' (by rw [List.length_range]; omega) (by rw [List.getElem_range, if_pos hm]) s4 pk⟩
      · rw [decide_eq_false hm]
        exact iteF (pick_no hk' (by rw [List.getElem_range, if_neg hm]) s4 pk)
    · intro H2 pk
      have ac := pick_end (by rw [List.length_range]) pk
      refine q _ D ac.s hD ?_
      rw [ac.a, sub_pick]
theorem b_lsub (T : Tx K mg A) : L2.Binds K A.d__law_subtree ["wide", "many", "place"] [] := T.F__law_subtree.binds fun _ _ _ _ _ _ us hl => match us, hl with | [_, _, _], _ => rfl
/-- the children as the law looks for them -/
def kidL (n w i : Nat) : List Nat := ((List.range (n - 1)).filter fun j => decide (j / w = i)).map (· + 1)
theorem kid_pick (n w i : Nat) : vi (kidL n w i) = (List.range (n - 1)).filterMap fun j => if j / w = i then some (V.int ((j + 1 : Nat) : Int)) else none := by
  unfold vi kidL
  induction List.range (n - 1) with
  | nil => rfl
  | cons a l ih =>
    by_cases h : a / w = i
    · rw [List.filter_cons_of_pos (by simp [h]), List.map_cons, List.map_cons, ih, List.filterMap_cons, if_pos h]
    · rw [List.filter_cons_of_neg (by simp [h]), ih, List.filterMap_cons, if_neg h]
def kidsN (n w i : Nat) : List Nat := ((List.range n).drop (min (i * w + 1) n)).take (min (i * w + 1 + w) n - min (i * w + 1) n)
theorem kids_same : ∀ n, n < 13 → ∀ w, w < 5 → ∀ i, i < n → 1 ≤ w → kidsN n w i = kidL n w i := by decide +kernel
theorem kids_eq (n w i : Nat) : kids n w i = vi (kidsN n w i) := by
  unfold kids cutV kidsN
  rw [pl_len, show ((i : Int) * (w : Int) + 1) = ((i * w + 1 : Nat) : Int) by push_cast; rfl, show (((i * w + 1 : Nat) : Int) + (w : Int)) = ((i * w + 1 + w : Nat) : Int) by push_cast; rfl, HT.sIx_nat, HT.sIx_nat]
  unfold vi pl
  rw [List.map_take, List.map_drop]
def spLKid : Sp := fun vs H Q _ => ∃ (w n i : Nat), vs = [.int w, .int n, .int i] ∧ (1 ≤ w ∧ w ≤ 4) ∧ n ≤ 12 ∧ i < n ∧ ∀ H' q, Same H H' → H q = none → H' q = some (.lst (vi (kidL n w i))) → Q (.ref q) H'
theorem ok_lkid (T : Tx K mg A) : FnOk P w K mg base CX0 3 A.f__law_children A.d__law_children ["wide", "many", "place"] spLKid := by
  refine T.F__law_children.ok sc__law_children (fun vs H Q E h => ?_) (fun cdv B outer s H vs Q E hr h => ?_)
  · obtain ⟨w, n, i, rfl, _⟩ := h
    rfl
  · obtain ⟨w, n, i, rfl, hw, hn, hi, q⟩ := h
    have nd := sc__law_children.nd
    refine ⟨_, pss_one (ps_ret (pe_lc (own := [("other", 3)]) (g := gName 3) rfl nd (pi_range2 rfl T.g_range (pa_cons pe_int (pa_cons (pv 1) pa_nil))) (blkOk_by (own := [("other", 3)]) (N := ["wide", "many", "place", "other"]) (sc := defScope s__law_children) (by decide +kernel))
      (fun _ _ _ _ _ => pg_name (i := 3) nd rfl (Or.inl rfl))
      (fun _ _ _ _ _ => pts_one (pt_cmpR op_eq (pe_call (ok_lpar T) hr (by rfl) T.m__law_parent T.F__law_parent.kp (b_lpar T) .nil pass0 (pa_cons (pv 0) (pa_cons (pv 3) pa_nil))) (pv 2) (nomark _))) (fun _ _ _ _ _ => pv 3))), ?_⟩
    refine ⟨_, rfl, _, _, rfl, ⟨by omega, by omega, by omega, by omega⟩, fun D hD => ?_⟩
    rw [show ((n : Int) - 1).toNat = n - 1 by omega]
    refine lc_it (walk_range (lo := 1) (n := n - 1)) (PickI H D (List.range (n - 1)) fun j => if j / w = i then some (V.int ((j + 1 : Nat) : Int)) else none) (pick_start hD) (fun k H' _ h => trivial) ?_ ?_
    · rintro k x H2 H3 hk pk ⟨rfl, ex⟩
      have ex2 : x = V.int ((k + 1 : Nat) : Int) := ex.trans (by show V.int (1 + (k : Int)) = _; rw [show (1 + (k : Int)) = ((k + 1 : Nat) : Int) by omega])
      subst ex2
      have hk' : k < (List.range (n - 1)).length := by rw [List.length_range]; exact hk
      refine ⟨rfl, _, rfl, _, rfl, w, k + 1, rfl, hw, by omega, _, rfl, rfl, _, rfl, ?_⟩
      rw [show k + 1 - 1 = k by omega]
      by_cases hm : k / w = i
      · rw [decide_eq_true (show V.int ((k / w : Nat) : Int) = V.int (i : Nat) by rw [hm])]
        exact iteT ⟨_, rfl, pick_yes hk' (by rw [List.length_range]; omega) (by rw [List.getElem_range, if_pos hm]) (Same.refl _) pk⟩
      · rw [decide_eq_false (show ¬ V.int ((k / w : Nat) : Int) = V.int (i : Nat) from fun z => hm (by injection z with z; exact Int.ofNat.inj z))]
        exact iteF (pick_no hk' (by rw [List.getElem_range, if_neg hm]) (Same.refl _) pk)
    · intro H2 pk
      have ac := pick_end (by rw [List.length_range]) pk
      refine q _ D ac.s hD ?_
      rw [ac.a, kid_pick]
theorem b_lkid (T : Tx K mg A) : L2.Binds K A.d__law_children ["wide", "many", "place"] [] := T.F__law_children.binds fun _ _ _ _ _ _ us hl => match us, hl with | [_, _, _], _ => rfl

end

end Tw

set_option Elab.async false
set_option linter.all false
set_option maxRecDepth 100000
set_option maxHeartbeats 2000000
namespace Tw
open PySem PySem.Spec PyProof.Rows L2
section
variable {P : Program} {w : World} {K : PySem.W.Frag} {mg : Str → Option Value} {base : Heap} {A : Ad}
theorem dp_tup (K : PySem.W.Frag) {H : Hp} {p : Addr} {l : List Nat} (h : H p = some (.tup (vi l))) : Dp K H (.ref p) (.tuple (dl l)) := .tup (SqT.of h) (vi_dp _ _ _)
theorem way_two : ∀ w, w < 5 → ∀ i, i < 13 → 1 ≤ w → 0 < i → 2 ≤ (wayL w i).length ∧ (wayL w i)[(wayL w i).length - 2]? = some ((i - 1) / w) := by decide +kernel
theorem at_two (w i : Nat) (hw : 1 ≤ w ∧ w ≤ 4) (hi : i ≤ 12) (h0 : 0 < i) : atI (vi (wayL w i)) (-2) = some (V.int ((i - 1) / w : Nat)) := by
  obtain ⟨h1, h2⟩ := way_two w (by omega) i (by omega) hw.1 h0
  unfold atI ixN
  rw [if_neg (by decide), vi_len, if_pos (by omega)]
  show (vi (wayL w i))[((-2 : Int) + ((wayL w i).length : Int)).toNat]? = _
  rw [show ((-2 : Int) + ((wayL w i).length : Int)).toNat = (wayL w i).length - 2 by omega]
  unfold vi
  rw [List.getElem?_map, h2]
  rfl
def rLenS (K : PySem.W.Frag) : List V → Hp → VK → Prop := fun xs H Q => ∃ p ys, xs = [.ref p] ∧ (SqL K H p ys ∨ SqT K H p ys) ∧ Q (.int ys.length) H
theorem max_one {ds : List Int} {m M : Int} (h1 : m ∈ ds) (h2 : ∀ z ∈ ds, z ≤ m) (h3 : M ∈ ds.map (· + 1)) (h4 : ∀ z ∈ ds.map (· + 1), z ≤ M) : M = m + 1 := by
  obtain ⟨x, hx, rfl⟩ := List.mem_map.mp h3
  have a := h2 x hx
  have b := h4 (m + 1) (List.mem_map.mpr ⟨m, h1, rfl⟩)
  omega
def spPR (C : Addr) : Sp := fun vs H Q _ => ∃ (p n w : Nat), vs = [.ref p, .int n, .int w] ∧ TreeAt C H p n w ∧ ∀ H', Same H H' → Q (.bl true) H'
theorem ok_pr (T : Tx K mg A) : FnOk P w K mg base CX0 8 A.f__law_places_right A.d__law_places_right ["tree", "many", "wide"] (spPR A.C) := by
  refine T.F__law_places_right.ok sc__law_places_right (fun vs H Q E h => ?_) (fun cdv B outer s H vs Q E hr h => ?_)
  · obtain ⟨p, n, w, rfl, _⟩ := h
    rfl
  · obtain ⟨p, n, w, rfl, t, q⟩ := h
    have nd := sc__law_places_right.nd
    have hu := hr.units
    have hw := t.hw
    have hn := t.hn
    obtain ⟨dx, l, h1, h2⟩ := t.ob
    have noS : (tf n w l).lookup ("subtree" : Str) = none := tf_no _ _ _ (by decide +kernel) (by decide +kernel) (by decide +kernel)
    have noW : (tf n w l).lookup ("way_to" : Str) = none := tf_no _ _ _ (by decide +kernel) (by decide +kernel) (by decide +kernel)
    have noD : (tf n w l).lookup ("depth" : Str) = none := tf_no _ _ _ (by decide +kernel) (by decide +kernel) (by decide +kernel)
    have noP : (tf n w l).lookup ("parent" : Str) = none := tf_no _ _ _ (by decide +kernel) (by decide +kernel) (by decide +kernel)
    have noZ : (tf n w l).lookup ("size" : Str) = none := tf_no _ _ _ (by decide +kernel) (by decide +kernel) (by decide +kernel)
    have noH : (tf n w l).lookup ("height" : Str) = none := tf_no _ _ _ (by decide +kernel) (by decide +kernel) (by decide +kernel)
    refine ⟨_, pss_cons (ps_for PassesOwn.never rfl (pi_range1 rfl T.g_range (pa_cons (pv 1) pa_nil)) (pg_name (i := 3) nd rfl (Or.inl rfl))
        (pss_cons (ps_par (i := 4) (j := 5) rfl nd rfl rfl (by decide) rfl rfl (pa_cons (pe_call (ok_lway T) (hr.mono (by decide)) (by rfl) T.m__law_way T.F__law_way.kp (b_lway T) .nil pass0 (pa_cons (pv 2) (pa_cons (pv 3) pa_nil)))
          (pa_cons (pe_call (ok_lsub T) (hr.mono (by decide)) (by rfl) T.m__law_subtree T.F__law_subtree.kp (b_lsub T) .nil pass0 (pa_cons (pv 2) (pa_cons (pv 1) (pa_cons (pv 3) pa_nil)))) pa_nil)) rfl)
        (pss_cons (ps_if (pt_cmpR (op_neD hu) (pe_gi T.D_t___getitem__ (ok_gi T) (hr.mono (by decide)) (b_gi T) pass0 (pv 0) (pv 3)) (pe_callTy call_tuple_of (by rfl) T.g_tuple (by decide +kernel) (pa_cons (pe_call (ok_lkid T) (hr.mono (by decide)) (by rfl) T.m__law_children T.F__law_children.kp (b_lkid T) .nil pass0 (pa_cons (pv 2) (pa_cons (pv 1) (pa_cons (pv 3) pa_nil)))) pa_nil)) (nomark _)) (pss_one (ps_ret pe_bl)) pss_nil)
        (pss_cons (ps_if (pt_cmpR (op_neD hu) (pe_meth (pv 0) T.cT T.M_t_way_to (ok_way T) (hr.mono (by decide)) (b_way T) .nil pass0 (pa_cons (pv 3) pa_nil)) (pe_callTy call_tuple_of (by rfl) T.g_tuple (by decide +kernel) (pa_cons (pv 4) pa_nil)) (nomark _)) (pss_one (ps_ret pe_bl)) pss_nil)
        (C8.pss_cut (ps_if (PW.pt (pw_or (pt_cmpR op_ne (pe_meth (pv 0) T.cT T.M_t_parent (ok_par T) (hr.mono (by decide)) (b_par T) .nil pass0 (pa_cons (pv 3) pa_nil)) (pe_ifExp (pt_cmpR op_gt (pv 3) pe_int (nomark _)) (pe_ix ix_list (pv 4) (pe_un un_neg pe_int) (fun _ _ => rfl)) pe_non) (nomark _))
            (pw_or1 (pt_cmpR op_ne (pe_meth (pv 0) T.cT T.M_t_depth (ok_dep T) (hr.mono (by decide)) (b_dep T) .nil pass0 (pa_cons (pv 3) pa_nil)) (pe_op op_sub (pe_callB call_len_seq (by rfl) T.g_len PySem.boot_len (pa_cons (pv 4) pa_nil)) pe_int) (nomark _))))) (pss_one (ps_ret pe_bl)) pss_nil)
        (pss_cons (ps_if (PW.pt (pw_or (pt_cmpR (op_neD hu) (pe_meth (pv 0) T.cT T.M_t_subtree (ok_sub T) (hr.mono (by decide)) (b_sub T) .nil pass0 (pa_cons (pv 3) pa_nil)) (pe_callTy call_tuple_of (by rfl) T.g_tuple (by decide +kernel) (pa_cons (pv 5) pa_nil)) (nomark _))
            (pw_or1 (pt_cmpR op_ne (pe_meth (pv 0) T.cT T.M_t_size (ok_siz T) (hr.mono (by decide)) (b_siz T) .nil pass0 (pa_cons (pv 3) pa_nil)) (pe_callB call_len_seq (by rfl) T.g_len PySem.boot_len (pa_cons (pv 5) pa_nil)) (nomark _))))) (pss_one (ps_ret pe_bl)) pss_nil)
        (pss_one (ps_if (pt_cmpR op_ne (pe_meth (pv 0) T.cT T.M_t_height (ok_hei T) (hr.mono (by decide)) (b_hei T) .nil pass0 (pa_cons (pv 3) pa_nil)) (pe_op op_sub (pe_callB (cr_max rfl) (by rfl) T.g_max (by decide +kernel) (pa_cons
            (pe_lc (own := [("other", 6)]) (g := gName 6) (tt := tYes) rfl nd (pi_list (pv 5)) (blkOk_by (own := [("other", 6)]) (N := ["tree", "many", "wide", "place", "way", "below", "other"]) (sc := defScope s__law_places_right) (by decide +kernel))
              (fun _ _ _ _ _ => pg_name (i := 6) nd rfl (Or.inl rfl)) (fun _ _ _ _ _ => pts_nil)
              (fun _ _ _ _ _ => pe_callB (r := rLenS K) call_len_seq (by rfl) T.g_len PySem.boot_len (pa_cons (pe_call (ok_lway T) (hr.mono (by decide)) (by rfl) T.m__law_way T.F__law_way.kp (b_lway T) .nil pass0 (pa_cons (pv 2) (pa_cons (pv 6) pa_nil))) pa_nil))) pa_nil)) (pe_callB call_len_seq (by rfl) T.g_len PySem.boot_len (pa_cons (pv 4) pa_nil))) (nomark _)) (pss_one (ps_ret pe_bl)) pss_nil))))))))
      (pss_one (ps_ret pe_bl)), ?_⟩
    refine ⟨_, rfl, _, rfl, by omega, by omega, ?_⟩
    rw [Int.toNat_natCast]
    refine for_range (n := n) (fun k σ H' => ∃ x y z u, σ = [some (.ref p), some (.int n), some (.int w), x, y, z, u] ∧ Same H H') ⟨none, none, none, none, rfl, Same.refl _⟩ ?_ ?_
    · rintro k σ H' hk ⟨x, y, z, u, rfl, s1⟩
      have z0 : V.int ((0 : Int) + (k : Nat)) = V.int (k : Nat) := by rw [Int.zero_add]
      rw [z0]
      have hkn : k ≤ 12 := by omega
      -- way, below
      refine ⟨_, rfl, _, rfl, w, k, rfl, hw, hkn, fun H2 a s2 a0 ha => ?_⟩
      refine ⟨_, rfl, _, rfl, _, rfl, w, n, k, rfl, hw, hn, hk, fun H3 b s3 b0 hb => ⟨_, _, rfl, ?_⟩⟩
      have s03 := s1.trans (s2.trans s3)
      have ha3 := s3 _ _ ha
      -- children
      refine ⟨_, rfl, _, rfl, p, dx, _, rfl, s03 _ _ h1, p, n, w, k, rfl, t.same s03, hk, fun H4 c s4 hc => ?_⟩
      refine ⟨_, rfl, _, rfl, _, rfl, w, n, k, rfl, hw, hn, hk, fun H5 d s5 d0 hd => ⟨d, _, rfl, .inl ⟨SqL.of hd, fun e e0 => ?_⟩⟩⟩
      have hc6 := (s5.trans (Same.up (o := .tup (vi (kidL n w k))) e0)) _ _ hc
      rw [kids_eq, kids_same n (by omega) w (by omega) k hk hw.1] at hc6
      refine ⟨_, _, dp_tup _ hc6, dp_tup _ upd_same, dl_shaped _, dl_shaped _, _, rfl, ?_⟩
      rw [refl_of (dl_shaped _)]
      refine iteF ?_
      have s6 := s4.trans (s5.trans (Same.up (o := .tup (vi (kidL n w k))) e0))
      have s06 := s03.trans s6
      -- way_to
      refine ⟨_, rfl, p, dx, _, rfl, s06 _ _ h1, noW, _, rfl, p, n, w, k, rfl, t.same s06, hk, fun H7 f s7 f0 hf => ?_⟩
      have ha7 := s7 _ _ (s6 _ _ ha3)
      refine ⟨_, rfl, a, _, rfl, .inl ⟨SqL.of ha7, fun g g0 => ?_⟩⟩
      refine ⟨_, _, dp_tup _ ((Same.up g0) _ _ hf), dp_tup _ upd_same, dl_shaped _, dl_shaped _, _, rfl, ?_⟩
      rw [refl_of (dl_shaped _)]
      refine iteF ?_
      have s8 := s7.trans (Same.up (o := .tup (vi (wayL w k))) g0)
      have s08 := s06.trans s8
      have ha8 := s8 _ _ (s6 _ _ ha3)
      -- parent, depth
      have hb8 := s8 _ _ (s6 _ _ hb)
      refine ⟨fun σ' H' => σ' = [some (.ref p), some (.int n), some (.int w), some (.int k), some (.ref a), some (.ref b), u] ∧ Same H H' ∧ H' a = some (.lst (vi (wayL w k))) ∧ H' b = some (.lst (vi (subL n w k))), ?_, ?_⟩
      · refine ⟨_, rfl, p, dx, _, rfl, s08 _ _ h1, noP, _, rfl, p, n, w, k, rfl, t.same s08, hk, ?_⟩
        have same : ∀ v : V, (!decide (v = v)) = false := fun v => by rw [decide_eq_true rfl]; rfl
        have scP : scal (parV w k) (parV w k) = true := by unfold parV; split <;> rfl
        refine ⟨_, rfl, _, _, rfl, rfl, _, rfl, ?_⟩
        by_cases h0 : k = 0
        · rw [decide_eq_false (show ¬ (0 : Int) < (k : Nat) by omega)]
          refine iteF ?_
          have ev : parV w k = V.non := by unfold parV; rw [if_pos h0]
          rw [ev]
          refine ⟨rfl, _, rfl, ?_⟩
          rw [same]
          refine iteF ?_
          refine ⟨_, rfl, p, dx, _, rfl, s08 _ _ h1, noD, _, rfl, p, n, w, k, rfl, t.same s08, hk, fun H9 s9 => ?_⟩
          refine ⟨_, rfl, a, _, rfl, .inl (SqL.of (s9 _ _ ha8)), _, _, rfl, rfl, rfl, _, rfl, ?_⟩
          rw [vi_len, same]
          exact iteF ⟨rfl, s08.trans s9, s9 _ _ ha8, s9 _ _ hb8⟩
        · rw [decide_eq_true (show (0 : Int) < (k : Nat) by omega)]
          refine iteT ?_
          have ev : parV w k = V.int ((k - 1) / w : Nat) := by unfold parV; rw [if_neg h0]
          rw [ev]
          refine ⟨_, rfl, _, rfl, a, _, _, _, rfl, rfl, SqL.of ha8, at_two w k hw hkn (by omega), rfl, _, rfl, ?_⟩
          rw [same]
          refine iteF ?_
          refine ⟨_, rfl, p, dx, _, rfl, s08 _ _ h1, noD, _, rfl, p, n, w, k, rfl, t.same s08, hk, fun H9 s9 => ?_⟩
          refine ⟨_, rfl, a, _, rfl, .inl (SqL.of (s9 _ _ ha8)), _, _, rfl, rfl, rfl, _, rfl, ?_⟩
          rw [vi_len, same]
          exact iteF ⟨rfl, s08.trans s9, s9 _ _ ha8, s9 _ _ hb8⟩
      · rintro σ' G ⟨rfl, sg, hga, hgb⟩
        have same : ∀ v : V, (!decide (v = v)) = false := fun v => by rw [decide_eq_true rfl]; rfl
        -- subtree, size
        refine ⟨_, rfl, p, dx, _, rfl, sg _ _ h1, noS, _, rfl, p, n, w, k, rfl, t.same sg, hk, fun G1 r sr r0 hr1 => ?_⟩
        refine ⟨_, rfl, b, _, rfl, .inl ⟨SqL.of (sr _ _ hgb), fun g2 g20 => ?_⟩⟩
        refine ⟨_, _, dp_tup _ ((Same.up g20) _ _ hr1), dp_tup _ upd_same, dl_shaped _, dl_shaped _, _, rfl, ?_⟩
        rw [refl_of (dl_shaped _)]
        refine iteF ?_
        have s10 := sg.trans (sr.trans (Same.up (o := .tup (vi (subL n w k))) g20))
        have sgg := sr.trans (Same.up (o := .tup (vi (subL n w k))) g20)
        refine ⟨_, rfl, p, dx, _, rfl, s10 _ _ h1, noZ, _, rfl, p, n, w, k, rfl, t.same s10, hk, fun G3 s11 => ?_⟩
        have hb11 := s11 _ _ (sgg _ _ hgb)
        have ha11 := s11 _ _ (sgg _ _ hga)
        have s12 := s10.trans s11
        refine ⟨_, rfl, b, _, rfl, .inl (SqL.of hb11), rfl, _, rfl, ?_⟩
        rw [vi_len, same]
        refine iteF ?_
        -- height
        refine ⟨_, rfl, p, dx, _, rfl, s12 _ _ h1, noH, _, rfl, p, n, w, k, rfl, t.same s12, hk, fun G4 m s13 hm hle => ?_⟩
        have hb13 := s13 _ _ hb11
        refine ⟨_, rfl, b, rfl, ⟨_, SqL.of hb13⟩, fun D hD => ?_⟩
        have hsn := sub_n n w k
        refine lc_it (walk_list (xs := vi (subL n w k))) (PickI G4 D (subL n w k) fun j => some (V.int ((wayL w j).length : Nat))) (pick_start hD) (fun k H' _ h => SqL.of (h.s _ _ hb13)) ?_ ?_
        · rintro k2 x2 H2 H3 hk2 pk ⟨rfl, ex⟩
          obtain ⟨hk3, rfl⟩ := map_at ex
          have hm3 : (subL n w k)[k2] < n := List.mem_range.mp (List.mem_filter.mp (List.getElem_mem hk3)).1
          refine ⟨rfl, ?_⟩
          refine iteT (B := PickI G4 D (subL n w k) (fun j => some (V.int ((wayL w j).length : Nat))) (k2 + 1) H3) ?_
          refine ⟨_, rfl, _, rfl, w, _, rfl, hw, by omega, fun H5 r5 s5 r50 hr5 => ⟨r5, _, rfl, .inl (SqL.of hr5), ?_⟩⟩
          rw [vi_len]
          exact pick_yes hk3 (by omega) rfl s5 pk
        · intro G5 pk
          have ac := pick_end (vi_len _) pk
          have e : ((subL n w k).filterMap fun j => some (V.int ((wayL w j).length : Nat))) = ((dps n w k).map (· + 1)).map V.int := by
            unfold dps
            rw [List.filterMap_eq_map', List.map_map, List.map_map]
            refine List.map_congr_left fun j _ => ?_
            show V.int ((wayL w j).length : Nat) = V.int (((wayL w j).length : Int) - 1 + 1)
            rw [Int.sub_add_cancel]
          rw [e] at ac
          have hpos : 0 < ((dps n w k).map (· + 1)).length := by
            rw [List.length_map]
            exact List.length_pos_of_mem hm
          refine ⟨D, _, rfl, SqL.of ac.a, hpos, fun M hM hMle => ?_⟩
          have eM := max_one hm hle hM hMle
          have s14 := s12.trans (s13.trans ac.s)
          refine ⟨_, rfl, a, _, rfl, .inl (SqL.of (ac.s _ _ (s13 _ _ ha11))), _, _, rfl, rfl, rfl, _, rfl, ?_⟩
          have ez : V.int (m - (((wayL w k).length : Int) - 1)) = V.int (M - ((vi (wayL w k)).length : Int)) := by
            rw [vi_len, eM]
            congr 1
            omega
          rw [ez, same]
          exact iteF ⟨_, _, _, _, rfl, s14⟩
    · rintro σ H' ⟨x, y, z, u, rfl, s1⟩
      exact q _ s1

end

end Tw

set_option Elab.async false
set_option linter.all false
set_option maxRecDepth 100000
set_option maxHeartbeats 2000000
namespace Tw
open PySem PySem.Spec PyProof.Rows L2
section
variable {P : Program} {w : World} {K : PySem.W.Frag} {mg : Str → Option Value} {base : Heap} {A : Ad}
theorem b_pr (T : Tx K mg A) : L2.Binds K A.d__law_places_right ["tree", "many", "wide"] [] := T.F__law_places_right.binds fun _ _ _ _ _ _ us hl => match us, hl with | [_, _, _], _ => rfl
def spKeys (K : PySem.W.Frag) : Sp := fun vs H Q _ => ∃ (d a : Addr) (ns : List Int) (k m s : Nat), vs = [.ref d, .int m, .int s] ∧ DrAt K H d a ns k ∧ k < 50000 ∧ m ≤ 12 ∧ 0 < s ∧
  ∀ (H' : Hp) (q : Addr) (ks : List Int) (k' : Nat), But d H H' → DrAt K H' d a ns k' → k' ≤ k + 14 → ks.length ≤ m → (∀ z ∈ ks, -((s : Int) / 2) ≤ z ∧ z < (s : Int) - (s : Int) / 2) → H q = none → H' q = some (.lst (ks.map V.int)) → Q (.ref q) H'
theorem ok_keys (T : Tx K mg A) : FnOk P w K mg base CX0 4 A.f__law_keys A.d__law_keys ["draw", "most", "span"] (spKeys K) := by
  refine T.F__law_keys.ok sc__law_keys (fun vs H Q E h => ?_) (fun cdv B outer s H vs Q E hr h => ?_)
  · obtain ⟨d, a, ns, k, m, s, rfl, _⟩ := h
    rfl
  · obtain ⟨d, a, ns, k, m, sp, rfl, dr, hk, hm, hs, q⟩ := h
    have nd := sc__law_keys.nd
    refine ⟨_, pss_one (ps_ret (pe_lc (own := [("turn", 3)]) (g := gName 3) (tt := tYes) rfl nd (pi_range1 rfl T.g_range (pa_cons (pe_call (ok_take T) hr (by rfl) T.m__law_take T.F__law_take.kp (b_take T) .nil pass0 (pa_cons (pv 0) (pa_cons (pe_op op_add (pv 1) pe_int) pa_nil))) pa_nil))
      (blkOk_by (own := [("turn", 3)]) (N := ["draw", "most", "span", "turn"]) (sc := defScope s__law_keys) (by decide +kernel))
      (fun _ _ _ _ _ => pg_name (i := 3) nd rfl (Or.inl rfl)) (fun _ _ _ _ _ => pts_nil)
      (fun _ _ _ _ _ => pe_op op_sub (pe_call (ok_take T) hr (by rfl) T.m__law_take T.F__law_take.kp (b_take T) .nil pass0 (pa_cons (pv 0) (pa_cons (pv 2) pa_nil)))
        (pe_callTy call_int1 (by rfl) T.g_int (by decide +kernel) (pa_cons (pe_op op_fdiv (pv 2) pe_int) pa_nil))))), ?_⟩
    refine ⟨_, rfl, _, rfl, _, _, rfl, rfl, d, a, ns, k, m + 1, rfl, dr, by omega, by omega, fun H1 r b1 dr1 hr1 => ?_⟩
    refine ⟨_, rfl, by omega, by omega, fun D hD => ?_⟩
    rw [Int.toNat_natCast]
    have hDd : D ≠ d := fun z => by rw [z, dr1.l] at hD; cases hD
    have hD0 : H D = none := by
      cases e : H D with
      | none => rfl
      | some o => rw [b1 D o hDd e] at hD; cases hD
    refine lc_it (walk_range (lo := 0) (n := r)) (fun i H' => ∃ ks : List Int, H' D = some (.lst (ks.map V.int)) ∧ ks.length = i ∧ (∀ z ∈ ks, -((sp : Int) / 2) ≤ z ∧ z < (sp : Int) - (sp : Int) / 2) ∧ But d H H' ∧ DrAt K H' d a ns (k + 1 + i))
      ⟨[], upd_same, rfl, fun z hz => (nomatch hz), ?_, ?_⟩ (fun k H' _ h => trivial) ?_ ?_
    · exact b1.trans (But.of (Same.up hD))
    · exact ⟨(Same.up hD) _ _ dr1.l, dr1.n, (Same.up hD).seq dr1.s, dr1.h⟩
    · rintro i x H2 H3 hi ⟨ks, h1, h2, h3, h4, h5⟩ ⟨rfl, ex⟩
      refine ⟨rfl, ?_⟩
      refine iteT (B := ∃ ks : List Int, H3 D = some (.lst (ks.map V.int)) ∧ ks.length = i + 1 ∧ (∀ z ∈ ks, -((sp : Int) / 2) ≤ z ∧ z < (sp : Int) - (sp : Int) / 2) ∧ But d H H3 ∧ DrAt K H3 d a ns (k + 1 + (i + 1))) ?_
      refine ⟨_, rfl, _, rfl, d, a, ns, k + 1 + i, sp, rfl, h5, by omega, hs, fun H4 v b4 dr4 hv => ?_⟩
      refine ⟨_, rfl, _, _, rfl, rfl, ⟨by decide, by decide⟩, .inl ⟨_, rfl, _, _, rfl, rfl, ?_⟩⟩
      have bf : ∀ zs : List V, But d H (upd H4 D (.lst zs)) := fun zs b o hb e => by
        rw [upd_ne (ne_of_none e hD0)]
        exact b4 _ _ hb (h4 b o hb e)
      refine ⟨_, b4 _ _ hDd h1, small1000 (by rw [List.length_map]; omega), ks ++ [(v : Int) - (sp : Int) / 2], ?_, by rw [List.length_append, h2]; rfl, ?_, ?_, ?_⟩
      · rw [upd_same, List.map_append]
        rfl
      · intro z hz
        rcases List.mem_append.mp hz with hz | hz
        · exact h3 z hz
        · rw [List.mem_singleton.mp hz]
          omega
      · exact bf _
      · exact ⟨by rw [upd_ne hDd.symm]; exact dr4.l, dr4.n, (bf _).seq dr.s dr.n, dr4.h⟩
    · rintro H2 ⟨ks, h1, h2, h3, h4, h5⟩
      exact q _ D ks _ h4 h5 (by omega) (by omega) h3 hD0 h1
theorem b_keys (T : Tx K mg A) : L2.Binds K A.d__law_keys ["draw", "most", "span"] [] := T.F__law_keys.binds fun _ _ _ _ _ _ us hl => match us, hl with | [_, _, _], _ => rfl
theorem kb_of (T : Tx K mg A) : ∃ mv : List Value, KBn K A.d_t_of ["cls", "row", "arms"] 2 ["arms"] (fun us ws => us ++ (mv ++ ws)) (fun vs zs => vs ++ zs) := by
  obtain ⟨mv, h⟩ := T.F_t_of.kbinds0 (ps := ["cls", "row", "arms"]) 2 ["arms"] [] (fun us mv ws => us ++ (mv ++ ws)) (by simp) (by simp) (fun r1 r2 r3 => r1.append (r2.append r3))
    (fun D doc pm an cdv ct us mv ws h1 h2 h3 => by
      match us, mv, ws, h1, h2, h3 with
      | [a, b], [], [c], _, _, _ => rfl)
  exact ⟨mv, h⟩
theorem TreeAt.but {C d : Addr} {H H' : Hp} {p n w : Nat} {xs : List V} (h : TreeAt C H p n w) (s : But d H H') (hd : H d = some (.lst xs)) : TreeAt C H' p n w := by
  obtain ⟨dx, t, a, b⟩ := h.ob
  exact ⟨⟨dx, t, s _ _ (ne_of a hd (by intro z; cases z)) a, s _ _ (ne_of b hd (by intro z; cases z)) b⟩, h.hn, h.hw⟩
/-- what stood before an instance was made stands behind its making -/
theorem new_same {C x dx : Addr} {H H' : Hp} (nx : H x = none) (ndx : H dx = none) (k : ∀ b o, (upd (upd H dx (.own x)) x (.ins C dx [])) b = some o → b ≠ x → H' b = some o) : Same H H' := fun b o e => by
  refine k b o ?_ (ne_of_none e nx)
  rw [upd_ne (ne_of_none e nx), upd_ne (ne_of_none e ndx)]
  exact e

end

end Tw

set_option Elab.async false
set_option linter.all false
set_option maxRecDepth 100000
set_option maxHeartbeats 2000000
namespace Tw
open PySem PySem.Spec PyProof.Rows L2
section
variable {P : Program} {w : World} {K : PySem.W.Frag} {mg : Str → Option Value} {base : Heap} {A : Ad}

/-- ints, and other things -/
def Thg (K : PySem.W.Frag) (tz : Addr) (x : V) : Prop := (∃ j : Int, x = .int j) ∨ (∃ c b1 b2, (∀ H : Hp, H tz = some (.tup [V.int 0]) → TyX K H x (.type c)) ∧ kitB c "int" = some b1 ∧ kitB c "bool" = some b2 ∧ (b1 && !b2) = false)
theorem thg_all (K : PySem.W.Frag) (tz : Addr) (n : Nat) (z : Str) (y : Int) : ∀ x ∈ ([V.int (-1), V.int 0, V.int ((n : Int) - 1), V.int n, V.bl true, V.bl false, V.non, V.str z, V.ref tz, V.int y] : List V), Thg K tz x := by
  intro x hx
  simp only [List.mem_cons, List.not_mem_nil, or_false] at hx
  rcases hx with rfl | rfl | rfl | rfl | rfl | rfl | rfl | rfl | rfl | rfl
  · exact .inl ⟨_, rfl⟩
  · exact .inl ⟨_, rfl⟩
  · exact .inl ⟨_, rfl⟩
  · exact .inl ⟨_, rfl⟩
  · exact .inr ⟨"bool", true, true, fun H _ => .base (.bl _), by decide +kernel, by decide +kernel, rfl⟩
  · exact .inr ⟨"bool", true, true, fun H _ => .base (.bl _), by decide +kernel, by decide +kernel, rfl⟩
  · exact .inr ⟨"NoneType", false, false, fun H _ => .base .non, by decide +kernel, by decide +kernel, rfl⟩
  · exact .inr ⟨"str", false, false, fun H _ => .base (.str _), by decide +kernel, by decide +kernel, rfl⟩
  · exact .inr ⟨"tuple", false, false, fun H h => .base (.tup h), by decide +kernel, by decide +kernel, rfl⟩
  · exact .inl ⟨_, rfl⟩
def spLaw (K : PySem.W.Frag) : Sp := fun vs H Q _ => ∃ (a : Addr) (ns : List Int), vs = [.ref a] ∧ SqL K H a (ns.map V.int) ∧ ns.length ≤ 63 ∧ ∀ H', Q (.bl true) H'
theorem ok_law (T : Tx K mg A) : FnOk P w K mg base CX0 9 A.f_law A.d_law ["script"] (spLaw K) := by
  obtain ⟨mv, kb⟩ := kb_init T
  obtain ⟨mo, ko⟩ := kb_of T
  obtain ⟨ds, rd, bd⟩ := bd_init T
  refine T.F_law.ok sc_law (fun vs H Q E h => ?_) (fun cdv B outer s H vs Q E hr h => ?_)
  · obtain ⟨a, ns, rfl, _⟩ := h
    rfl
  · obtain ⟨a, ns, rfl, ha, hl, q⟩ := h
    have nd := sc_law.nd
    have hu := hr.units
    have hr1 : Room 2 _ := hr.mono (by decide)
    have hr2 : Room 3 _ := hr.mono (by decide)
    have hr3 : Room 4 _ := hr.mono (by decide)
    have hr4 : Room 5 _ := hr.mono (by decide)
    have hr5 : Room 6 _ := hr.mono (by decide)
    refine ⟨_, pss_cons (ps_set (i := 1) nd rfl (Or.inl rfl) (pe_lst (pa_cons (pv 0) (pa_cons pe_int pa_nil))))
      (C8.pss_cut (ps_par3 (i := 2) (j := 3) (l := 4) rfl nd rfl rfl rfl (by decide) (by decide) (by decide) rfl rfl rfl
        (pa_cons (pe_call (ok_take T) hr2 (by rfl) T.m__law_take T.F__law_take.kp (b_take T) .nil pass0 (pa_cons (pv 1) (pa_cons pe_int pa_nil)))
        (pa_cons (pe_op op_add pe_int (pe_call (ok_take T) hr2 (by rfl) T.m__law_take T.F__law_take.kp (b_take T) .nil pass0 (pa_cons (pv 1) (pa_cons pe_int pa_nil))))
        (pa_cons (pe_op op_add pe_int (pe_call (ok_take T) hr2 (by rfl) T.m__law_take T.F__law_take.kp (b_take T) .nil pass0 (pa_cons (pv 1) (pa_cons pe_int pa_nil)))) pa_nil))) rfl)
      (pss_cons (ps_set (i := 5) nd rfl (Or.inl rfl) (pe_makeK T.mkC (ok_init T) hr4 (by rfl) T.mC kb pass0 (pa_cons (pv 2) pa_nil) (pk_cons (pv 3) pk_nil)))
      (pss_cons (ps_if (pt_cmpR (op_neD hu) (pe_tup (pa_cons (pe_fld (pv 5) rfl) (pa_cons (pe_fld (pv 5) rfl) (pa_cons (pe_callB (call_len_own T.D_t___len__ (ok_len T) hr2 (b_len T) pass0) (by rfl) T.g_len PySem.boot_len (pa_cons (pv 5) pa_nil)) pa_nil)))) (pe_tup (pa_cons (pv 2) (pa_cons (pv 3) (pa_cons (pv 2) pa_nil)))) (nomark _)) (pss_one (ps_ret pe_bl)) pss_nil)
      (pss_cons (ps_if (pt_cmpR (op_neD hu) (pe_lc (own := [("place", 9)]) (g := gName 9) (tt := tYes) rfl nd (pi_own T.D_t___iter__ (ok_iter T) hr1 (b_iter T) (pv 5))
          (blkOk_by (own := [("place", 9)]) (N := ["script", "draw", "many", "wide", "other", "tree", "thing", "due", "row", "place"]) (sc := defScope s_law) (by decide +kernel)) (fun _ _ _ _ _ => pg_name (i := 9) nd rfl (Or.inl rfl)) (fun _ _ _ _ _ => pts_nil) (fun _ _ _ _ _ => pv 9))
        (pe_listRg rfl (by rfl) T.g_list (prg_1 (by rfl) T.g_range (pv 2))) (nomark _)) (pss_one (ps_ret pe_bl)) pss_nil)
      (pss_cons (ps_for PassesOwn.never rfl (pi_list (pe_lst (pa_cons (pe_un un_neg pe_int) (pa_cons pe_int (pa_cons (pe_op op_sub (pv 2) pe_int) (pa_cons (pv 2) (pa_cons pe_bl (pa_cons pe_bl (pa_cons pe_non (pa_cons pe_str (pa_cons (pe_tup (pa_cons pe_int pa_nil)) (pa_cons (pe_op op_pow pe_int pe_int) pa_nil)))))))))))) (pg_name (i := 6) nd rfl (Or.inl rfl))
        (C8.pss_cut (ps_set (i := 7) nd rfl (Or.inl rfl) (pe_and (pe_callB call_isi (by rfl) T.g_isinstance (by decide +kernel) (pa_cons (pv 6) (pa_cons (pe_bltn (v := .ty "int") (by rfl) T.g_int (by decide +kernel) rfl) pa_nil)))
          (pe_and (pe_not (pe_callB call_isi (by rfl) T.g_isinstance (by decide +kernel) (pa_cons (pv 6) (pa_cons (pe_bltn (v := .ty "bool") (by rfl) T.g_bool (by decide +kernel) rfl) pa_nil))))
            (pe_one (pe_chain op_le op_lt pe_int (pv 6) (pv 2))))))
        (pss_one (ps_if (pt_cmpR op_ne (pe_cmpR (op_in_own T.D_t___contains__ (ok_cont T) hr2 (b_cont T) pass0) (pv 6) (pv 5) (by rfl)) (pv 7) (nomark _)) (pss_one (ps_ret pe_bl)) pss_nil))))
      (pss_cons (ps_set (i := 8) nd rfl (Or.inl rfl) (pe_call (ok_keys T) hr3 (by rfl) T.m__law_keys T.F__law_keys.kp (b_keys T) .nil pass0 (pa_cons (pv 1) (pa_cons pe_int (pa_cons pe_int pa_nil)))))
      (pss_cons (ps_if (pt_cmpR (op_ne_own T.eqc (ok_eq T) hr2 (b_eq T) pass0) (pe_cmethK (pe_glob (v := .ref A.C) (by rfl) T.mC (relR _)) T.cr T.cof (ok_of T) hr5 ko pass0 (pa_cons (pv 8) pa_nil) (pk_cons (pv 3) pk_nil))
        (pe_makeK T.mkC (ok_init T) hr4 (by rfl) T.mC kb pass0 (pa_cons (pe_callB call_len_seq (by rfl) T.g_len PySem.boot_len (pa_cons (pv 8) pa_nil)) pa_nil) (pk_cons (pv 3) pk_nil)) (nomark _)) (pss_one (ps_ret pe_bl)) pss_nil)
      (pss_cons (ps_if (pt_cmpR (op_ne_own T.eqc (ok_eq T) hr2 (b_eq T) pass0) (pe_make T.mkC (ok_init T) hr4 (by rfl) T.mC bd rd pass0 (pa_cons (pv 2) pa_nil))
        (pe_makeK T.mkC (ok_init T) hr4 (by rfl) T.mC kb pass0 (pa_cons (pv 2) pa_nil) (pk_cons pe_int pk_nil)) (nomark _)) (pss_one (ps_ret pe_bl)) pss_nil)
      (pss_cons (ps_if (pt_cmpR op_ne (pe_cmpR (op_eq_own T.eqc (ok_eq T) hr1 (b_eq T) pass0) (pe_makeK T.mkC (ok_init T) hr4 (by rfl) T.mC kb pass0 (pa_cons (pv 2) pa_nil) (pk_cons (pv 4) pk_nil)) (pv 5) (nomark _)) (pe_cmpR op_eq (pv 4) (pv 3) (nomark _)) (nomark _)) (pss_one (ps_ret pe_bl)) pss_nil)
      (pss_cons (ps_if (pt_cmpR op_eq (pe_cmpR (op_ne_own T.eqc (ok_eq T) hr2 (b_eq T) pass0) (pe_makeK T.mkC (ok_init T) hr4 (by rfl) T.mC kb pass0 (pa_cons (pv 2) pa_nil) (pk_cons (pv 4) pk_nil)) (pv 5) (nomark _)) (pe_cmpR op_eq (pv 4) (pv 3) (nomark _)) (nomark _)) (pss_one (ps_ret pe_bl)) pss_nil)
      (pss_cons (ps_if (pt_not (pt_cmpR (op_ne_own T.eqc (ok_eq T) hr2 (b_eq T) pass0) (pe_makeK T.mkC (ok_init T) hr4 (by rfl) T.mC kb pass0 (pa_cons (pe_op op_mod (pe_callTy call_int1 (by rfl) T.g_int (by decide +kernel) (pa_cons (pe_op op_add (pv 2) pe_int) pa_nil)) pe_int) pa_nil) (pk_cons (pv 3) pk_nil)) (pv 5) (nomark _))) (pss_one (ps_ret pe_bl)) pss_nil)
      (pss_cons (ps_if (pt_not (pt_cmpR (op_ne_own T.eqc (ok_eq T) hr2 (b_eq T) pass0) (pv 5) (pv 2) (nomark _))) (pss_one (ps_ret pe_bl)) pss_nil)
      (pss_one (ps_ret (pe_call (ok_pr T) hr (by rfl) T.m__law_places_right T.F__law_places_right.kp (b_pr T) .nil pass0 (pa_cons (pv 5) (pa_cons (pv 2) (pa_cons (pv 3) pa_nil)))))))))))))))))), ?_⟩
    -- the draws
    refine ⟨_, rfl, by show 2 ≤ sizeLine; decide, fun d hd => ?_⟩
    have dr0 : DrAt K _ d a ns 0 := DrAt.start ha hl hd
    refine ⟨fun σ H' => ∃ n w o : Nat, σ = [some (.ref a), some (.ref d), some (.int n), some (.int w), some (.int o), none, none, none, none, none] ∧ n ≤ 12 ∧ (1 ≤ w ∧ w ≤ 4) ∧ (1 ≤ o ∧ o ≤ 4) ∧ DrAt K H' d a ns 3, ?_, ?_⟩
    · refine ⟨_, rfl, d, a, ns, 0, 13, rfl, dr0, by decide, by decide, fun H1 n b1 dr1 hn => ?_⟩
      refine ⟨_, rfl, d, a, ns, 1, 4, rfl, dr1, by decide, by decide, fun H2 w' b2 dr2 hw' => ⟨_, _, rfl, rfl, ?_⟩⟩
      refine ⟨_, rfl, d, a, ns, 2, 4, rfl, dr2, by decide, by decide, fun H3 o' b3 dr3 ho' => ⟨_, _, rfl, rfl, _, _, _, rfl, ?_⟩⟩
      refine ⟨n, w' + 1, o' + 1, ?_, by omega, ⟨by omega, by omega⟩, ⟨by omega, by omega⟩, dr3⟩
      rw [show ((w' + 1 : Nat) : Int) = 1 + (w' : Int) by omega, show ((o' + 1 : Nat) : Int) = 1 + (o' : Int) by omega]
      rfl
    rintro σ H3 ⟨n, w, o, rfl, hn12, hw, ho, dr3⟩
    -- the tree
    refine ⟨_, rfl, _, rfl, rfl, rfl, fun p pd np npd _ => ⟨p, pd, n, w, rfl, hn12, hw, upd_same, fun H4 k4 t4 => ⟨rfl, ?_⟩⟩⟩
    have s4 := new_same np npd k4
    have dr4 := dr3.same s4
    obtain ⟨dx, l, h1, h2⟩ := t4.ob
    -- many, arms, len
    refine ⟨_, rfl, p, A.C, dx, _, _, rfl, h1, T.cT, T.nMany, tf_many _ _ _, _, rfl, p, A.C, dx, _, _, rfl, h1, T.cT, T.nArms, tf_arms _ _ _, _, rfl, p, dx, _, rfl, h1, p, n, w, rfl, t4, n, rfl, by omega, by show 3 ≤ sizeLine; decide, fun u1 hu1 => ?_⟩
    refine ⟨_, rfl, _, rfl, _, rfl, by show 3 ≤ sizeLine; decide, fun u2 hu2 => ?_⟩
    have e1 : (upd (upd H4 u1 (.tup [V.int n, V.int w, V.int n])) u2 (.tup [V.int n, V.int w, V.int n])) u1 = some (.tup (vi [n, w, n])) := (Same.up hu2) _ _ upd_same
    have e2 : (upd (upd H4 u1 (.tup [V.int n, V.int w, V.int n])) u2 (.tup [V.int n, V.int w, V.int n])) u2 = some (.tup (vi [n, w, n])) := upd_same
    have s5 : Same H4 (upd (upd H4 u1 (.tup [V.int n, V.int w, V.int n])) u2 (.tup [V.int n, V.int w, V.int n])) := (Same.up hu1).trans (Same.up hu2)
    refine ⟨_, _, dp_tup K e1, dp_tup K e2, dl_shaped _, dl_shaped _, _, rfl, ?_⟩
    rw [refl_of (dl_shaped _)]
    refine iteF ?_
    clear e1 e2
    generalize (upd (upd H4 u1 (.tup [V.int n, V.int w, V.int n])) u2 (.tup [V.int n, V.int w, V.int n])) = G5 at s5 ⊢
    -- its places
    refine ⟨_, rfl, p, dx, _, l, _, rfl, s5 _ _ h1, tf_pl _ _ _, SqT.of (s5 _ _ h2), fun D hD => ?_⟩
    refine lc_it (walk_tup (xs := pl n)) (PickI G5 D (List.range n) fun j => some (V.int (j : Nat))) (pick_start hD) (fun k H' _ h => SqT.of (h.s _ _ (s5 _ _ h2))) ?_ ?_
    · rintro k2 x2 H5 H6 hk2 pk ⟨rfl, ex⟩
      obtain ⟨hk3, rfl⟩ := map_at ex
      refine ⟨rfl, ?_⟩
      refine iteT (B := PickI G5 D (List.range n) (fun j => some (V.int (j : Nat))) (k2 + 1) H6) ?_
      exact ⟨_, rfl, pick_yes hk3 (by rw [List.length_range]; omega) rfl (Same.refl _) pk⟩
    intro H5 pk
    have ac := pick_end (by rw [pl_len, List.length_range]) pk
    refine ⟨_, rfl, _, rfl, RgOk.of_le (by omega) (by omega) (by omega) (by omega), fun r hr0 => ?_⟩
    have e : ((List.range n).filterMap fun j => some (V.int (j : Nat))) = vi (List.range n) := by rw [List.filterMap_eq_map']; rfl
    rw [e] at ac
    have e3 : upd H5 r (.lst (rgV 0 n)) r = some (.lst (vi (List.range n))) := by rw [upd_same, rg_pl]; rfl
    have e4 : upd H5 r (.lst (rgV 0 n)) D = some (.lst (vi (List.range n))) := (Same.up hr0) _ _ ac.a
    refine ⟨_, _, .lst (SqL.of e4) (vi_dp _ _ _), .lst (SqL.of e3) (vi_dp _ _ _), dl_shapedL _, dl_shapedL _, _, rfl, ?_⟩
    rw [refl_of (dl_shapedL _)]
    refine iteF ?_
    have s6 : Same H4 (upd H5 r (.lst (rgV 0 n))) := s5.trans (ac.s.trans (Same.up hr0))
    clear e3 e4 ac
    generalize (upd H5 r (.lst (rgV 0 n))) = G6 at s6 ⊢
    -- things
    refine ⟨_, rfl, _, rfl, _, _, rfl, rfl, _, rfl, by show 1 ≤ sizeLine; decide, fun tz htz => ⟨_, _, rfl, rfl, ⟨by decide, by decide, by decide⟩, by show 10 ≤ sizeLine; decide, fun lz hlz => ?_⟩⟩
    refine ⟨lz, rfl, ⟨_, SqL.of upd_same⟩, for_it (walk_list (xs := [V.int (-1), V.int 0, V.int ((n : Int) - 1), V.int n, V.bl true, V.bl false, V.non, V.str _, V.ref tz, V.int (10 ^ (30 : Int).toNat)]))
      (fun i σ H' => ∃ x y, σ = [some (.ref a), some (.ref d), some (.int n), some (.int w), some (.int o), some (.ref p), x, y, none, none] ∧ Same H4 H' ∧ H' lz = some (.lst _) ∧ H' tz = some (.tup [V.int 0]))
      ⟨none, none, rfl, s6.trans ((Same.up htz).trans (Same.up hlz)), upd_same, (Same.up hlz) _ _ upd_same⟩ (fun i σ H' _ ⟨_, _, _, _, h, _⟩ => SqL.of h) ?_ ?_⟩
    · rintro i v σ H5 H6 hi ⟨x, y, rfl, sh, hlz5, htz5⟩ ⟨rfl, ev⟩
      have th := thg_all K tz n _ _ v (List.mem_of_getElem? ev)
      refine ⟨fun σ' H' => ∃ b : Bool, σ' = [some (.ref a), some (.ref d), some (.int n), some (.int w), some (.int o), some (.ref p), some v, some (.bl b), none, none] ∧ H' = H6 ∧
        ((∃ j : Int, v = .int j ∧ b = decide (0 ≤ j ∧ j ≤ (n : Int) - 1)) ∨ (∃ c b1 b2, TyX K H6 v (.type c) ∧ kitB c "int" = some b1 ∧ kitB c "bool" = some b2 ∧ (b1 && !b2) = false ∧ b = false)), ?_, ?_⟩
      · rcases th with ⟨j, rfl⟩ | ⟨c, b1, b2, ty, k1, k2, hb⟩
        · refine ⟨_, rfl, _, _, .type "int", .type "int", true, rfl, .ty "int", .base (.int j), kit_ty (by decide +kernel), true, rfl, iteT ?_⟩
          refine ⟨_, rfl, _, _, .type "int", .type "bool", false, rfl, .ty "bool", .base (.int j), kit_ty (by decide +kernel), false, rfl, true, rfl, iteT ?_⟩
          refine ⟨_, rfl, _, _, rfl, rfl, _, rfl, ?_⟩
          by_cases h0 : 0 ≤ j
          · rw [decide_eq_true h0]
            refine iteT ⟨_, rfl, _, _, rfl, rfl, _, rfl, rfl, .inl ⟨j, rfl, ?_⟩⟩
            by_cases h9 : j < (n : Int)
            · rw [decide_eq_true h9, decide_eq_true ⟨h0, by omega⟩]
            · rw [decide_eq_false h9, decide_eq_false (fun z => h9 (by omega))]
          · rw [decide_eq_false h0]
            refine iteF ⟨_, rfl, rfl, .inl ⟨j, rfl, ?_⟩⟩
            rw [decide_eq_false (fun z => h0 z.1)]
        · have tyH := ty _ htz5
          refine ⟨_, rfl, _, _, .type c, .type "int", b1, rfl, .ty "int", tyH, kit_ty k1, b1, rfl, ?_⟩
          cases b1 with
          | false => exact iteF ⟨_, rfl, rfl, .inr ⟨c, _, _, tyH, k1, k2, hb, rfl⟩⟩
          | true =>
            cases b2 with
            | false => cases hb
            | true => exact iteT ⟨_, rfl, _, _, .type c, .type "bool", true, rfl, .ty "bool", tyH, kit_ty k2, true, rfl, false, rfl, iteF ⟨_, rfl, rfl, .inr ⟨c, _, _, tyH, k1, k2, hb, rfl⟩⟩⟩
      · rintro σ' H' ⟨b, rfl, rfl, hb⟩
        have t6 := t4.same sh
        have same : ∀ v : V, (!decide (v = v)) = false := fun v => by rw [decide_eq_true rfl]; rfl
        have sameB : ∀ b : Bool, (!decide (V.bl (if false = true then !b else b) = V.bl b)) = false := fun b => same _
        refine ⟨_, rfl, _, rfl, p, dx, _, rfl, sh _ _ h1, p, n, w, v, rfl, t6, ?_⟩
        rcases hb with ⟨j, rfl, rfl⟩ | ⟨c, b1, b2, ty, k1, k2, hb, rfl⟩
        · refine .inl ⟨j, rfl, _, rfl, _, rfl, rfl, _, rfl, ?_⟩
          rw [sameB]
          exact iteF ⟨_, _, rfl, sh, hlz5, htz5⟩
        · refine .inr ⟨c, b1, b2, ty, k1, k2, hb, _, rfl, _, rfl, rfl, _, rfl, ?_⟩
          rw [sameB]
          exact iteF ⟨_, _, rfl, sh, hlz5, htz5⟩
    rintro σ H7 ⟨x, y, rfl, s7, _, _⟩
    have same : ∀ v : V, (!decide (v = v)) = false := fun v => by rw [decide_eq_true rfl]; rfl
    have h17 := s7 _ _ h1
    have t7 := t4.same s7
    have dr7 := dr4.same s7
    -- the row
    refine ⟨_, rfl, d, a, ns, 3, 12, 7, rfl, dr7, by decide, by decide, by decide, fun H8 q8 ks k8 b8 dr8 hk8 hkl hkb q80 hq8 => ?_⟩
    have t8 : TreeAt A.C H8 p n w := t7.but b8 dr7.l
    obtain ⟨dx8, l8, h18, h28⟩ := t8.ob
    -- Tree.of(row) != Tree(len(row))
    refine ⟨rfl, _, rfl, _, rfl, rfl, rfl, q8, w, ks, rfl, hw, hq8, by omega, fun z hz => by have := hkb z hz; omega, fun H9 p9 s9 p90 t9 => ?_⟩
    have hq9 := s9 _ _ hq8
    refine ⟨_, rfl, q8, _, rfl, .inl (SqL.of hq9), _, rfl, rfl, rfl, fun p10 pd np npd _ => ⟨p10, pd, ks.length, w, by rw [List.length_map]; rfl, by omega, hw, upd_same, fun H10 k10 t10 => ⟨rfl, ?_⟩⟩⟩
    have s10 := new_same np npd k10
    have t9' := t9.same s10
    obtain ⟨dx9, l9, h19, h29⟩ := t9'.ob
    obtain ⟨dx10, l10, h110, h210⟩ := t10.ob
    refine ⟨p9, dx9, _, rfl, h19, .ins h110, p9, ks.length, w, _, rfl, t9', .inl ⟨p10, ks.length, w, rfl, t10, _, rfl, _, rfl, ?_⟩⟩
    rw [decide_eq_true ⟨rfl, rfl⟩]
    refine iteF ?_
    have s8x : Same H8 H10 := s9.trans s10
    -- Tree(many) != Tree(many, arms=2)
    refine ⟨_, rfl, fun p11 pd11 np11 npd11 _ => ⟨p11, pd11, n, 2, rfl, hn12, ⟨by decide, by decide⟩, upd_same, fun H11 k11 t11 => ⟨rfl, ?_⟩⟩⟩
    have s11 := new_same np11 npd11 k11
    refine ⟨_, rfl, rfl, rfl, fun p12 pd12 np12 npd12 _ => ⟨p12, pd12, n, 2, rfl, hn12, ⟨by decide, by decide⟩, upd_same, fun H12 k12 t12 => ⟨rfl, ?_⟩⟩⟩
    have s12 := new_same np12 npd12 k12
    have t11' := t11.same s12
    obtain ⟨dx11, l11, h111, _⟩ := t11'.ob
    obtain ⟨dx12, l12, h112, _⟩ := t12.ob
    refine ⟨p11, dx11, _, rfl, h111, .ins h112, p11, n, 2, _, rfl, t11', .inl ⟨p12, n, 2, rfl, t12, _, rfl, _, rfl, ?_⟩⟩
    rw [decide_eq_true ⟨rfl, rfl⟩]
    refine iteF ?_
    have s8y : Same H8 H12 := s8x.trans (s11.trans s12)
    -- (Tree(many, arms=other) == tree) != (other == wide)
    have eqd : decide (n = n ∧ o = w) = decide (V.int (o : Nat) = V.int (w : Nat)) := by
      by_cases e2 : o = w
      · rw [decide_eq_true ⟨rfl, e2⟩, decide_eq_true (by rw [e2])]
      · rw [decide_eq_false (fun z => e2 z.2), decide_eq_false (fun z => e2 (by injection z with z; omega))]
    refine ⟨_, rfl, _, rfl, rfl, rfl, fun p13 pd13 np13 npd13 _ => ⟨p13, pd13, n, o, rfl, hn12, ho, upd_same, fun H13 k13 t13 => ⟨rfl, ?_⟩⟩⟩
    have s13 := new_same np13 npd13 k13
    have tt13 := t8.same (s8y.trans s13)
    obtain ⟨dx13, l13, h113, _⟩ := t13.ob
    obtain ⟨dxt, lt, hpt, _⟩ := tt13.ob
    refine ⟨_, rfl, p13, dx13, _, rfl, h113, .ins hpt, p13, n, o, _, rfl, t13, .inl ⟨p, n, w, rfl, tt13, _, rfl, _, rfl, _, rfl, rfl, rfl, _, rfl, ?_⟩⟩
    rw [eqd, show (!decide (V.bl (if false = true then !decide (V.int (o : Nat) = V.int (w : Nat)) else decide (V.int (o : Nat) = V.int (w : Nat))) = V.bl (decide (V.int (o : Nat) = V.int (w : Nat))))) = false from same _]
    refine iteF ?_
    -- (Tree(many, arms=other) != tree) == (other == wide)
    have s8z : Same H8 H13 := s8y.trans s13
    refine ⟨_, rfl, _, rfl, rfl, rfl, fun p14 pd14 np14 npd14 _ => ⟨p14, pd14, n, o, rfl, hn12, ho, upd_same, fun H14 k14 t14 => ⟨rfl, ?_⟩⟩⟩
    have s14 := new_same np14 npd14 k14
    have tt14 := t8.same (s8z.trans s14)
    obtain ⟨dx14, l14, h114, _⟩ := t14.ob
    obtain ⟨dxu, lu, hpu, _⟩ := tt14.ob
    refine ⟨_, rfl, p14, dx14, _, rfl, h114, .ins hpu, p14, n, o, _, rfl, t14, .inl ⟨p, n, w, rfl, tt14, _, rfl, _, rfl, _, rfl, rfl, rfl, _, rfl, ?_⟩⟩
    have nb : ∀ b : Bool, decide (V.bl (if true = true then !b else b) = V.bl b) = false := fun b => by cases b <;> rfl
    rw [eqd, nb]
    refine iteF ?_
    -- another number of places
    have s8w : Same H8 H14 := s8z.trans s14
    obtain ⟨m, hm, hm12, hmn⟩ : ∃ m : Nat, ((n : Int) + 1) % 13 = (m : Nat) ∧ m ≤ 12 ∧ m ≠ n := ⟨(n + 1) % 13, by omega, by omega, by omega⟩
    refine ⟨_, rfl, _, _, rfl, rfl, .inl ⟨_, rfl, _, _, rfl, rfl, by show (0 : Int) < 13; decide, _, rfl, rfl, rfl, fun p15 pd15 np15 npd15 _ => ⟨p15, pd15, m, w, by rw [← hm]; rfl, hm12, hw, upd_same, fun H15 k15 t15 => ⟨rfl, ?_⟩⟩⟩⟩
    have s15 := new_same np15 npd15 k15
    have tt15 := t8.same (s8w.trans s15)
    obtain ⟨dx15, l15, h115, _⟩ := t15.ob
    obtain ⟨dxv, lv, hpv, _⟩ := tt15.ob
    refine ⟨_, rfl, p15, dx15, _, rfl, h115, .ins hpv, p15, m, w, _, rfl, t15, .inl ⟨p, n, w, rfl, tt15, _, rfl, _, rfl, ?_⟩⟩
    rw [decide_eq_false (fun z => hmn z.1)]
    refine iteF ?_
    -- a tree is no int
    refine ⟨_, rfl, _, rfl, p, dxv, _, rfl, hpv, .int _, p, n, w, _, rfl, tt15, .inr ⟨_, rfl, _, rfl, _, rfl, ?_⟩⟩
    refine iteF ?_
    -- the places
    exact ⟨_, rfl, _, rfl, _, rfl, p, n, w, rfl, tt15, fun H16 _ => q H16⟩

end

end Tw

set_option Elab.async false
set_option linter.all false
set_option maxRecDepth 100000
set_option maxHeartbeats 2000000
namespace Tw
open PySem PySem.Spec PyProof.Rows L2
theorem kit_int {K : PySem.W.Frag} {C : Addr} (hc : PySem.W.isClsIn K C = true) (ht : PySem.W.typeIn K (.ref C) = some (.type "type")) (hs : PySem.W.subIn K (.type "int") (.ref C) = some false) : PySem.W.kitOne K (.type "int") (.ref C) = some false := by
  unfold PySem.W.kitOne PySem.W.kitCls
  have h1 : (PySem.W.clsIn K C).isSome = true := hc
  simp only [h1, ht, hs, beq_self_eq_true, Bool.and_self, if_true]
  rfl
theorem all_mk {l : PySem.W.OpenLaw} {w : World} {K : PySem.W.Frag} {h : Heap} {mg : Str → Option Value} (X : K.In h) (G : h.Ns mainGlobals mg) {fa C po D_t___init__ D_t_of f_is_integer f_is_integer_from f_is_key f_check_arms f_check_many f_check_place f_row_of f_t___init__ f_t_of f_t___len__ f_t___contains__ f_t___iter__ f_t___getitem__ f_t___eq__ f_t_parent f_t_way_to f_t_depth f_t_size f_t_height f_t_subtree f__law_number f__law_take f__law_parent f__law_children f__law_way f__law_subtree f__law_keys f__law_places_right f_law : Addr} {od_is_integer an_is_integer : Option Addr} {sl_is_integer : Array (Option Value)} {oc_is_integer kV_is_integer dc_is_integer pm_is_integer cd_is_integer ct_is_integer : Value} {od_is_integer_from an_is_integer_from : Option Addr} {sl_is_integer_from : Array (Option Value)} {oc_is_integer_from kV_is_integer_from dc_is_integer_from pm_is_integer_from cd_is_integer_from ct_is_integer_from : Value} {od_is_key an_is_key : Option Addr} {sl_is_key : Array (Option Value)} {oc_is_key kV_is_key dc_is_key pm_is_key cd_is_key ct_is_key : Value} {od_check_arms an_check_arms : Option Addr} {sl_check_arms : Array (Option Value)} {oc_check_arms kV_check_arms dc_check_arms pm_check_arms cd_check_arms ct_check_arms : Value} {od_check_many an_check_many : Option Addr} {sl_check_many : Array (Option Value)} {oc_check_many kV_check_many dc_check_many pm_check_many cd_check_many ct_check_many : Value} {od_check_place an_check_place : Option Addr} {sl_check_place : Array (Option Value)} {oc_check_place kV_check_place dc_check_place pm_check_place cd_check_place ct_check_place : Value} {od_row_of an_row_of : Option Addr} {sl_row_of : Array (Option Value)} {oc_row_of kV_row_of dc_row_of pm_row_of cd_row_of ct_row_of : Value} {od_t___init__ an_t___init__ : Option Addr} {sl_t___init__ : Array (Option Value)} {oc_t___init__  dc_t___init__ pm_t___init__ cd_t___init__ ct_t___init__ : Value} {od_t_of an_t_of : Option Addr} {sl_t_of : Array (Option Value)} {oc_t_of  dc_t_of pm_t_of cd_t_of ct_t_of : Value} {od_t___len__ an_t___len__ : Option Addr} {sl_t___len__ : Array (Option Value)} {oc_t___len__ kV_t___len__ dc_t___len__ pm_t___len__ cd_t___len__ ct_t___len__ : Value} {od_t___contains__ an_t___contains__ : Option Addr} {sl_t___contains__ : Array (Option Value)} {oc_t___contains__ kV_t___contains__ dc_t___contains__ pm_t___contains__ cd_t___contains__ ct_t___contains__ : Value} {od_t___iter__ an_t___iter__ : Option Addr} {sl_t___iter__ : Array (Option Value)} {oc_t___iter__ kV_t___iter__ dc_t___iter__ pm_t___iter__ cd_t___iter__ ct_t___iter__ : Value} {od_t___getitem__ an_t___getitem__ : Option Addr} {sl_t___getitem__ : Array (Option Value)} {oc_t___getitem__ kV_t___getitem__ dc_t___getitem__ pm_t___getitem__ cd_t___getitem__ ct_t___getitem__ : Value} {od_t___eq__ an_t___eq__ : Option Addr} {sl_t___eq__ : Array (Option Value)} {oc_t___eq__ kV_t___eq__ dc_t___eq__ pm_t___eq__ cd_t___eq__ ct_t___eq__ : Value} {od_t_parent an_t_parent : Option Addr} {sl_t_parent : Array (Option Value)} {oc_t_parent kV_t_parent dc_t_parent pm_t_parent cd_t_parent ct_t_parent : Value} {od_t_way_to an_t_way_to : Option Addr} {sl_t_way_to : Array (Option Value)} {oc_t_way_to kV_t_way_to dc_t_way_to pm_t_way_to cd_t_way_to ct_t_way_to : Value} {od_t_depth an_t_depth : Option Addr} {sl_t_depth : Array (Option Value)} {oc_t_depth kV_t_depth dc_t_depth pm_t_depth cd_t_depth ct_t_depth : Value} {od_t_size an_t_size : Option Addr} {sl_t_size : Array (Option Value)} {oc_t_size kV_t_size dc_t_size pm_t_size cd_t_size ct_t_size : Value} {od_t_height an_t_height : Option Addr} {sl_t_height : Array (Option Value)} {oc_t_height kV_t_height dc_t_height pm_t_height cd_t_height ct_t_height : Value} {od_t_subtree an_t_subtree : Option Addr} {sl_t_subtree : Array (Option Value)} {oc_t_subtree kV_t_subtree dc_t_subtree pm_t_subtree cd_t_subtree ct_t_subtree : Value} {od__law_number an__law_number : Option Addr} {sl__law_number : Array (Option Value)} {oc__law_number kV__law_number dc__law_number pm__law_number cd__law_number ct__law_number : Value} {od__law_take an__law_take : Option Addr} {sl__law_take : Array (Option Value)} {oc__law_take kV__law_take dc__law_take pm__law_take cd__law_take ct__law_take : Value} {od__law_parent an__law_parent : Option Addr} {sl__law_parent : Array (Option Value)} {oc__law_parent kV__law_parent dc__law_parent pm__law_parent cd__law_parent ct__law_parent : Value} {od__law_children an__law_children : Option Addr} {sl__law_children : Array (Option Value)} {oc__law_children kV__law_children dc__law_children pm__law_children cd__law_children ct__law_children : Value} {od__law_way an__law_way : Option Addr} {sl__law_way : Array (Option Value)} {oc__law_way kV__law_way dc__law_way pm__law_way cd__law_way ct__law_way : Value} {od__law_subtree an__law_subtree : Option Addr} {sl__law_subtree : Array (Option Value)} {oc__law_subtree kV__law_subtree dc__law_subtree pm__law_subtree cd__law_subtree ct__law_subtree : Value} {od__law_keys an__law_keys : Option Addr} {sl__law_keys : Array (Option Value)} {oc__law_keys kV__law_keys dc__law_keys pm__law_keys cd__law_keys ct__law_keys : Value} {od__law_places_right an__law_places_right : Option Addr} {sl__law_places_right : Array (Option Value)} {oc__law_places_right kV__law_places_right dc__law_places_right pm__law_places_right cd__law_places_right ct__law_places_right : Value} {od_law an_law : Option Addr} {sl_law : Array (Option Value)} {oc_law kV_law dc_law pm_law cd_law ct_law : Value}
    (hfa : mg "law" = some (.ref fa))
    (aC : PySem.W.nsIn K mainGlobals "Tree" = some (some (.ref C)))
    (a_is_integer : PySem.W.nsIn K mainGlobals "is_integer" = some (some (.ref f_is_integer)))
    (l_is_integer : K.lookup f_is_integer = some ⟨oc_is_integer, od_is_integer, .func (PySem.W.fnOf "is_integer" "is_integer" (defArgs s_is_integer) (defBody s_is_integer) (defScope s_is_integer) .none kV_is_integer dc_is_integer pm_is_integer an_is_integer cd_is_integer ct_is_integer), sl_is_integer⟩)
    (c_is_integer : PySem.W.codeIn K cd_is_integer "is_integer" = true)
    (k_is_integer : PySem.W.keepIn K (.ref f_is_integer) = true)
    (a_is_integer_from : PySem.W.nsIn K mainGlobals "is_integer_from" = some (some (.ref f_is_integer_from)))
    (l_is_integer_from : K.lookup f_is_integer_from = some ⟨oc_is_integer_from, od_is_integer_from, .func (PySem.W.fnOf "is_integer_from" "is_integer_from" (defArgs s_is_integer_from) (defBody s_is_integer_from) (defScope s_is_integer_from) .none kV_is_integer_from dc_is_integer_from pm_is_integer_from an_is_integer_from cd_is_integer_from ct_is_integer_from), sl_is_integer_from⟩)
    (c_is_integer_from : PySem.W.codeIn K cd_is_integer_from "is_integer_from" = true)
    (k_is_integer_from : PySem.W.keepIn K (.ref f_is_integer_from) = true)
    (a_is_key : PySem.W.nsIn K mainGlobals "is_key" = some (some (.ref f_is_key)))
    (l_is_key : K.lookup f_is_key = some ⟨oc_is_key, od_is_key, .func (PySem.W.fnOf "is_key" "is_key" (defArgs s_is_key) (defBody s_is_key) (defScope s_is_key) .none kV_is_key dc_is_key pm_is_key an_is_key cd_is_key ct_is_key), sl_is_key⟩)
    (c_is_key : PySem.W.codeIn K cd_is_key "is_key" = true)
    (k_is_key : PySem.W.keepIn K (.ref f_is_key) = true)
    (a_check_arms : PySem.W.nsIn K mainGlobals "check_arms" = some (some (.ref f_check_arms)))
    (l_check_arms : K.lookup f_check_arms = some ⟨oc_check_arms, od_check_arms, .func (PySem.W.fnOf "check_arms" "check_arms" (defArgs s_check_arms) (defBody s_check_arms) (defScope s_check_arms) .none kV_check_arms dc_check_arms pm_check_arms an_check_arms cd_check_arms ct_check_arms), sl_check_arms⟩)
    (c_check_arms : PySem.W.codeIn K cd_check_arms "check_arms" = true)
    (k_check_arms : PySem.W.keepIn K (.ref f_check_arms) = true)
    (a_check_many : PySem.W.nsIn K mainGlobals "check_many" = some (some (.ref f_check_many)))
    (l_check_many : K.lookup f_check_many = some ⟨oc_check_many, od_check_many, .func (PySem.W.fnOf "check_many" "check_many" (defArgs s_check_many) (defBody s_check_many) (defScope s_check_many) .none kV_check_many dc_check_many pm_check_many an_check_many cd_check_many ct_check_many), sl_check_many⟩)
    (c_check_many : PySem.W.codeIn K cd_check_many "check_many" = true)
    (k_check_many : PySem.W.keepIn K (.ref f_check_many) = true)
    (a_check_place : PySem.W.nsIn K mainGlobals "check_place" = some (some (.ref f_check_place)))
    (l_check_place : K.lookup f_check_place = some ⟨oc_check_place, od_check_place, .func (PySem.W.fnOf "check_place" "check_place" (defArgs s_check_place) (defBody s_check_place) (defScope s_check_place) .none kV_check_place dc_check_place pm_check_place an_check_place cd_check_place ct_check_place), sl_check_place⟩)
    (c_check_place : PySem.W.codeIn K cd_check_place "check_place" = true)
    (k_check_place : PySem.W.keepIn K (.ref f_check_place) = true)
    (a_row_of : PySem.W.nsIn K mainGlobals "row_of" = some (some (.ref f_row_of)))
    (l_row_of : K.lookup f_row_of = some ⟨oc_row_of, od_row_of, .func (PySem.W.fnOf "row_of" "row_of" (defArgs s_row_of) (defBody s_row_of) (defScope s_row_of) .none kV_row_of dc_row_of pm_row_of an_row_of cd_row_of ct_row_of), sl_row_of⟩)
    (c_row_of : PySem.W.codeIn K cd_row_of "row_of" = true)
    (k_row_of : PySem.W.keepIn K (.ref f_row_of) = true)
    (a_t___init__ : PySem.W.findIn K (.ref C) "__init__" = some (some (.ref f_t___init__)))
    (i_t___init__ : PySem.W.isFn K (.ref f_t___init__) = true)
    (l_t___init__ : K.lookup f_t___init__ = some ⟨oc_t___init__, od_t___init__, .func (PySem.W.fnOf "__init__" "Tree.__init__" (defArgs s_t___init__) (defBody s_t___init__) (defScope s_t___init__) .none (.ref D_t___init__) dc_t___init__ pm_t___init__ an_t___init__ cd_t___init__ ct_t___init__), sl_t___init__⟩)
    (c_t___init__ : PySem.W.codeIn K cd_t___init__ "Tree.__init__" = true)
    (k_t___init__ : PySem.W.keepIn K (.ref f_t___init__) = true)
    {tk_t___init__ : Tok}
    (w_t___init__ : PySem.W.nsIn K D_t___init__ "arms" = some (some (.int 2 tk_t___init__)))
    (a_t_of : PySem.W.findCls K (.ref C) (.type "type") "of" = some (.get (.builtin "classmethod.__get__") (.ref po) .none (.ref C)))
    {rest_of : List Value}
    (r_t_of : PySem.W.recIn K po "classmethod" = some (.ref f_t_of :: rest_of))
    (n_t_of : PySem.W.fnIn K f_t_of = true)
    (l_t_of : K.lookup f_t_of = some ⟨oc_t_of, od_t_of, .func (PySem.W.fnOf "of" "Tree.of" (defArgs s_t_of) (defBody s_t_of) (defScope s_t_of) .none (.ref D_t_of) dc_t_of pm_t_of an_t_of cd_t_of ct_t_of), sl_t_of⟩)
    (c_t_of : PySem.W.codeIn K cd_t_of "Tree.of" = true)
    (k_t_of : PySem.W.keepIn K (.ref f_t_of) = true)
    {tk_t_of : Tok}
    (w_t_of : PySem.W.nsIn K D_t_of "arms" = some (some (.int 2 tk_t_of)))
    (a_t___len__ : PySem.W.findIn K (.ref C) "__len__" = some (some (.ref f_t___len__)))
    (i_t___len__ : PySem.W.isFn K (.ref f_t___len__) = true)
    (n_t___len__ : PySem.W.fnIn K f_t___len__ = true)
    (l_t___len__ : K.lookup f_t___len__ = some ⟨oc_t___len__, od_t___len__, .func (PySem.W.fnOf "__len__" "Tree.__len__" (defArgs s_t___len__) (defBody s_t___len__) (defScope s_t___len__) .none kV_t___len__ dc_t___len__ pm_t___len__ an_t___len__ cd_t___len__ ct_t___len__), sl_t___len__⟩)
    (c_t___len__ : PySem.W.codeIn K cd_t___len__ "Tree.__len__" = true)
    (k_t___len__ : PySem.W.keepIn K (.ref f_t___len__) = true)
    (a_t___contains__ : PySem.W.findIn K (.ref C) "__contains__" = some (some (.ref f_t___contains__)))
    (i_t___contains__ : PySem.W.isFn K (.ref f_t___contains__) = true)
    (n_t___contains__ : PySem.W.fnIn K f_t___contains__ = true)
    (l_t___contains__ : K.lookup f_t___contains__ = some ⟨oc_t___contains__, od_t___contains__, .func (PySem.W.fnOf "__contains__" "Tree.__contains__" (defArgs s_t___contains__) (defBody s_t___contains__) (defScope s_t___contains__) .none kV_t___contains__ dc_t___contains__ pm_t___contains__ an_t___contains__ cd_t___contains__ ct_t___contains__), sl_t___contains__⟩)
    (c_t___contains__ : PySem.W.codeIn K cd_t___contains__ "Tree.__contains__" = true)
    (k_t___contains__ : PySem.W.keepIn K (.ref f_t___contains__) = true)
    (a_t___iter__ : PySem.W.findIn K (.ref C) "__iter__" = some (some (.ref f_t___iter__)))
    (i_t___iter__ : PySem.W.isFn K (.ref f_t___iter__) = true)
    (n_t___iter__ : PySem.W.fnIn K f_t___iter__ = true)
    (l_t___iter__ : K.lookup f_t___iter__ = some ⟨oc_t___iter__, od_t___iter__, .func (PySem.W.fnOf "__iter__" "Tree.__iter__" (defArgs s_t___iter__) (defBody s_t___iter__) (defScope s_t___iter__) .none kV_t___iter__ dc_t___iter__ pm_t___iter__ an_t___iter__ cd_t___iter__ ct_t___iter__), sl_t___iter__⟩)
    (c_t___iter__ : PySem.W.codeIn K cd_t___iter__ "Tree.__iter__" = true)
    (k_t___iter__ : PySem.W.keepIn K (.ref f_t___iter__) = true)
    (a_t___getitem__ : PySem.W.findIn K (.ref C) "__getitem__" = some (some (.ref f_t___getitem__)))
    (i_t___getitem__ : PySem.W.isFn K (.ref f_t___getitem__) = true)
    (n_t___getitem__ : PySem.W.fnIn K f_t___getitem__ = true)
    (l_t___getitem__ : K.lookup f_t___getitem__ = some ⟨oc_t___getitem__, od_t___getitem__, .func (PySem.W.fnOf "__getitem__" "Tree.__getitem__" (defArgs s_t___getitem__) (defBody s_t___getitem__) (defScope s_t___getitem__) .none kV_t___getitem__ dc_t___getitem__ pm_t___getitem__ an_t___getitem__ cd_t___getitem__ ct_t___getitem__), sl_t___getitem__⟩)
    (c_t___getitem__ : PySem.W.codeIn K cd_t___getitem__ "Tree.__getitem__" = true)
    (k_t___getitem__ : PySem.W.keepIn K (.ref f_t___getitem__) = true)
    (a_t___eq__ : PySem.W.findIn K (.ref C) "__eq__" = some (some (.ref f_t___eq__)))
    (i_t___eq__ : PySem.W.isFn K (.ref f_t___eq__) = true)
    (l_t___eq__ : K.lookup f_t___eq__ = some ⟨oc_t___eq__, od_t___eq__, .func (PySem.W.fnOf "__eq__" "Tree.__eq__" (defArgs s_t___eq__) (defBody s_t___eq__) (defScope s_t___eq__) .none kV_t___eq__ dc_t___eq__ pm_t___eq__ an_t___eq__ cd_t___eq__ ct_t___eq__), sl_t___eq__⟩)
    (c_t___eq__ : PySem.W.codeIn K cd_t___eq__ "Tree.__eq__" = true)
    (k_t___eq__ : PySem.W.keepIn K (.ref f_t___eq__) = true)
    (a_t_parent : PySem.W.findIn K (.ref C) "parent" = some (some (.ref f_t_parent)))
    (i_t_parent : PySem.W.isFn K (.ref f_t_parent) = true)
    (l_t_parent : K.lookup f_t_parent = some ⟨oc_t_parent, od_t_parent, .func (PySem.W.fnOf "parent" "Tree.parent" (defArgs s_t_parent) (defBody s_t_parent) (defScope s_t_parent) .none kV_t_parent dc_t_parent pm_t_parent an_t_parent cd_t_parent ct_t_parent), sl_t_parent⟩)
    (c_t_parent : PySem.W.codeIn K cd_t_parent "Tree.parent" = true)
    (k_t_parent : PySem.W.keepIn K (.ref f_t_parent) = true)
    (a_t_way_to : PySem.W.findIn K (.ref C) "way_to" = some (some (.ref f_t_way_to)))
    (i_t_way_to : PySem.W.isFn K (.ref f_t_way_to) = true)
    (l_t_way_to : K.lookup f_t_way_to = some ⟨oc_t_way_to, od_t_way_to, .func (PySem.W.fnOf "way_to" "Tree.way_to" (defArgs s_t_way_to) (defBody s_t_way_to) (defScope s_t_way_to) .none kV_t_way_to dc_t_way_to pm_t_way_to an_t_way_to cd_t_way_to ct_t_way_to), sl_t_way_to⟩)
    (c_t_way_to : PySem.W.codeIn K cd_t_way_to "Tree.way_to" = true)
    (k_t_way_to : PySem.W.keepIn K (.ref f_t_way_to) = true)
    (a_t_depth : PySem.W.findIn K (.ref C) "depth" = some (some (.ref f_t_depth)))
    (i_t_depth : PySem.W.isFn K (.ref f_t_depth) = true)
    (l_t_depth : K.lookup f_t_depth = some ⟨oc_t_depth, od_t_depth, .func (PySem.W.fnOf "depth" "Tree.depth" (defArgs s_t_depth) (defBody s_t_depth) (defScope s_t_depth) .none kV_t_depth dc_t_depth pm_t_depth an_t_depth cd_t_depth ct_t_depth), sl_t_depth⟩)
    (c_t_depth : PySem.W.codeIn K cd_t_depth "Tree.depth" = true)
    (k_t_depth : PySem.W.keepIn K (.ref f_t_depth) = true)
    (a_t_size : PySem.W.findIn K (.ref C) "size" = some (some (.ref f_t_size)))
    (i_t_size : PySem.W.isFn K (.ref f_t_size) = true)
    (l_t_size : K.lookup f_t_size = some ⟨oc_t_size, od_t_size, .func (PySem.W.fnOf "size" "Tree.size" (defArgs s_t_size) (defBody s_t_size) (defScope s_t_size) .none kV_t_size dc_t_size pm_t_size an_t_size cd_t_size ct_t_size), sl_t_size⟩)
    (c_t_size : PySem.W.codeIn K cd_t_size "Tree.size" = true)
    (k_t_size : PySem.W.keepIn K (.ref f_t_size) = true)
    (a_t_height : PySem.W.findIn K (.ref C) "height" = some (some (.ref f_t_height)))
    (i_t_height : PySem.W.isFn K (.ref f_t_height) = true)
    (l_t_height : K.lookup f_t_height = some ⟨oc_t_height, od_t_height, .func (PySem.W.fnOf "height" "Tree.height" (defArgs s_t_height) (defBody s_t_height) (defScope s_t_height) .none kV_t_height dc_t_height pm_t_height an_t_height cd_t_height ct_t_height), sl_t_height⟩)
    (c_t_height : PySem.W.codeIn K cd_t_height "Tree.height" = true)
    (k_t_height : PySem.W.keepIn K (.ref f_t_height) = true)
    (a_t_subtree : PySem.W.findIn K (.ref C) "subtree" = some (some (.ref f_t_subtree)))
    (i_t_subtree : PySem.W.isFn K (.ref f_t_subtree) = true)
    (l_t_subtree : K.lookup f_t_subtree = some ⟨oc_t_subtree, od_t_subtree, .func (PySem.W.fnOf "subtree" "Tree.subtree" (defArgs s_t_subtree) (defBody s_t_subtree) (defScope s_t_subtree) .none kV_t_subtree dc_t_subtree pm_t_subtree an_t_subtree cd_t_subtree ct_t_subtree), sl_t_subtree⟩)
    (c_t_subtree : PySem.W.codeIn K cd_t_subtree "Tree.subtree" = true)
    (k_t_subtree : PySem.W.keepIn K (.ref f_t_subtree) = true)
    (a__law_number : PySem.W.nsIn K mainGlobals "_law_number" = some (some (.ref f__law_number)))
    (l__law_number : K.lookup f__law_number = some ⟨oc__law_number, od__law_number, .func (PySem.W.fnOf "_law_number" "_law_number" (defArgs s__law_number) (defBody s__law_number) (defScope s__law_number) .none kV__law_number dc__law_number pm__law_number an__law_number cd__law_number ct__law_number), sl__law_number⟩)
    (c__law_number : PySem.W.codeIn K cd__law_number "_law_number" = true)
    (k__law_number : PySem.W.keepIn K (.ref f__law_number) = true)
    (a__law_take : PySem.W.nsIn K mainGlobals "_law_take" = some (some (.ref f__law_take)))
    (l__law_take : K.lookup f__law_take = some ⟨oc__law_take, od__law_take, .func (PySem.W.fnOf "_law_take" "_law_take" (defArgs s__law_take) (defBody s__law_take) (defScope s__law_take) .none kV__law_take dc__law_take pm__law_take an__law_take cd__law_take ct__law_take), sl__law_take⟩)
    (c__law_take : PySem.W.codeIn K cd__law_take "_law_take" = true)
    (k__law_take : PySem.W.keepIn K (.ref f__law_take) = true)
    (a__law_parent : PySem.W.nsIn K mainGlobals "_law_parent" = some (some (.ref f__law_parent)))
    (l__law_parent : K.lookup f__law_parent = some ⟨oc__law_parent, od__law_parent, .func (PySem.W.fnOf "_law_parent" "_law_parent" (defArgs s__law_parent) (defBody s__law_parent) (defScope s__law_parent) .none kV__law_parent dc__law_parent pm__law_parent an__law_parent cd__law_parent ct__law_parent), sl__law_parent⟩)
    (c__law_parent : PySem.W.codeIn K cd__law_parent "_law_parent" = true)
    (k__law_parent : PySem.W.keepIn K (.ref f__law_parent) = true)
    (a__law_children : PySem.W.nsIn K mainGlobals "_law_children" = some (some (.ref f__law_children)))
    (l__law_children : K.lookup f__law_children = some ⟨oc__law_children, od__law_children, .func (PySem.W.fnOf "_law_children" "_law_children" (defArgs s__law_children) (defBody s__law_children) (defScope s__law_children) .none kV__law_children dc__law_children pm__law_children an__law_children cd__law_children ct__law_children), sl__law_children⟩)
    (c__law_children : PySem.W.codeIn K cd__law_children "_law_children" = true)
    (k__law_children : PySem.W.keepIn K (.ref f__law_children) = true)
    (a__law_way : PySem.W.nsIn K mainGlobals "_law_way" = some (some (.ref f__law_way)))
    (l__law_way : K.lookup f__law_way = some ⟨oc__law_way, od__law_way, .func (PySem.W.fnOf "_law_way" "_law_way" (defArgs s__law_way) (defBody s__law_way) (defScope s__law_way) .none kV__law_way dc__law_way pm__law_way an__law_way cd__law_way ct__law_way), sl__law_way⟩)
    (c__law_way : PySem.W.codeIn K cd__law_way "_law_way" = true)
    (k__law_way : PySem.W.keepIn K (.ref f__law_way) = true)
    (a__law_subtree : PySem.W.nsIn K mainGlobals "_law_subtree" = some (some (.ref f__law_subtree)))
    (l__law_subtree : K.lookup f__law_subtree = some ⟨oc__law_subtree, od__law_subtree, .func (PySem.W.fnOf "_law_subtree" "_law_subtree" (defArgs s__law_subtree) (defBody s__law_subtree) (defScope s__law_subtree) .none kV__law_subtree dc__law_subtree pm__law_subtree an__law_subtree cd__law_subtree ct__law_subtree), sl__law_subtree⟩)
    (c__law_subtree : PySem.W.codeIn K cd__law_subtree "_law_subtree" = true)
    (k__law_subtree : PySem.W.keepIn K (.ref f__law_subtree) = true)
    (a__law_keys : PySem.W.nsIn K mainGlobals "_law_keys" = some (some (.ref f__law_keys)))
    (l__law_keys : K.lookup f__law_keys = some ⟨oc__law_keys, od__law_keys, .func (PySem.W.fnOf "_law_keys" "_law_keys" (defArgs s__law_keys) (defBody s__law_keys) (defScope s__law_keys) .none kV__law_keys dc__law_keys pm__law_keys an__law_keys cd__law_keys ct__law_keys), sl__law_keys⟩)
    (c__law_keys : PySem.W.codeIn K cd__law_keys "_law_keys" = true)
    (k__law_keys : PySem.W.keepIn K (.ref f__law_keys) = true)
    (a__law_places_right : PySem.W.nsIn K mainGlobals "_law_places_right" = some (some (.ref f__law_places_right)))
    (l__law_places_right : K.lookup f__law_places_right = some ⟨oc__law_places_right, od__law_places_right, .func (PySem.W.fnOf "_law_places_right" "_law_places_right" (defArgs s__law_places_right) (defBody s__law_places_right) (defScope s__law_places_right) .none kV__law_places_right dc__law_places_right pm__law_places_right an__law_places_right cd__law_places_right ct__law_places_right), sl__law_places_right⟩)
    (c__law_places_right : PySem.W.codeIn K cd__law_places_right "_law_places_right" = true)
    (k__law_places_right : PySem.W.keepIn K (.ref f__law_places_right) = true)
    (a_law : PySem.W.nsIn K mainGlobals "law" = some (some (.ref f_law)))
    (l_law : K.lookup f_law = some ⟨oc_law, od_law, .func (PySem.W.fnOf "law" "law" (defArgs s_law) (defBody s_law) (defScope s_law) .none kV_law dc_law pm_law an_law cd_law ct_law), sl_law⟩)
    (c_law : PySem.W.codeIn K cd_law "law" = true)
    (k_law : PySem.W.keepIn K (.ref f_law) = true)
    {tc_MOST_ARMS : Tok}
    (q_MOST_ARMS : PySem.W.nsIn K mainGlobals "MOST_ARMS" = some (some (.int 4 tc_MOST_ARMS)))
    {tc_MOST_PLACES : Tok}
    (q_MOST_PLACES : PySem.W.nsIn K mainGlobals "MOST_PLACES" = some (some (.int 12 tc_MOST_PLACES)))
    {tc_GREATEST_KEY : Tok}
    (q_GREATEST_KEY : PySem.W.nsIn K mainGlobals "GREATEST_KEY" = some (some (.int 1000000000 tc_GREATEST_KEY)))
    (z_isinstance : PySem.W.nsIn K mainGlobals "isinstance" = some none)
    (z_int : PySem.W.nsIn K mainGlobals "int" = some none)
    (z_bool : PySem.W.nsIn K mainGlobals "bool" = some none)
    (z_len : PySem.W.nsIn K mainGlobals "len" = some none)
    (z_tuple : PySem.W.nsIn K mainGlobals "tuple" = some none)
    (z_list : PySem.W.nsIn K mainGlobals "list" = some none)
    (z_range : PySem.W.nsIn K mainGlobals "range" = some none)
    (z_enumerate : PySem.W.nsIn K mainGlobals "enumerate" = some none)
    (z_iter : PySem.W.nsIn K mainGlobals "iter" = some none)
    (z_max : PySem.W.nsIn K mainGlobals "max" = some none)
    (z_sum : PySem.W.nsIn K mainGlobals "sum" = some none)
    (pg : PySem.W.plainGet K C Str.empty = true)
    (hd : PySem.W.hasDictIn K C = true)
    (po_ : PySem.W.plainOver K C = true)
    (sa : PySem.W.findIn K (.ref C) "__setattr__" = some (some (.builtin "object.__setattr__")))
    (na_nMany : PySem.W.findIn K (.ref C) "many" = some none)
    (na_nArms : PySem.W.findIn K (.ref C) "arms" = some none)
    (na_nPl : PySem.W.findIn K (.ref C) "_places" = some none)
    (mk : PySem.W.makesIn K C = true)
    (kc : PySem.W.keepIn K (.ref C) = true)
    (rd : PySem.W.readsIn K C (.type "type") = true)
    (ga : PySem.W.specialIn K (.ref C) "__getattribute__" = some (some (.builtin "type.__getattribute__")))
    (ene : PySem.W.findIn K (.ref C) "__ne__" = some (some (.builtin "object.__ne__")))
    (eob : PySem.W.subIn K (.ref C) (.type "object") = some true)
    (eni : PySem.W.subIn K (.type "int") (.ref C) = some false)
    (ent : PySem.W.subIn K (.type "tuple") (.ref C) = some false)
    (ka : PySem.W.findIn K (.ref C) "__class__" = some (some (.builtin "object.__class__")))
    (kn : PySem.W.specialIn K (.builtin "object.__class__") "__get__" = some (some (.builtin "getset_descriptor.__get__")))
    (ktk : PySem.W.takesIn K (.builtin "object.__class__") = some true)
    (km : PySem.W.mroIn K C (.type "object") = some true)
    (kcl : PySem.W.isClsIn K C = true)
    (kty : PySem.W.typeIn K (.ref C) = some (.type "type"))
    : ∃ fd : FuncData, (∀ (s : Shared) (v : Value), BindsTo s fd ⟨[v], []⟩ [("script", v)]) ∧ ∀ base : Heap, K.In base → base.Ns mainGlobals mg → FnOk l.prog w K mg base CX0 9 fa fd ["script"] (spLaw K) := by
  have e := hfa.symm.trans (PySem.W.mg_of X G a_law)
  cases e
  let A : Ad := { f_is_integer := f_is_integer, d_is_integer := (PySem.W.fnOf "is_integer" "is_integer" (defArgs s_is_integer) (defBody s_is_integer) (defScope s_is_integer) .none kV_is_integer dc_is_integer pm_is_integer an_is_integer cd_is_integer ct_is_integer), f_is_integer_from := f_is_integer_from, d_is_integer_from := (PySem.W.fnOf "is_integer_from" "is_integer_from" (defArgs s_is_integer_from) (defBody s_is_integer_from) (defScope s_is_integer_from) .none kV_is_integer_from dc_is_integer_from pm_is_integer_from an_is_integer_from cd_is_integer_from ct_is_integer_from), f_is_key := f_is_key, d_is_key := (PySem.W.fnOf "is_key" "is_key" (defArgs s_is_key) (defBody s_is_key) (defScope s_is_key) .none kV_is_key dc_is_key pm_is_key an_is_key cd_is_key ct_is_key), f_check_arms := f_check_arms, d_check_arms := (PySem.W.fnOf "check_arms" "check_arms" (defArgs s_check_arms) (defBody s_check_arms) (defScope s_check_arms) .none kV_check_arms dc_check_arms pm_check_arms an_check_arms cd_check_arms ct_check_arms), f_check_many := f_check_many, d_check_many := (PySem.W.fnOf "check_many" "check_many" (defArgs s_check_many) (defBody s_check_many) (defScope s_check_many) .none kV_check_many dc_check_many pm_check_many an_check_many cd_check_many ct_check_many), f_check_place := f_check_place, d_check_place := (PySem.W.fnOf "check_place" "check_place" (defArgs s_check_place) (defBody s_check_place) (defScope s_check_place) .none kV_check_place dc_check_place pm_check_place an_check_place cd_check_place ct_check_place), f_row_of := f_row_of, d_row_of := (PySem.W.fnOf "row_of" "row_of" (defArgs s_row_of) (defBody s_row_of) (defScope s_row_of) .none kV_row_of dc_row_of pm_row_of an_row_of cd_row_of ct_row_of), f_t___init__ := f_t___init__, d_t___init__ := (PySem.W.fnOf "__init__" "Tree.__init__" (defArgs s_t___init__) (defBody s_t___init__) (defScope s_t___init__) .none (.ref D_t___init__) dc_t___init__ pm_t___init__ an_t___init__ cd_t___init__ ct_t___init__), f_t_of := f_t_of, d_t_of := (PySem.W.fnOf "of" "Tree.of" (defArgs s_t_of) (defBody s_t_of) (defScope s_t_of) .none (.ref D_t_of) dc_t_of pm_t_of an_t_of cd_t_of ct_t_of), f_t___len__ := f_t___len__, d_t___len__ := (PySem.W.fnOf "__len__" "Tree.__len__" (defArgs s_t___len__) (defBody s_t___len__) (defScope s_t___len__) .none kV_t___len__ dc_t___len__ pm_t___len__ an_t___len__ cd_t___len__ ct_t___len__), f_t___contains__ := f_t___contains__, d_t___contains__ := (PySem.W.fnOf "__contains__" "Tree.__contains__" (defArgs s_t___contains__) (defBody s_t___contains__) (defScope s_t___contains__) .none kV_t___contains__ dc_t___contains__ pm_t___contains__ an_t___contains__ cd_t___contains__ ct_t___contains__), f_t___iter__ := f_t___iter__, d_t___iter__ := (PySem.W.fnOf "__iter__" "Tree.__iter__" (defArgs s_t___iter__) (defBody s_t___iter__) (defScope s_t___iter__) .none kV_t___iter__ dc_t___iter__ pm_t___iter__ an_t___iter__ cd_t___iter__ ct_t___iter__), f_t___getitem__ := f_t___getitem__, d_t___getitem__ := (PySem.W.fnOf "__getitem__" "Tree.__getitem__" (defArgs s_t___getitem__) (defBody s_t___getitem__) (defScope s_t___getitem__) .none kV_t___getitem__ dc_t___getitem__ pm_t___getitem__ an_t___getitem__ cd_t___getitem__ ct_t___getitem__), f_t___eq__ := f_t___eq__, d_t___eq__ := (PySem.W.fnOf "__eq__" "Tree.__eq__" (defArgs s_t___eq__) (defBody s_t___eq__) (defScope s_t___eq__) .none kV_t___eq__ dc_t___eq__ pm_t___eq__ an_t___eq__ cd_t___eq__ ct_t___eq__), f_t_parent := f_t_parent, d_t_parent := (PySem.W.fnOf "parent" "Tree.parent" (defArgs s_t_parent) (defBody s_t_parent) (defScope s_t_parent) .none kV_t_parent dc_t_parent pm_t_parent an_t_parent cd_t_parent ct_t_parent), f_t_way_to := f_t_way_to, d_t_way_to := (PySem.W.fnOf "way_to" "Tree.way_to" (defArgs s_t_way_to) (defBody s_t_way_to) (defScope s_t_way_to) .none kV_t_way_to dc_t_way_to pm_t_way_to an_t_way_to cd_t_way_to ct_t_way_to), f_t_depth := f_t_depth, d_t_depth := (PySem.W.fnOf "depth" "Tree.depth" (defArgs s_t_depth) (defBody s_t_depth) (defScope s_t_depth) .none kV_t_depth dc_t_depth pm_t_depth an_t_depth cd_t_depth ct_t_depth), f_t_size := f_t_size, d_t_size := (PySem.W.fnOf "size" "Tree.size" (defArgs s_t_size) (defBody s_t_size) (defScope s_t_size) .none kV_t_size dc_t_size pm_t_size an_t_size cd_t_size ct_t_size), f_t_height := f_t_height, d_t_height := (PySem.W.fnOf "height" "Tree.height" (defArgs s_t_height) (defBody s_t_height) (defScope s_t_height) .none kV_t_height dc_t_height pm_t_height an_t_height cd_t_height ct_t_height), f_t_subtree := f_t_subtree, d_t_subtree := (PySem.W.fnOf "subtree" "Tree.subtree" (defArgs s_t_subtree) (defBody s_t_subtree) (defScope s_t_subtree) .none kV_t_subtree dc_t_subtree pm_t_subtree an_t_subtree cd_t_subtree ct_t_subtree), f__law_number := f__law_number, d__law_number := (PySem.W.fnOf "_law_number" "_law_number" (defArgs s__law_number) (defBody s__law_number) (defScope s__law_number) .none kV__law_number dc__law_number pm__law_number an__law_number cd__law_number ct__law_number), f__law_take := f__law_take, d__law_take := (PySem.W.fnOf "_law_take" "_law_take" (defArgs s__law_take) (defBody s__law_take) (defScope s__law_take) .none kV__law_take dc__law_take pm__law_take an__law_take cd__law_take ct__law_take), f__law_parent := f__law_parent, d__law_parent := (PySem.W.fnOf "_law_parent" "_law_parent" (defArgs s__law_parent) (defBody s__law_parent) (defScope s__law_parent) .none kV__law_parent dc__law_parent pm__law_parent an__law_parent cd__law_parent ct__law_parent), f__law_children := f__law_children, d__law_children := (PySem.W.fnOf "_law_children" "_law_children" (defArgs s__law_children) (defBody s__law_children) (defScope s__law_children) .none kV__law_children dc__law_children pm__law_children an__law_children cd__law_children ct__law_children), f__law_way := f__law_way, d__law_way := (PySem.W.fnOf "_law_way" "_law_way" (defArgs s__law_way) (defBody s__law_way) (defScope s__law_way) .none kV__law_way dc__law_way pm__law_way an__law_way cd__law_way ct__law_way), f__law_subtree := f__law_subtree, d__law_subtree := (PySem.W.fnOf "_law_subtree" "_law_subtree" (defArgs s__law_subtree) (defBody s__law_subtree) (defScope s__law_subtree) .none kV__law_subtree dc__law_subtree pm__law_subtree an__law_subtree cd__law_subtree ct__law_subtree), f__law_keys := f__law_keys, d__law_keys := (PySem.W.fnOf "_law_keys" "_law_keys" (defArgs s__law_keys) (defBody s__law_keys) (defScope s__law_keys) .none kV__law_keys dc__law_keys pm__law_keys an__law_keys cd__law_keys ct__law_keys), f__law_places_right := f__law_places_right, d__law_places_right := (PySem.W.fnOf "_law_places_right" "_law_places_right" (defArgs s__law_places_right) (defBody s__law_places_right) (defScope s__law_places_right) .none kV__law_places_right dc__law_places_right pm__law_places_right an__law_places_right cd__law_places_right ct__law_places_right), f_law := fa, d_law := (PySem.W.fnOf "law" "law" (defArgs s_law) (defBody s_law) (defScope s_law) .none kV_law dc_law pm_law an_law cd_law ct_law), C := C, po := po }
  have T : Tx K mg A := {
    F_is_integer := (fun_mk (st := s_is_integer) l_is_integer c_is_integer k_is_integer)
    m_is_integer := PySem.W.mg_of X G a_is_integer
    F_is_integer_from := (fun_mk (st := s_is_integer_from) l_is_integer_from c_is_integer_from k_is_integer_from)
    m_is_integer_from := PySem.W.mg_of X G a_is_integer_from
    F_is_key := (fun_mk (st := s_is_key) l_is_key c_is_key k_is_key)
    m_is_key := PySem.W.mg_of X G a_is_key
    F_check_arms := (fun_mk (st := s_check_arms) l_check_arms c_check_arms k_check_arms)
    m_check_arms := PySem.W.mg_of X G a_check_arms
    F_check_many := (fun_mk (st := s_check_many) l_check_many c_check_many k_check_many)
    m_check_many := PySem.W.mg_of X G a_check_many
    F_check_place := (fun_mk (st := s_check_place) l_check_place c_check_place k_check_place)
    m_check_place := PySem.W.mg_of X G a_check_place
    F_row_of := (fun_mk (st := s_row_of) l_row_of c_row_of k_row_of)
    m_row_of := PySem.W.mg_of X G a_row_of
    F_t___init__ := ⟨⟨_, _, _, _, _, _, _, _, _, _, rfl, l_t___init__, c_t___init__, .inl ⟨rfl, rfl⟩, .inr ⟨_, rfl, fun q hq => by rw [List.mem_singleton.mp hq]; exact ⟨_, w_t___init__, relI _ _⟩⟩⟩, k_t___init__⟩
    F_t_of := ⟨⟨_, _, _, _, _, _, _, _, _, _, rfl, l_t_of, c_t_of, .inl ⟨rfl, rfl⟩, .inr ⟨_, rfl, fun q hq => by rw [List.mem_singleton.mp hq]; exact ⟨_, w_t_of, relI _ _⟩⟩⟩, k_t_of⟩
    F_t___len__ := (fun_mk (st := s_t___len__) l_t___len__ c_t___len__ k_t___len__)
    D_t___len__ := ⟨a_t___len__, i_t___len__, n_t___len__⟩
    F_t___contains__ := (fun_mk (st := s_t___contains__) l_t___contains__ c_t___contains__ k_t___contains__)
    D_t___contains__ := ⟨a_t___contains__, i_t___contains__, n_t___contains__⟩
    F_t___iter__ := (fun_mk (st := s_t___iter__) l_t___iter__ c_t___iter__ k_t___iter__)
    D_t___iter__ := ⟨a_t___iter__, i_t___iter__, n_t___iter__⟩
    F_t___getitem__ := (fun_mk (st := s_t___getitem__) l_t___getitem__ c_t___getitem__ k_t___getitem__)
    D_t___getitem__ := ⟨a_t___getitem__, i_t___getitem__, n_t___getitem__⟩
    F_t___eq__ := (fun_mk (st := s_t___eq__) l_t___eq__ c_t___eq__ k_t___eq__)
    F_t_parent := (fun_mk (st := s_t_parent) l_t_parent c_t_parent k_t_parent)
    M_t_parent := ⟨a_t_parent, i_t_parent, k_t_parent⟩
    F_t_way_to := (fun_mk (st := s_t_way_to) l_t_way_to c_t_way_to k_t_way_to)
    M_t_way_to := ⟨a_t_way_to, i_t_way_to, k_t_way_to⟩
    F_t_depth := (fun_mk (st := s_t_depth) l_t_depth c_t_depth k_t_depth)
    M_t_depth := ⟨a_t_depth, i_t_depth, k_t_depth⟩
    F_t_size := (fun_mk (st := s_t_size) l_t_size c_t_size k_t_size)
    M_t_size := ⟨a_t_size, i_t_size, k_t_size⟩
    F_t_height := (fun_mk (st := s_t_height) l_t_height c_t_height k_t_height)
    M_t_height := ⟨a_t_height, i_t_height, k_t_height⟩
    F_t_subtree := (fun_mk (st := s_t_subtree) l_t_subtree c_t_subtree k_t_subtree)
    M_t_subtree := ⟨a_t_subtree, i_t_subtree, k_t_subtree⟩
    F__law_number := (fun_mk (st := s__law_number) l__law_number c__law_number k__law_number)
    m__law_number := PySem.W.mg_of X G a__law_number
    F__law_take := (fun_mk (st := s__law_take) l__law_take c__law_take k__law_take)
    m__law_take := PySem.W.mg_of X G a__law_take
    F__law_parent := (fun_mk (st := s__law_parent) l__law_parent c__law_parent k__law_parent)
    m__law_parent := PySem.W.mg_of X G a__law_parent
    F__law_children := (fun_mk (st := s__law_children) l__law_children c__law_children k__law_children)
    m__law_children := PySem.W.mg_of X G a__law_children
    F__law_way := (fun_mk (st := s__law_way) l__law_way c__law_way k__law_way)
    m__law_way := PySem.W.mg_of X G a__law_way
    F__law_subtree := (fun_mk (st := s__law_subtree) l__law_subtree c__law_subtree k__law_subtree)
    m__law_subtree := PySem.W.mg_of X G a__law_subtree
    F__law_keys := (fun_mk (st := s__law_keys) l__law_keys c__law_keys k__law_keys)
    m__law_keys := PySem.W.mg_of X G a__law_keys
    F__law_places_right := (fun_mk (st := s__law_places_right) l__law_places_right c__law_places_right k__law_places_right)
    m__law_places_right := PySem.W.mg_of X G a__law_places_right
    F_law := (fun_mk (st := s_law) l_law c_law k_law)
    m_law := PySem.W.mg_of X G a_law
    c_MOST_ARMS := .inr ⟨_, PySem.W.mg_of X G q_MOST_ARMS⟩
    c_MOST_PLACES := .inr ⟨_, PySem.W.mg_of X G q_MOST_PLACES⟩
    c_GREATEST_KEY := .inr ⟨_, PySem.W.mg_of X G q_GREATEST_KEY⟩
    g_isinstance := PySem.W.mg_none_of X G z_isinstance
    g_int := PySem.W.mg_none_of X G z_int
    g_bool := PySem.W.mg_none_of X G z_bool
    g_len := PySem.W.mg_none_of X G z_len
    g_tuple := PySem.W.mg_none_of X G z_tuple
    g_list := PySem.W.mg_none_of X G z_list
    g_range := PySem.W.mg_none_of X G z_range
    g_enumerate := PySem.W.mg_none_of X G z_enumerate
    g_iter := PySem.W.mg_none_of X G z_iter
    g_max := PySem.W.mg_none_of X G z_max
    g_sum := PySem.W.mg_none_of X G z_sum
    cT := ⟨pg, hd, po_, sa⟩
    nMany := na_nMany
    nArms := na_nArms
    nPl := na_nPl
    mC := PySem.W.mg_of X G aC
    mkC := ⟨mk, a_t___init__, i_t___init__, kc⟩
    cr := ⟨rd, ga⟩
    cof := ⟨a_t_of, ⟨_, r_t_of⟩, n_t_of⟩
    eqc := ⟨a_t___eq__, i_t___eq__, ene, eob, eni, ent⟩
    ka := ka
    kn := kn
    ktk := ktk
    km := km
    ki := kit_int kcl kty eni
  }
  exact ⟨A.d_law, fun s v => .of_eq rfl, fun base _ _ => ok_law T⟩
theorem walk {l : PySem.W.OpenLaw} {q : Program} {loose : List Str} {XP : (Str → Option Value) → Heap → Prop} {YP : World → Heap → Prop} {d : DefRec} {K : Params → PySem.W.Frag} (hn : l.most = some 63) (hdf : d.params.defaults = [])
    (hY : ∀ (w : World) (h : Heap), YP w h → (K w.params).In h)
    (F : ∀ (w : World) (mg : Str → Option Value) (fa : Addr) (h : Heap), (K w.params).In h → h.Ns mainGlobals mg → mg d.name = some (.ref fa) →
      ∃ fd : FuncData, (∀ (s : Shared) (u : Value), BindsTo s fd ⟨[u], []⟩ [("script", u)]) ∧ ∀ base : Heap, (K w.params).In base → base.Ns mainGlobals mg → FnOk l.prog w (K w.params) mg base CX0 9 fa fd ["script"] (spLaw (K w.params))) :
    PySem.W.WalkO q loose XP YP l.row.toRowW d [] (fun f vs => PySem.call f vs) :=
  L2.walk_of (n := 63) (k := 9) (x := "script") (CX := fun _ => CX0) (sp := fun w => spLaw (K w.params)) hn (by decide) hdf ⟨rfl, by decide, by decide⟩ hY F (fun _ _ a ns hl _ hS => ⟨a, ns, rfl, hS, hl, fun _ => rfl⟩) fun _ _ _ _ _ z => z
end Tw

open PySem PySem.W PyProof.Rows in
set_option maxRecDepth 100000 in
set_option maxHeartbeats 0 in
theorem PySem.Challenge.cw_heaprows_k01_whole_trees_holds : PySem.Challenge.rw_heaprows_k01_whole_trees.Holds := by
  w_on; o_law; k_head; (case hw => w_witness2)
  k_fill
  refine Tw.walk (l := PySem.Challenge.rw_heaprows_k01_whole_trees) rfl rfl (fun w h Y => PySem.W.kIn_of Y) ?F
  case F =>
    intro w mg fa h KX G hmg
    refine' Tw.all_mk KX G hmg ?aC ?a_is_integer ?l_is_integer ?c_is_integer ?k_is_integer ?a_is_integer_from ?l_is_integer_from ?c_is_integer_from ?k_is_integer_from ?a_is_key ?l_is_key ?c_is_key ?k_is_key ?a_check_arms ?l_check_arms ?c_check_arms ?k_check_arms ?a_check_many ?l_check_many ?c_check_many ?k_check_many ?a_check_place ?l_check_place ?c_check_place ?k_check_place ?a_row_of ?l_row_of ?c_row_of ?k_row_of ?a_t___init__ ?i_t___init__ ?l_t___init__ ?c_t___init__ ?k_t___init__ ?w_t___init__ ?a_t_of ?r_t_of ?n_t_of ?l_t_of ?c_t_of ?k_t_of ?w_t_of ?a_t___len__ ?i_t___len__ ?n_t___len__ ?l_t___len__ ?c_t___len__ ?k_t___len__ ?a_t___contains__ ?i_t___contains__ ?n_t___contains__ ?l_t___contains__ ?c_t___contains__ ?k_t___contains__ ?a_t___iter__ ?i_t___iter__ ?n_t___iter__ ?l_t___iter__ ?c_t___iter__ ?k_t___iter__ ?a_t___getitem__ ?i_t___getitem__ ?n_t___getitem__ ?l_t___getitem__ ?c_t___getitem__ ?k_t___getitem__ ?a_t___eq__ ?i_t___eq__ ?l_t___eq__ ?c_t___eq__ ?k_t___eq__ ?a_t_parent ?i_t_parent ?l_t_parent ?c_t_parent ?k_t_parent ?a_t_way_to ?i_t_way_to ?l_t_way_to ?c_t_way_to ?k_t_way_to ?a_t_depth ?i_t_depth ?l_t_depth ?c_t_depth ?k_t_depth ?a_t_size ?i_t_size ?l_t_size ?c_t_size ?k_t_size ?a_t_height ?i_t_height ?l_t_height ?c_t_height ?k_t_height ?a_t_subtree ?i_t_subtree ?l_t_subtree ?c_t_subtree ?k_t_subtree ?a__law_number ?l__law_number ?c__law_number ?k__law_number ?a__law_take ?l__law_take ?c__law_take ?k__law_take ?a__law_parent ?l__law_parent ?c__law_parent ?k__law_parent ?a__law_children ?l__law_children ?c__law_children ?k__law_children ?a__law_way ?l__law_way ?c__law_way ?k__law_way ?a__law_subtree ?l__law_subtree ?c__law_subtree ?k__law_subtree ?a__law_keys ?l__law_keys ?c__law_keys ?k__law_keys ?a__law_places_right ?l__law_places_right ?c__law_places_right ?k__law_places_right ?a_law ?l_law ?c_law ?k_law ?q_MOST_ARMS ?q_MOST_PLACES ?q_GREATEST_KEY ?z_isinstance ?z_int ?z_bool ?z_len ?z_tuple ?z_list ?z_range ?z_enumerate ?z_iter ?z_max ?z_sum ?pg ?hd ?po_ ?sa ?na_nMany ?na_nArms ?na_nPl ?mk ?kc ?rd ?ga ?ene ?eob ?eni ?ent ?ka ?kn ?ktk ?km ?kcl ?kty
    (case aC => k_is)
    (case a_is_integer => k_is)
    (case l_is_integer => k_is)
    (case c_is_integer => k_is)
    (case k_is_integer => k_is)
    (case a_is_integer_from => k_is)
    (case l_is_integer_from => k_is)
    (case c_is_integer_from => k_is)
    (case k_is_integer_from => k_is)
    (case a_is_key => k_is)
    (case l_is_key => k_is)
    (case c_is_key => k_is)
    (case k_is_key => k_is)
    (case a_check_arms => k_is)
    (case l_check_arms => k_is)
    (case c_check_arms => k_is)
    (case k_check_arms => k_is)
    (case a_check_many => k_is)
    (case l_check_many => k_is)
    (case c_check_many => k_is)
    (case k_check_many => k_is)
    (case a_check_place => k_is)
    (case l_check_place => k_is)
    (case c_check_place => k_is)
    (case k_check_place => k_is)
    (case a_row_of => k_is)
    (case l_row_of => k_is)
    (case c_row_of => k_is)
    (case k_row_of => k_is)
    (case a_t___init__ => k_is)
    (case i_t___init__ => k_is)
    (case l_t___init__ => k_is)
    (case c_t___init__ => k_is)
    (case k_t___init__ => k_is)
    (case w_t___init__ => k_is)
    (case a_t_of => k_is)
    (case r_t_of => k_is)
    (case n_t_of => k_is)
    (case l_t_of => k_is)
    (case c_t_of => k_is)
    (case k_t_of => k_is)
    (case w_t_of => k_is)
    (case a_t___len__ => k_is)
    (case i_t___len__ => k_is)
    (case n_t___len__ => k_is)
    (case l_t___len__ => k_is)
    (case c_t___len__ => k_is)
    (case k_t___len__ => k_is)
    (case a_t___contains__ => k_is)
    (case i_t___contains__ => k_is)
    (case n_t___contains__ => k_is)
    (case l_t___contains__ => k_is)
    (case c_t___contains__ => k_is)
    (case k_t___contains__ => k_is)
    (case a_t___iter__ => k_is)
    (case i_t___iter__ => k_is)
    (case n_t___iter__ => k_is)
    (case l_t___iter__ => k_is)
    (case c_t___iter__ => k_is)
    (case k_t___iter__ => k_is)
    (case a_t___getitem__ => k_is)
    (case i_t___getitem__ => k_is)
    (case n_t___getitem__ => k_is)
    (case l_t___getitem__ => k_is)
    (case c_t___getitem__ => k_is)
    (case k_t___getitem__ => k_is)
    (case a_t___eq__ => k_is)
    (case i_t___eq__ => k_is)
    (case l_t___eq__ => k_is)
    (case c_t___eq__ => k_is)
    (case k_t___eq__ => k_is)
    (case a_t_parent => k_is)
    (case i_t_parent => k_is)
    (case l_t_parent => k_is)
    (case c_t_parent => k_is)
    (case k_t_parent => k_is)
    (case a_t_way_to => k_is)
    (case i_t_way_to => k_is)
    (case l_t_way_to => k_is)
    (case c_t_way_to => k_is)
    (case k_t_way_to => k_is)
    (case a_t_depth => k_is)
    (case i_t_depth => k_is)
    (case l_t_depth => k_is)
    (case c_t_depth => k_is)
    (case k_t_depth => k_is)
    (case a_t_size => k_is)
    (case i_t_size => k_is)
    (case l_t_size => k_is)
    (case c_t_size => k_is)
    (case k_t_size => k_is)
    (case a_t_height => k_is)
    (case i_t_height => k_is)
    (case l_t_height => k_is)
    (case c_t_height => k_is)
    (case k_t_height => k_is)
    (case a_t_subtree => k_is)
    (case i_t_subtree => k_is)
    (case l_t_subtree => k_is)
    (case c_t_subtree => k_is)
    (case k_t_subtree => k_is)
    (case a__law_number => k_is)
    (case l__law_number => k_is)
    (case c__law_number => k_is)
    (case k__law_number => k_is)
    (case a__law_take => k_is)
    (case l__law_take => k_is)
    (case c__law_take => k_is)
    (case k__law_take => k_is)
    (case a__law_parent => k_is)
    (case l__law_parent => k_is)
    (case c__law_parent => k_is)
    (case k__law_parent => k_is)
    (case a__law_children => k_is)
    (case l__law_children => k_is)
    (case c__law_children => k_is)
    (case k__law_children => k_is)
    (case a__law_way => k_is)
    (case l__law_way => k_is)
    (case c__law_way => k_is)
    (case k__law_way => k_is)
    (case a__law_subtree => k_is)
    (case l__law_subtree => k_is)
    (case c__law_subtree => k_is)
    (case k__law_subtree => k_is)
    (case a__law_keys => k_is)
    (case l__law_keys => k_is)
    (case c__law_keys => k_is)
    (case k__law_keys => k_is)
    (case a__law_places_right => k_is)
    (case l__law_places_right => k_is)
    (case c__law_places_right => k_is)
    (case k__law_places_right => k_is)
    (case a_law => k_is)
    (case l_law => k_is)
    (case c_law => k_is)
    (case k_law => k_is)
    (case q_MOST_ARMS => k_is)
    (case q_MOST_PLACES => k_is)
    (case q_GREATEST_KEY => k_is)
    (case z_isinstance => k_is)
    (case z_int => k_is)
    (case z_bool => k_is)
    (case z_len => k_is)
    (case z_tuple => k_is)
    (case z_list => k_is)
    (case z_range => k_is)
    (case z_enumerate => k_is)
    (case z_iter => k_is)
    (case z_max => k_is)
    (case z_sum => k_is)
    (case pg => k_is)
    (case hd => k_is)
    (case po_ => k_is)
    (case sa => k_is)
    (case na_nMany => k_is)
    (case na_nArms => k_is)
    (case na_nPl => k_is)
    (case mk => k_is)
    (case kc => k_is)
    (case rd => k_is)
    (case ga => k_is)
    (case ene => k_is)
    (case eob => k_is)
    (case eni => k_is)
    (case ent => k_is)
    (case ka => k_is)
    (case kn => k_is)
    (case ktk => k_is)
    (case km => k_is)
    (case kcl => k_is)
    (case kty => k_is)

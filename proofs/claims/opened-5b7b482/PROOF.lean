import PyProof.Rows.All
import Wide.All
import OpenK.AllK
import Wide.FinOn
import PyProof.EqAt
import PyProof.EqKinds
import PyProof.TupleCall
import KE.BitLaws
import PyWrwira
import Open.SpecLaws
import KE.OsHead
import KE.OsGo
import PySem.Challenge.RW_restingnets_s05_opened
set_option Elab.async false
set_option linter.all false
set_option maxRecDepth 100000
namespace L2
open PySem PySem.Spec PyProof.Rows
abbrev Key:=Sum Int Str
def keyIs:Key → Value → Bool
  | .inl k,v=>Value.isInt k v
  | .inr x,v=>Value.isStrOf x v
def keyH (w:World):Key → Int
  | .inl k=>hashInt k
  | .inr x=>hashStr w x
theorem keyIs_shape:∀ {k:Key} {v:Value},keyIs k v = true → (∃ i t,k = Sum.inl i ∧ v = Value.int i t) ∨ (∃ x t,k = Sum.inr x ∧ v = Value.str x t)
  | .inl i,v,h=>by
    obtain ⟨t,e⟩:=Value.isInt_shape (k:=i) (v:=v) h
    exact .inl ⟨i,t,rfl,e⟩
  | .inr x,v,h=>by
    obtain ⟨t,e⟩:=Value.isStrOf_shape (x:=x) (v:=v) h
    exact .inr ⟨x,t,rfl,e⟩
theorem key_ll (a b:Int):decide ((Sum.inl a:Key) = Sum.inl b) = (a == b):=by
  by_cases e:a = b
  · subst e;simp
  · have h:¬ (Sum.inl a:Key) = Sum.inl b:=fun q=>e (Sum.inl.inj q)
    rw [decide_eq_false h]
    exact (beq_eq_false_iff_ne.mpr e).symm
theorem key_rr (a b:Str):decide ((Sum.inr a:Key) = Sum.inr b) = decide (a = b):=by
  by_cases e:a = b
  · subst e;simp
  · have h:¬ (Sum.inr a:Key) = Sum.inr b:=fun q=>e (Sum.inr.inj q)
    rw [decide_eq_false h,decide_eq_false e]
theorem key_lr (a:Int) (b:Str):decide ((Sum.inl a:Key) = Sum.inr b) = false:=decide_eq_false (fun q=>nomatch q)
theorem key_rl (a:Str) (b:Int):decide ((Sum.inr a:Key) = Sum.inl b) = false:=decide_eq_false (fun q=>nomatch q)
def mixKind (prog:Program) (w:World):PySem.KeyKind prog w Key where
  is:=keyIs
  hash:=keyH w
  inj:=fun v a b ha hb=>by
    rcases keyIs_shape ha with ⟨i,t,rfl,rfl⟩ | ⟨x,t,rfl,rfl⟩
    · rcases keyIs_shape hb with ⟨j,u,rfl,e⟩ | ⟨y,u,rfl,e⟩
      · injection e with e1 _;rw [e1]
      · exact nomatch e
    · rcases keyIs_shape hb with ⟨j,u,rfl,e⟩ | ⟨y,u,rfl,e⟩
      · exact nomatch e
      · injection e with e1 _;rw [e1]
  byValue:=fun k v h=>by
    rcases keyIs_shape h with ⟨i,t,rfl,rfl⟩ | ⟨x,t,rfl,rfl⟩ <;> rfl
  pyHash:=fun hv h=>by
    rcases keyIs_shape hv with ⟨i,t,rfl,rfl⟩ | ⟨x,t,rfl,rfl⟩
    · exact wpAny_pyHash_int h
    · exact wpAny_pyHash_str h
  eqBool:=fun hu hv h=>by
    rcases keyIs_shape hu with ⟨i,t,rfl,rfl⟩ | ⟨x,t,rfl,rfl⟩
    · rcases keyIs_shape hv with ⟨j,u,rfl,rfl⟩ | ⟨y,u,rfl,rfl⟩
      · rw [key_ll] at h;exact wpAny_eqBool_int h
      · rw [key_lr] at h;exact SeqAt.EqAt.int_str i t y u _ _ _ _ h
    · rcases keyIs_shape hv with ⟨j,u,rfl,rfl⟩ | ⟨y,u,rfl,rfl⟩
      · rw [key_rl] at h;exact SeqAt.EqAt.str_int x t j u _ _ _ _ h
      · rw [key_rr] at h;exact wpAny_eqBool_str h
  «strs»:=fun k x t v h=>by
    rcases keyIs_shape h with ⟨i,u,rfl,e⟩ | ⟨y,u,rfl,e⟩
    · exact nomatch e
    · injection e with e1 _
      subst e1
      cases v <;> rfl
end L2
namespace L2
open PySem PySem.Spec PyProof.Rows
inductive V where
  | non | bl (b:Bool) | int (i:Int) | str (x:Str) | byt (b:Array UInt8) | flt (b:UInt64) | ref (a:Addr) | ty (n:String)
  deriving DecidableEq
def RelV:V → Value → Prop
  | .non,u=>u = Value.none
  | .bl b,u=>u = Value.bool b
  | .int i,u => ∃ t,u = Value.int i t
  | .str x,u => ∃ t,u = Value.str x t
  | .byt b,u => ∃ t,u = Value.bytes b t
  | .flt b,u => ∃ t,u = Value.float b t
  | .ref a,u=>u = Value.ref a
  | .ty n,u=>u = Value.type n
abbrev Vals:List V → List Value → Prop:=Paired RelV
theorem Vals.length {xs:List V} {us:List Value} (r:Vals xs us):xs.length = us.length:=Paired.length r
theorem Vals.get:∀ {xs:List V} {us:List Value} {i:Nat} {x:V},Vals xs us → xs[i]? = some x → ∃ u,us[i]? = some u ∧ RelV x u
  | _,_,_,_, .nil,e=>by simp at e
  | _,_,0,_, .cons r _,e=>by simp at e;subst e;exact ⟨_,rfl,r⟩
  | _,_,i + 1,x, .cons _ t,e=>by
    obtain ⟨u,h1,h2⟩:=Vals.get (i:=i) (x:=x) t (by simpa using e)
    exact ⟨u,by simpa using h1,h2⟩
theorem Vals.set {x:V} {u:Value} (r:RelV x u):∀ {xs:List V} {us:List Value} (i:Nat),Vals xs us → Vals (xs.set i x) (us.set i u)
  | _,_,_, .nil => .nil
  | _,_,0, .cons _ t => .cons r t
  | _,_,i + 1, .cons q t => .cons q (Vals.set r i t)
theorem Vals.append:∀ {xs ys:List V} {us ws:List Value},Vals xs us → Vals ys ws → Vals (xs ++ ys) (us ++ ws)
  | _,_,_,_, .nil,s=>s
  | _,_,_,_, .cons r t,s => .cons r (Vals.append t s)
theorem Vals.take:∀ {xs:List V} {us:List Value} (n:Nat),Vals xs us → Vals (xs.take n) (us.take n)
  | _,_,0,_ => .nil
  | _,_,_ + 1, .nil => .nil
  | _,_,n + 1, .cons r t => .cons r (Vals.take n t)
theorem Vals.drop:∀ {xs:List V} {us:List Value} (n:Nat),Vals xs us → Vals (xs.drop n) (us.drop n)
  | _,_,0,r=>r
  | _,_,_ + 1, .nil => .nil
  | _,_,n + 1, .cons _ t=>Vals.drop n t
def RelO:Option V → Option Value → Prop
  | some v,some u=>RelV v u
  | none,none=>True
  | _,_=>False
def KV {κ : Type} : List (κ × V) → List (κ × Value) → Prop:=Paired fun (p : κ × V) (q : κ × Value)=>p.1 = q.1 ∧ RelV p.2 q.2
def kV:Key → V
  | .inl i => .int i
  | .inr x => .str x
inductive HO where
  | lst (xs:List V)
  | tup (xs:List V)
  | dK (kvs:List (Key × V)) | dT (kvs:List (List Key × V))
  | set (S:Int → Bool) (n:Nat)
  | ins (C dx:Addr) (fs:List (Str × V))
  | own (x:Addr)
  | xd (fs:List (Str × V))
  | met (f x:Addr)
  | rng (lo hi:Int)
  | frz (o:Obj) (u:HO)
  | tbl (ps:Array Value)
  | ext (φ : Heap → Prop)
abbrev Hp:=Addr → Option HO
def upd (H:Hp) (a:Addr) (o:HO):Hp:=fun b=>if b = a then some o else H b
theorem upd_same {H:Hp} {a:Addr} {o:HO} : upd H a o a = some o:=by unfold upd;rw [if_pos rfl]
theorem upd_ne {H:Hp} {a b:Addr} {o:HO} (h:b ≠ a):upd H a o b = H b:=by unfold upd;rw [if_neg h]
theorem upd_upd {H:Hp} {a:Addr} {o u:HO} : upd (upd H a o) a u = upd H a u:=by
  funext b;unfold upd;split <;> rfl
theorem ne_of {H:Hp} {a b:Addr} {o u:HO} (h:H a = some o) (h':H b = some u) (d:o ≠ u):a ≠ b:=by
  intro e;subst e;rw [h] at h';exact d (Option.some.inj h')
theorem ne_of_none {H:Hp} {a b:Addr} {o:HO} (h:H a = some o) (h':H b = none):a ≠ b:=by
  intro e;subst e;rw [h] at h';cases h'
section
variable (P:Program) (w:World)
def ObjOk (H:Hp) (h:Heap) (a:Addr):HO → Prop
  | .lst xs=>xs.length ≤ sizeLine ∧ ∃ (its:List Value) (n:Nat),Vals xs its ∧ h.get? a = some { cls := .type "list",data := .seq its.toArray n }
  | .tup xs=>xs.length ≤ sizeLine ∧ ∃ its:List Value,Vals xs its ∧ IsTup h a its.toArray
  | .dK kvs=>kvs.length ≤ sizeLine ∧ (a == sysModules) = false ∧ ∃ vs,KV kvs vs ∧ h.DictOf (mixKind P w) a vs
  | .dT kvs=>kvs.length ≤ sizeLine ∧ (a == sysModules) = false ∧ ∃ xs:List (List Key × Addr × Value),
      Paired (fun (p:List Key × V) (q:List Key × Addr × Value)=>p.1 = q.1 ∧ H q.2.1 = some (.tup (p.1.map kV)) ∧ RelV p.2 q.2.2) kvs xs ∧
      ∃ o es ep,h.get? a = some o ∧ o.ExactDict ∧ o.data = .dict es ep ∧ es.toList = xs.map (entryOfKey (tupleKind (mixKind P w))) ∧ (xs.map (·.1)).Nodup
  | .set S n=>h.SetOf (intKind P w) a S n
  | .ins C dx fs=>H dx = some (.own a) ∧ fs.length ≤ 1000 ∧ dx ≠ a ∧ h.get? a = some (PySem.W.instObj C dx) ∧
      ∃ mA,h.Ns1 dx mA ∧ (∀ f,RelO (fs.lookup f) (mA f)) ∧ PySem.Within mA (fs.map (·.1))
  | .own _ => ∃ o,h.get? a = some o
  | .xd fs => ∃ mA,h.Ns1 a mA ∧ ∀ f,RelO (fs.lookup f) (mA f)
  | .rng lo hi => ∃ t u v,h.get? a = some { cls := .type "range",data := .fields #[.int lo t, .int hi u, .int 1 v] }
  | .frz o u=>h.get? a = some o ∧ ObjOk H h a u
  | .tbl ps=>h.get? a = some { cls := .none,data := .fields ps }
  | .met f x=>h.get? a = some (PySem.W.methodObj (.ref f) (.ref x))
  | .ext φ => φ h ∧ (∃ o,h.get? a = some o) ∧ ∀ h1 h2:Heap, φ h1 → (∀ o,h1.get? a = some o → h2.get? a = some o) → φ h2
def HOk (H:Hp) (h:Heap):Prop := ∀ a o,H a = some o → ObjOk P w H h a o
end
section
variable {P:Program} {w:World} {H H':Hp} {h h':Heap} {a:Addr} {o:HO}
theorem ObjOk.lt (x:ObjOk P w H h a o):a < h.objs.size:=by
  cases o with
  | lst xs=>obtain ⟨_,_,_,_,e⟩:=x;exact Heap.lt_size e
  | tup xs=>obtain ⟨_,_,_,p⟩:=x;exact p.lt
  | dK kvs=>obtain ⟨_,_,_,_,o,_,_,e,_⟩:=x;exact Heap.lt_size e
  | dT kvs=>obtain ⟨_,_,_,_,o,_,_,e,_⟩:=x;exact Heap.lt_size e
  | set S n=>obtain ⟨o,_,_,_,e,_⟩:=x;exact Heap.lt_size e
  | ins C dx fs=>obtain ⟨_,_,_,e,_⟩:=x;exact Heap.lt_size e
  | own y=>obtain ⟨_,e⟩:=x;exact Heap.lt_size e
  | xd fs=>obtain ⟨_,⟨_,_,_,e,_⟩,_⟩:=x;exact Heap.lt_size e
  | rng lo hi=>obtain ⟨_,_,_,e⟩:=x;exact Heap.lt_size e
  | frz ob u=>obtain ⟨e,_⟩:=x;exact Heap.lt_size e
  | tbl ps=>exact Heap.lt_size (show h.get? a = some _ from x)
  | met f y=>exact Heap.lt_size (show h.get? a = some _ from x)
  | ext φ => obtain ⟨_,⟨_,e⟩,_⟩:=x;exact Heap.lt_size e
theorem Paired.mapP {α β : Type} {F G : α → β → Prop} : ∀ {l₁ : List α} {l₂ : List β},Paired F l₁ l₂ → (∀ a b,F a b → G a b) → Paired G l₁ l₂
  | _,_, .nil,_ => .nil
  | _,_, .cons r t,f => .cons (f _ _ r) (Paired.mapP t f)
theorem ObjOk.stay (x:ObjOk P w H h a o) (k:∀ b u,(b = a ∨ H b = some (.own a)) → h.get? b = some u → h'.get? b = some u)
    (ho:∀ b,H b = some (.own a) → H' b = some (.own a)) (ht:∀ b xs,H b = some (.tup xs) → H' b = some (.tup xs)):ObjOk P w H' h' a o:=by
  induction o with
  | lst xs=>obtain ⟨z,its,n,r,e⟩:=x;exact ⟨z,its,n,r,k _ _ (.inl rfl) e⟩
  | tup xs=>obtain ⟨z,its,r,ob,e,c⟩:=x;exact ⟨z,its,r,ob,k _ _ (.inl rfl) e,c⟩
  | dK kvs=>obtain ⟨z,y,vs,r,ob,es,ep,e,c⟩:=x;exact ⟨z,y,vs,r,ob,es,ep,k _ _ (.inl rfl) e,c⟩
  | dT kvs =>
    obtain ⟨z,y,xs,r,ob,es,ep,e,c⟩:=x
    exact ⟨z,y,xs,Paired.mapP r fun p q z=>⟨z.1,ht _ _ z.2.1,z.2.2⟩,ob,es,ep,k _ _ (.inl rfl) e,c⟩
  | set S n=>obtain ⟨ob,es,ep,t,e,c⟩:=x;exact ⟨ob,es,ep,t,k _ _ (.inl rfl) e,c⟩
  | ins C dx fs =>
    obtain ⟨d,z,ne,e,mA,⟨od,es,ep,e2,c⟩,r⟩:=x
    exact ⟨ho _ d,z,ne,k _ _ (.inl rfl) e,mA,⟨od,es,ep,k _ _ (.inr d) e2,c⟩,r⟩
  | own y=>obtain ⟨ob,e⟩:=x;exact ⟨ob,k _ _ (.inl rfl) e⟩
  | xd fs=>obtain ⟨mA,⟨od,es,ep,e,c⟩,r⟩:=x;exact ⟨mA,⟨od,es,ep,k _ _ (.inl rfl) e,c⟩,r⟩
  | rng lo hi=>obtain ⟨t,u,v,e⟩:=x;exact ⟨t,u,v,k _ _ (.inl rfl) e⟩
  | frz ob u ih=>obtain ⟨e,q⟩:=x;exact ⟨k _ _ (.inl rfl) e,ih q⟩
  | tbl ps =>
    have e:h.get? a = some { cls := .none,data := .fields ps }:=x
    show h'.get? a = some { cls := .none,data := .fields ps }
    exact k a _ (.inl rfl) e
  | met f y =>
    have e:h.get? a = some (PySem.W.methodObj (.ref f) (.ref y)):=x
    show h'.get? a = some (PySem.W.methodObj (.ref f) (.ref y))
    exact k a _ (.inl rfl) e
  | ext φ => obtain ⟨p,⟨o,e⟩,st⟩:=x;exact ⟨st _ _ p fun o q=>k _ _ (.inl rfl) q,⟨o,k _ _ (.inl rfl) e⟩,st⟩
theorem HOk.lt (x:HOk P w H h) (e:H a = some o):a < h.objs.size:=(x a o e).lt
theorem HOk.fresh (x:HOk P w H h) (e:h.objs.size ≤ a):H a = none:=by
  cases q:H a with
  | none=>rfl
  | some u=>exact absurd (Nat.lt_of_lt_of_le (x.lt q) e) (Nat.lt_irrefl _)
theorem HOk.kept (x:HOk P w H h) (k:∀ b u,h.get? b = some u → h'.get? b = some u):HOk P w H h':=fun a o e =>
  (x a o e).stay (fun b u _ q=>k b u q) (fun _ q=>q) fun _ _ q=>q
theorem HOk.laid (x:HOk P w H h) (k:∀ b u,h.get? b = some u → h'.get? b = some u) (hp:h.objs.size ≤ a) (new:ObjOk P w (upd H a o) h' a o):HOk P w (upd H a o) h':=fun b u e=>by
  have hn:=x.fresh hp
  by_cases hb:b = a
  · subst hb;rw [upd_same] at e;cases e;exact new
  · rw [upd_ne hb] at e
    exact (x b u e).stay (fun c v _ q=>k c v q) (fun c q=>by rw [upd_ne (ne_of_none q hn)];exact q) fun c xs q=>by rw [upd_ne (ne_of_none q hn)];exact q
end
def Rd (H:Hp) (a:Addr) (u:HO):Prop:=H a = some u ∨ ∃ o,H a = some (.frz o u)
theorem Rd.ok {P:Program} {w:World} {H:Hp} {h:Heap} {a:Addr} {u:HO} (r:Rd H a u) (x:HOk P w H h):ObjOk P w H h a u:=by
  rcases r with r | ⟨o,r⟩
  · exact x a u r
  · obtain ⟨_,q⟩:=x a _ r
    exact q
def Mut:Option HO → Prop
  | some (.lst _)=>True
  | some (.dK _)=>True
  | some (.dT _)=>True
  | some (.set _ _)=>True
  | some (.ins _ _ _)=>True
  | some (.ext _)=>True
  | _=>False
section
variable {P:Program} {w:World} {H:Hp} {h h':Heap} {x e:Addr} {o':HO}
theorem HOk.write (ok:HOk P w H h) (mu:Mut (H x)) (he:e = x ∨ H e = some (.own x)) (k:∀ b u,b ≠ e → h.get? b = some u → h'.get? b = some u) (heo:∃ u,h'.get? e = some u)
    (new:ObjOk P w (upd H x o') h' x o'):HOk P w (upd H x o') h':=fun b u q=>by
  have nown:∀ c y,H c = some (.own y) → c ≠ x:=fun c y r z=>by subst z;rw [r] at mu;exact mu
  have ntup:∀ c xs,H c = some (.tup xs) → c ≠ x:=fun c xs r z=>by subst z;rw [r] at mu;exact mu
  by_cases hb:b = x
  · subst hb;rw [upd_same] at q;cases q;exact new
  · rw [upd_ne hb] at q
    by_cases hbe:b = e
    · have q':H b = some (.own x):=by
        rcases he with z | z
        · exact absurd (hbe.trans z) hb
        · rw [hbe];exact z
      rw [q] at q';cases q'
      obtain ⟨v,hv⟩:=heo
      exact ⟨v,by rw [hbe];exact hv⟩
    · refine (ok b u q).stay (fun c v hc r=>k c v ?_ r) (fun c r=>by rw [upd_ne (nown c b r)];exact r) fun c xs r=>by rw [upd_ne (ntup c xs r)];exact r
      rcases hc with rfl | hc
      · exact hbe
      · rintro rfl
        rcases he with z | z
        · exact nown c b hc z
        · rw [hc] at z;cases z;exact hb rfl
end
structure Un (fs ex:List Addr) (H H':Hp) (h h':Heap):Prop where
  keep:∀ b o,h.get? b = some o → H b = none → b ∉ fs → b ∉ ex → h'.get? b = some o
  slot:∀ b o,h.get? b = some o → H b = none → b ∈ fs → b ∉ ex → ∃ sl,h'.get? b = some { o with slots:=sl }
  free:∀ b o,h.get? b = some o → H b = none → b ∉ ex → H' b = none
  there:∀ b o,h.get? b = some o → b ∉ ex → ∃ o',h'.get? b = some o'
  tups:∀ b xs,H b = some (.tup xs) → H' b = some (.tup xs)
  frzs:∀ b o u,H b = some (.frz o u) → H' b = some (.frz o u)
  tbls:∀ b ps,H b = some (.tbl ps) → ∃ more,H' b = some (.tbl (ps ++ more))
section
variable {fs fs' ex ex':List Addr} {H H1 H2:Hp} {h h1 h2 h':Heap} {a x e:Addr} {o:HO}
theorem Un.any (u:Un fs ex H H1 h h1) {b:Addr} {ob:Obj} (q:h.get? b = some ob) (n:H b = none) (hx:b ∉ ex):∃ sl,h1.get? b = some { ob with slots:=sl }:=by
  by_cases hb:b ∈ fs
  · exact u.slot b ob q n hb hx
  · exact ⟨ob.slots,u.keep b ob q n hb hx⟩
theorem Un.kept (k:∀ b u,h.get? b = some u → h'.get? b = some u):Un fs ex H H h h' :=
  ⟨fun b ob q _ _ _=>k b ob q,fun b ob q _ _ _=>⟨ob.slots,k b ob q⟩,fun _ _ _ n _=>n,fun b ob q _=>⟨ob,k b ob q⟩,fun _ _ q=>q,fun _ _ _ q=>q,fun _ ps q=>⟨#[],by rw [q];simp⟩⟩
theorem Un.refl:Un fs ex H H h h:=Un.kept fun _ _ q=>q
theorem Un.laid (k:∀ b u,h.get? b = some u → h'.get? b = some u) (hp:h.objs.size ≤ a) (hn:H a = none):Un fs ex H (upd H a o) h h' where
  keep:=fun b u q _ _ _=>k b u q
  slot:=fun b u q _ _ _=>⟨u.slots,k b u q⟩
  free:=fun b u q n _=>by rw [upd_ne (Nat.ne_of_lt (Nat.lt_of_lt_of_le (Heap.lt_size q) hp))];exact n
  there:=fun b u q _=>⟨u,k b u q⟩
  tups:=fun b xs q=>by rw [upd_ne (ne_of_none q hn)];exact q
  frzs:=fun b u xs q=>by rw [upd_ne (ne_of_none q hn)];exact q
  tbls:=fun b ps q=>⟨#[],by rw [upd_ne (ne_of_none q hn),q];simp⟩
theorem Un.write (mu:Mut (H x)) (he:e = x ∨ H e = some (.own x)) (k:∀ b u,b ≠ e → h.get? b = some u → h'.get? b = some u) (heo:∃ u,h'.get? e = some u):Un fs ex H (upd H x o) h h':=by
  have hx:∀ b,H b = none → b ≠ x:=fun b n z=>by subst z;rw [n] at mu;exact mu
  have hb:∀ b,H b = none → b ≠ e:=fun b n z=>by
    subst z
    rcases he with r | r
    · exact hx b n r
    · rw [n] at r;cases r
  have hm:∀ b u,H b = some u → ¬ Mut (some u) → b ≠ x:=fun b u q nm z=>by subst z;rw [q] at mu;exact nm mu
  refine ⟨fun b u q n _ _=>k b u (hb b n) q,fun b u q n _ _=>⟨u.slots,k b u (hb b n) q⟩,fun b u q n _=>by rw [upd_ne (hx b n)];exact n,fun b u q _ => ?_,
    fun b xs q=>by rw [upd_ne (hm b _ q fun z=>z)];exact q,fun b u xs q=>by rw [upd_ne (hm b _ q fun z=>z)];exact q,fun b ps q=>⟨#[],by rw [upd_ne (hm b _ q fun z=>z),q];simp⟩⟩
  by_cases hbe:b = e
  · subst hbe;exact heo
  · exact ⟨u,k b u hbe q⟩
end
def trk (h:Heap) (H:Hp):List Addr:=(List.range h.objs.size).filter fun a=>(H a).isSome
def hidT (h:Heap) (H:Hp):Heap:=PySem.W.hideAll h (trk h H)
theorem hidT_size (h:Heap) (H:Hp):(hidT h H).objs.size = h.objs.size:=PySem.W.hideAll_size _ _
theorem hidT_get {h:Heap} {H:Hp} {b:Addr} {o:Obj} (e:h.get? b = some o) (n:H b = none):(hidT h H).get? b = some o :=
  PySem.W.hideAll_get _ e fun hm=>by
    have q:(H b).isSome = true:=(List.mem_filter.mp hm).2
    rw [n] at q;simp at q
theorem of_hidT {h:Heap} {H:Hp} {b:Addr} {o:Obj} (e:(hidT h H).get? b = some o):h.get? b = some o ∧ H b = none:=by
  have e':h.get? b = some o:=PySem.W.of_hideAll (trk h H) e
  refine ⟨e', ?_⟩
  cases q:H b with
  | none=>rfl
  | some x =>
    have hm:b ∈ trk h H:=List.mem_filter.mpr ⟨List.mem_range.mpr (Heap.lt_size e'),by simp [q]⟩
    have z:(hidT h H).get? b = none:=PySem.W.hideAll_none (trk h H) hm
    rw [z] at e;cases e
end L2
namespace L2
open PySem PySem.Spec PyProof.Rows
structure Mod (K:PySem.W.Frag) (mg:Str → Option Value) (base:Heap):Prop where
  kin:K.In base
  glob:base.Ns mainGlobals mg
  blt:∃ mb,base.Ns builtinsNs mb ∧ ∀ x:Str,x ≠ "__name__" → mb x = bootBuiltins x
  nolimit:base.NoLimit
structure Cx where
  prog:Program
  w:World
  K:PySem.W.Frag
  mg:Str → Option Value
  base:Heap
  A:Around
  N:List Str
  s_0:Shared
  H_0:Hp
  env:Env
  outer:List Env
  stack:List Env
  ex:List Addr
  fn:Str → Bool
  calm:Bool
  pn:List (Addr × Obj)
  xe:Value → Shared → Prop
def frs (l:List Env):List Addr:=l.filterMap (·.frame)
abbrev Cx.fs (X:Cx):List Addr:=frs X.outer
def Vis (sc:Scope) (x:Str):Prop:=sc.names.lookup x = some .local ∨ sc.names.lookup x = some .cell ∨ sc.names.lookup x = some .free
def Loc (sc:Scope) (x:Str):Prop:=sc.names.lookup x = some .local ∨ sc.names.lookup x = some .cell
def Look (env:Env) (h:Heap) (m:Str → Option Value) (x:Str) (u:Value):Prop :=
  (env.kindOf x = some .local ∧ m x = some u) ∨ ((env.kindOf x = some .cell ∨ env.kindOf x = some .free) ∧ ∃ c,env.cells.lookup x = some c ∧ h.IsCell c (some u))
structure Cx.Ok (X:Cx):Prop where
  mod:Mod X.K X.mg X.base
  kind:X.env.scope.kind = .function
  glob:X.env.globals = mainGlobals
  blt:X.env.builtins = builtinsNs
  above:X.s_0.heap.objs.size ≤ X.env.locals
  inj:∀ x y c,X.env.cells.lookup x = some c → X.env.cells.lookup y = some c → x = y
  has:∀ x,(X.env.kindOf x = some .cell ∨ X.env.kindOf x = some .free) → ∃ c,X.env.cells.lookup x = some c
  cab:∀ x c,X.fn x = true → X.env.cells.lookup x = some c → X.s_0.heap.objs.size ≤ c
  hd:X.calm = true → X.A.handled = none
  frames:X.A.frames = some X.stack
  stk:X.stack = X.outer ∨ (X.stack = X.env :: X.outer ∧ X.env.frame = some X.env.locals)
  exf:∀ b ∈ X.ex,b ≠ X.env.locals ∧ ∀ x c,X.env.cells.lookup x = some c → c ≠ b
  bs:∀ b o,X.base.get? b = some o → X.s_0.heap.get? b = some o ∧ X.H_0 b = none
  bsz:X.base.objs.size ≤ X.s_0.heap.objs.size
  noex:∀ b o,X.base.get? b = some o → b ∉ X.ex
  exfs:∀ b ∈ X.ex,b ∉ X.fs
  funs:X.s_0.heap.FunFrames X.base X.outer
  frf:∀ b ∈ X.fs,X.H_0 b = none
structure Inv (X:Cx) (pins:List (Addr × Obj)) (σ : List (Option V)) (H:Hp) (s:Shared):Prop where
  ok:X.Ok
  os:s.os = X.s_0.os
  bare:AllBare s.gens
  base:Un X.fs X.ex X.H_0 H X.s_0.heap s.heap
  loc:∃ m,s.heap.Ns X.env.locals m ∧ ∀ (i:Nat) (x:Str) (v:V),X.N[i]? = some x → σ[i]? = some (some v) → Vis X.env.scope x → ∃ u,RelV v u ∧ Look X.env s.heap m x u
  cell:∀ x c,X.env.cells.lookup x = some c → ∃ v,s.heap.IsCell c v
  free:H X.env.locals = none
  freeC:∀ x c,X.env.cells.lookup x = some c → H c = none
  pin:∀ p ∈ X.pn ++ pins,s.heap.get? p.1 = some p.2 ∧ H p.1 = none ∧ p.1 ≠ X.env.locals ∧ p.1 ∉ X.fs ∧ ∀ v,p.2.data ≠ .cell v
  hok:HOk X.prog X.w H s.heap
  len : σ.length = X.N.length
section
variable {X:Cx} {pins:List (Addr × Obj)} {σ : List (Option V)} {H H':Hp} {s:Shared} {h':Heap}
theorem Cx.Ok.nofr (ok:X.Ok) {b:Addr} {o:Obj} (e:X.base.get? b = some o):b ∉ X.fs:=fun hb=>by
  have:=(ok.funs.mem hb).1
  rw [e] at this;cases this
theorem Inv.bs (I:Inv X pins σ H s):∀ b o,X.base.get? b = some o → s.heap.get? b = some o ∧ H b = none:=fun b o e =>
  ⟨I.base.keep b o (I.ok.bs b o e).1 (I.ok.bs b o e).2 (I.ok.nofr e) (I.ok.noex b o e),I.base.free b o (I.ok.bs b o e).1 (I.ok.bs b o e).2 (I.ok.noex b o e)⟩
theorem Inv.bk (I:Inv X pins σ H s):∀ b o,X.base.get? b = some o → s.heap.get? b = some o:=fun b o e=>(I.bs b o e).1
theorem Inv.mod (I:Inv X pins σ H s):Mod X.K X.mg X.base:=I.ok.mod
theorem Inv.kIn (I:Inv X pins σ H s):X.K.In s.heap:=I.ok.mod.kin.keeps I.bk
theorem Inv.fr (I:Inv X pins σ H s):∃ m,Fr X.base X.env.locals s.heap m :=
  let ⟨m,hn,_⟩:=I.loc
  ⟨m,hn,I.bk,Nat.le_trans I.ok.bsz I.ok.above⟩
theorem Inv.lt (I:Inv X pins σ H s):X.env.locals < s.heap.objs.size:=let ⟨_,hn,_⟩:=I.loc;hn.lt
theorem Inv.sz (I:Inv X pins σ H s):X.s_0.heap.objs.size ≤ s.heap.objs.size:=Nat.le_trans I.ok.above (Nat.le_of_lt I.lt)
theorem Inv.nofs (I:Inv X pins σ H s) {a:Addr} (h:s.heap.objs.size ≤ a):a ∉ X.fs:=fun hb=>by
  obtain ⟨_,o,ho,_⟩:=I.ok.funs.mem hb
  exact absurd (Nat.lt_of_lt_of_le (Heap.lt_size ho) (Nat.le_trans I.sz h)) (Nat.lt_irrefl _)
theorem Inv.cne (I:Inv X pins σ H s):∀ x c,X.env.cells.lookup x = some c → c ≠ X.env.locals:=fun x c e z=>by
  obtain ⟨v,o,ho,hd⟩:=I.cell x c e
  obtain ⟨m,⟨o',es,ep,ho',hd',_⟩,_⟩:=I.loc
  rw [z,ho'] at ho;cases ho;rw [hd'] at hd;cases hd
theorem Inv.funs (I:Inv X pins σ H s):s.heap.FunFrames X.base X.outer:=by
  have all:∀ (l:List Env),(∀ b ∈ frs l,b ∈ X.fs) → X.s_0.heap.FunFrames X.base l → s.heap.FunFrames X.base l:=by
    intro l
    induction l with
    | nil=>intro _ _;trivial
    | cons env r ih =>
      intro hs hl
      obtain ⟨hk,⟨L,o,hf,hn,ho,hd⟩,hr⟩:=hl
      have hL:L ∈ X.fs:=hs L (by unfold frs;rw [List.filterMap_cons,hf];exact List.mem_cons_self)
      obtain ⟨sl,e⟩:=I.base.slot L o ho (I.ok.frf L hL) hL fun z=>I.ok.exfs L z hL
      exact ⟨hk,⟨L,_,hf,hn,e,hd⟩,ih (fun b hb=>hs b (by unfold frs;rw [List.filterMap_cons,hf];exact List.mem_cons_of_mem _ hb)) hr⟩
  exact all X.outer (fun _ hb=>hb) I.ok.funs
theorem Inv.stack (I:Inv X pins σ H s):s.heap.FunFrames X.base X.stack:=by
  rcases I.ok.stk with e | ⟨e,hf⟩
  · rw [e];exact I.funs
  · rw [e]
    obtain ⟨m,hn,_⟩:=I.loc
    refine .cons (by rw [I.ok.kind];decide) hf hn ?_ I.funs
    exact Heap.get?_none_of_le (Nat.le_trans I.ok.bsz I.ok.above)
theorem Inv.stkSub (I:Inv X pins σ H s):∀ b ∈ frs X.stack,b ∈ X.env.locals :: X.fs:=fun b hb=>by
  rcases I.ok.stk with e | ⟨e,hf⟩
  · rw [e] at hb;exact List.mem_cons_of_mem _ hb
  · rw [e] at hb
    unfold frs at hb
    rw [List.filterMap_cons,hf] at hb
    exact hb
theorem Inv.stkFree (I:Inv X pins σ H s):∀ b ∈ frs X.stack,H b = none:=fun b hb=>by
  rcases List.mem_cons.mp (I.stkSub b hb) with e | hb
  · rw [e];exact I.free
  · obtain ⟨_,o,ho,_⟩:=I.ok.funs.mem hb
    exact I.base.free b o ho (I.ok.frf b hb) fun z=>I.ok.exfs b z hb
theorem Inv.step {g':Array GenState} {t':Nat} {d':Drawn} {ch:List Addr} (I:Inv X pins σ H s)
    (hch:∀ b ∈ ch,(b ∈ X.ex ∨ X.s_0.heap.objs.size ≤ b) ∧ b ≠ X.env.locals ∧ (∀ x c,X.env.cells.lookup x = some c → c ≠ b) ∧ ∀ p ∈ X.pn ++ pins,p.1 ≠ b)
    (keep:∀ b o,b ≠ X.env.locals → b ∉ X.fs → b ∉ ch → s.heap.get? b = some o → H b = none → h'.get? b = some o)
    (slot:∀ b o,b ≠ X.env.locals → b ∈ X.fs → b ∉ ch → s.heap.get? b = some o → H b = none → ∃ sl,h'.get? b = some { o with slots:=sl }) (free:∀ b o,b ∉ ch → s.heap.get? b = some o → H b = none → H' b = none)
    (there:∀ b o,b ∉ ch → s.heap.get? b = some o → ∃ o',h'.get? b = some o')
    (tups:∀ b xs,H b = some (.tup xs) → H' b = some (.tup xs)) (frzs:∀ b o u,H b = some (.frz o u) → H' b = some (.frz o u)) (tbls:∀ b ps,H b = some (.tbl ps) → ∃ more,H' b = some (.tbl (ps ++ more)))
    (ns:∀ m,s.heap.Ns X.env.locals m → h'.Ns X.env.locals m) (hok:HOk X.prog X.w H' h') (hg:AllBare g') :
    Inv X pins σ H' { s with heap:=h',gens:=g',drawn:=d',toks:=t' }:=by
  have neL:∀ b o,X.s_0.heap.get? b = some o → b ≠ X.env.locals:=fun b o e=>Nat.ne_of_lt (Nat.lt_of_lt_of_le (Heap.lt_size e) I.ok.above)
  have neC:∀ b o,X.s_0.heap.get? b = some o → b ∉ X.ex → b ∉ ch:=fun b o e hx hb=>by
    rcases (hch b hb).1 with z | z
    · exact hx z
    · exact absurd (Nat.lt_of_lt_of_le (Heap.lt_size e) z) (Nat.lt_irrefl _)
  have cellK:∀ x c,X.env.cells.lookup x = some c → ∀ v,s.heap.IsCell c v → h'.IsCell c v:=fun x c e v ⟨o,ho,hd⟩=>by
    have nch:c ∉ ch:=fun z=>(hch c z).2.2.1 x c e rfl
    by_cases hc:c ∈ X.fs
    · obtain ⟨sl,q⟩:=slot c o (I.cne x c e) hc nch ho (I.freeC x c e)
      exact ⟨_,q,hd⟩
    · exact ⟨o,keep c o (I.cne x c e) hc nch ho (I.freeC x c e),hd⟩
  refine ⟨I.ok,I.os,hg,⟨fun b o e n hb hx => ?_,fun b o e n hb hx => ?_,fun b o e n hx => ?_,fun b o e hx => ?_,fun b xs e=>tups b xs (I.base.tups b xs e),fun b o xs e=>frzs b o xs (I.base.frzs b o xs e),fun b ps e => ?_⟩, ?_,fun x c e => ?_, ?_,fun x c e => ?_,fun p hp => ?_,hok,I.len⟩
  · exact keep b o (neL b o e) hb (neC b o e hx) (I.base.keep b o e n hb hx) (I.base.free b o e n hx)
  · obtain ⟨sl,e1⟩:=I.base.slot b o e n hb hx
    obtain ⟨sl',e2⟩:=slot b _ (neL b o e) hb (neC b o e hx) e1 (I.base.free b o e n hx)
    exact ⟨sl',e2⟩
  · obtain ⟨o',e1⟩:=I.base.there b o e hx
    exact free b o' (neC b o e hx) e1 (I.base.free b o e n hx)
  · obtain ⟨o',e1⟩:=I.base.there b o e hx
    exact there b o' (neC b o e hx) e1
  · obtain ⟨m1,e1⟩:=I.base.tbls b ps e
    obtain ⟨m2,e2⟩:=tbls b _ e1
    exact ⟨m1 ++ m2,by rw [e2,Array.append_assoc]⟩
  · obtain ⟨m,hn,hl⟩:=I.loc
    refine ⟨m,ns m hn,fun i x v e1 e2 e3 => ?_⟩
    obtain ⟨u,r,l⟩:=hl i x v e1 e2 e3
    refine ⟨u,r, ?_⟩
    rcases l with l | ⟨k,c,e,z⟩
    · exact .inl l
    · exact .inr ⟨k,c,e,cellK x c e _ z⟩
  · obtain ⟨v,z⟩:=I.cell x c e
    exact ⟨v,cellK x c e v z⟩
  · obtain ⟨m,⟨o,_,_,ho,_⟩,_⟩:=I.loc
    exact free _ o (fun z=>(hch _ z).2.1 rfl) ho I.free
  · obtain ⟨v,o,ho,hd⟩:=I.cell x c e
    exact free c o (fun z=>(hch c z).2.2.1 x c e rfl) ho (I.freeC x c e)
  · obtain ⟨e,n,ne,nf,d⟩:=I.pin p hp
    have nch:p.1 ∉ ch:=fun z=>(hch p.1 z).2.2.2 p hp rfl
    exact ⟨keep p.1 p.2 ne nf nch e n,free p.1 p.2 nch e n,ne,nf,d⟩
theorem Inv.un {t':Nat} (I:Inv X pins σ H s) (u:Un X.fs [] H H' s.heap h') (hok:HOk X.prog X.w H' h'):Inv X pins σ H' { s with heap:=h',toks:=t' }:=by
  obtain ⟨m,⟨o,es,ep,ho,r⟩,_⟩:=id I.loc
  obtain ⟨sl,hL⟩:=u.any ho I.free (by simp)
  exact I.step (g':=s.gens) (d':=s.drawn) (ch:=[]) (fun _ z=>nomatch z) (fun b o _ hb _ e n=>u.keep b o e n hb (by simp)) (fun b o _ hb _ e n=>u.slot b o e n hb (by simp)) (fun b o _ e n=>u.free b o e n (by simp)) (fun b o _ e=>u.there b o e (by simp)) u.tups u.frzs u.tbls (fun m' hm=>by
    obtain ⟨o',es',ep',ho',r'⟩:=hm
    rw [ho] at ho';cases ho'
    exact ⟨_,es',ep',hL,r'⟩) hok I.bare
theorem Inv.call {g':Array GenState} {t':Nat} {d':Drawn} {ch:List Addr} (I:Inv X pins σ H s) (u:Un (frs X.stack) ch H H' s.heap h') (hok:HOk X.prog X.w H' h') (hg:AllBare g')
    (hch:∀ b ∈ ch,(b ∈ X.ex ∨ X.s_0.heap.objs.size ≤ b) ∧ b ≠ X.env.locals ∧ (∀ x c,X.env.cells.lookup x = some c → c ≠ b) ∧ ∀ p ∈ X.pn ++ pins,p.1 ≠ b) :
    Inv X pins σ H' { s with heap:=h',gens:=g',drawn:=d',toks:=t' }:=by
  obtain ⟨m,⟨o,es,ep,ho,r⟩,_⟩:=id I.loc
  obtain ⟨sl,hL⟩:=u.any ho I.free fun z=>(hch _ z).2.1 rfl
  exact I.step (ch:=ch) hch (fun b o hL hb hc e n=>u.keep b o e n (fun z=>(List.mem_cons.mp (I.stkSub b z)).elim hL hb) hc) (fun b o _ _ hc e n=>u.any e n hc) (fun b o hc e n=>u.free b o e n hc) (fun b o hc e=>u.there b o e hc) u.tups u.frzs u.tbls (fun m' hm=>by
    obtain ⟨o',es',ep',ho',r'⟩:=hm
    rw [ho] at ho';cases ho'
    exact ⟨_,es',ep',hL,r'⟩) hok hg
theorem Inv.turned {t':Nat} {it:Addr} (I:Inv X pins σ H s) (k:∀ b o,b ≠ it → s.heap.get? b = some o → h'.get? b = some o) (hn:H it = none) (hL:it ≠ X.env.locals)
    (h1:it ∈ X.ex ∨ X.s_0.heap.objs.size ≤ it) (h2:∀ x c,X.env.cells.lookup x = some c → c ≠ it) (h3:∀ p ∈ X.pn ++ pins,p.1 ≠ it):Inv X pins σ H { s with heap:=h',toks:=t' }:=by
  have nit:∀ b u,H b = some u → b ≠ it:=fun b u e z=>by rw [z,hn] at e;cases e
  refine I.step (g':=s.gens) (d':=s.drawn) (ch:=[it]) (fun b hb => ?_) (fun b o _ _ hc e _=>k b o (fun z=>hc (by simp [z])) e) (fun b o _ _ hc e _=>⟨o.slots,k b o (fun z=>hc (by simp [z])) e⟩) (fun _ _ _ _ n=>n)
    (fun b o hc e=>⟨o,k b o (fun z=>hc (by simp [z])) e⟩) (fun _ _ e=>e) (fun _ _ _ e=>e) (fun b ps e=>⟨#[],by rw [e];simp⟩) (fun m hm => ?_) (fun b u e => ?_) I.bare
  · have e:b = it:=by simpa using hb
    subst e
    exact ⟨h1,hL,h2,h3⟩
  · obtain ⟨o,es,ep,ho,r⟩:=hm
    exact ⟨o,es,ep,k _ o (Ne.symm hL) ho,r⟩
  · refine (I.hok b u e).stay (fun c v hc q=>k c v ?_ q) (fun _ q=>q) fun _ _ q=>q
    rcases hc with z | z
    · rw [z];exact nit b u e
    · exact nit c _ z
theorem Inv.tok (I:Inv X pins σ H s) (t:Nat):Inv X pins σ H { s with toks:=t }:=I.un (h':=s.heap) (t':=t) Un.refl I.hok
theorem Inv.kept {t':Nat} (I:Inv X pins σ H s) (k:∀ b u,s.heap.get? b = some u → h'.get? b = some u):Inv X pins σ H { s with heap:=h',toks:=t' }:=I.un (Un.kept k) (I.hok.kept k)
theorem Inv.laid {a:Addr} {o:HO} {t':Nat} (I:Inv X pins σ H s) (k:∀ b u,s.heap.get? b = some u → h'.get? b = some u) (hp:s.heap.objs.size ≤ a) (new:ObjOk X.prog X.w (upd H a o) h' a o) :
    Inv X pins σ (upd H a o) { s with heap:=h',toks:=t' }:=I.un (Un.laid k hp (I.hok.fresh hp)) (I.hok.laid k hp new)
theorem Inv.write {x e:Addr} {o:HO} {t':Nat} (I:Inv X pins σ H s) (mu:Mut (H x)) (he:e = x ∨ H e = some (.own x)) (k:∀ b u,b ≠ e → s.heap.get? b = some u → h'.get? b = some u) (heo:∃ u,h'.get? e = some u)
    (new:ObjOk X.prog X.w (upd H x o) h' x o):Inv X pins σ (upd H x o) { s with heap:=h',toks:=t' }:=I.un (Un.write mu he k heo) (I.hok.write mu he k heo new)
theorem Inv.weak {σ':List (Option V)} (I:Inv X pins σ H s) (hl : σ'.length = σ.length) (w:∀ (i:Nat) v, σ'[i]? = some (some v) → σ[i]? = some (some v)):Inv X pins σ' H s :=
  ⟨I.ok,I.os,I.bare,I.base,let ⟨m,hn,hl'⟩:=I.loc;⟨m,hn,fun i x v e1 e2 e3=>hl' i x v e1 (w i v e2) e3⟩,I.cell,I.free,I.freeC,I.pin,I.hok,hl.trans I.len⟩
theorem Inv.pins_of {pins':List (Addr × Obj)} (I:Inv X pins σ H s) (h:∀ p ∈ pins',s.heap.get? p.1 = some p.2 ∧ H p.1 = none ∧ p.1 ≠ X.env.locals ∧ p.1 ∉ X.fs ∧ ∀ v,p.2.data ≠ .cell v):Inv X pins' σ H s :=
  ⟨I.ok,I.os,I.bare,I.base,I.loc,I.cell,I.free,I.freeC,fun p hp=>(List.mem_append.mp hp).elim (fun z=>I.pin p (List.mem_append_left _ z)) (h p),I.hok,I.len⟩
theorem nodup_ix {N:List Str} (hN:N.Nodup) {i j:Nat} {x:Str} (a:N[i]? = some x) (b:N[j]? = some x):i = j:=by
  obtain ⟨h1,e1⟩:=List.getElem?_eq_some_iff.mp a
  obtain ⟨h2,e2⟩:=List.getElem?_eq_some_iff.mp b
  exact (List.getElem_inj hN).mp (e1.trans e2.symm)
theorem store_ok2 {M:Model} {A:Around} {E:Value → Shared → Prop} {i:Nat} {x:Str} {v:V} {u:Value} {Q:Unit → Shared → Prop} (I:Inv X pins σ H s) (hN:X.N.Nodup) (hi:X.N[i]? = some x) (hx:Loc X.env.scope x) (r:RelV v u)
    (h:∀ s',Inv X pins (σ.set i (some v)) H s' → (∃ a,Heap.SameBut a s.heap s'.heap ∧ (a = X.env.locals ∨ X.env.cells.lookup x = some a)) → Q () s') (hf:X.fn x = true ∨ X.env.scope.names.lookup x = some .local:=by first | exact .inl rfl | exact .inr rfl | assumption):wpAny M A (storeName X.env x u) Q E s:=by
  obtain ⟨m,hn,hl⟩:=id I.loc
  have hcls:(X.env.scope.kind == .class || (X.env.scope.kind == .module && X.env.locals != X.env.globals)) = false:=by rw [I.ok.kind];rfl
  have hiσ : i < σ.length:=by rw [I.len];exact (List.getElem?_eq_some_iff.mp hi).1
  have cne:=I.cne
  have tracked:∀ {a:Addr} {h':Heap},(∃ o,s.heap.get? a = some o ∧ H a = none) → Heap.SameBut a s.heap h' → HOk X.prog X.w H h':=fun {a h'} ha hs b ob e=>by
    obtain ⟨_,_,hfree⟩:=ha
    refine (I.hok b ob e).stay (fun c w' hc q=>(hs.2 c ?_).trans q) (fun _ q=>q) fun _ _ q=>q
    rintro rfl
    rcases hc with rfl | hc
    · rw [hfree] at e;cases e
    · rw [hfree] at hc;cases hc
  rcases hx with hk | hk
  · refine wpAny_storeName_local hk hn (fun h' hn' hs => ?_) hcls
    obtain ⟨oL,_,_,hoL,_⟩:=id hn
    refine h _ ⟨I.ok,I.os,I.bare,⟨fun b o e n hb hx => ?_,fun b o e n hb hx => ?_,I.base.free,fun b o e hx => ?_,I.base.tups,I.base.frzs,I.base.tbls⟩,⟨_,hn',fun j y v' e1 e2 e3 => ?_⟩,fun y c e => ?_,I.free,I.freeC,fun p hp => ?_,tracked ⟨oL,hoL,I.free⟩ hs,by simpa using I.len⟩ ⟨_,hs, .inl rfl⟩
    · exact (hs.2 b (Nat.ne_of_lt (Nat.lt_of_lt_of_le (Heap.lt_size e) I.ok.above))).trans (I.base.keep b o e n hb hx)
    · obtain ⟨sl,e1⟩:=I.base.slot b o e n hb hx
      exact ⟨sl,(hs.2 b (Nat.ne_of_lt (Nat.lt_of_lt_of_le (Heap.lt_size e) I.ok.above))).trans e1⟩
    · obtain ⟨o',e1⟩:=I.base.there b o e hx
      exact ⟨o',(hs.2 b (Nat.ne_of_lt (Nat.lt_of_lt_of_le (Heap.lt_size e) I.ok.above))).trans e1⟩
    · by_cases hj:j = i
      · subst hj
        rw [hi] at e1;cases e1
        rw [List.getElem?_set_self hiσ] at e2
        cases e2
        exact ⟨u,r, .inl ⟨hk,by simp⟩⟩
      · rw [List.getElem?_set_ne (Ne.symm hj)] at e2
        obtain ⟨u',r',q⟩:=hl j y v' e1 e2 e3
        refine ⟨u',r', ?_⟩
        rcases q with ⟨k,e⟩ | ⟨k,c,e,z⟩
        · refine .inl ⟨k, ?_⟩
          have:y ≠ x:=fun e=>hj (nodup_ix hN e1 (e ▸ hi))
          simp [this,e]
        · exact .inr ⟨k,c,e,z.sameBut hs (cne y c e)⟩
    · obtain ⟨w',z⟩:=I.cell y c e
      exact ⟨w',z.sameBut hs (cne y c e)⟩
    · obtain ⟨e,n,ne,nf,d⟩:=I.pin p hp
      exact ⟨(hs.2 p.1 ne).trans e,n,ne,nf,d⟩
  · have hfn:X.fn x = true:=by
      rcases hf with z | z
      · exact z
      · rw [z] at hk;cases hk
    obtain ⟨c,hc⟩:=I.ok.has x (.inl hk)
    obtain ⟨w',z⟩:=I.cell x c hc
    refine wpAny_storeName_cell I.ok.kind hk hc z (fun h' hc' hs => ?_)
    obtain ⟨oc,hoc,hocd⟩:=id z
    refine h { s with heap:=h' } ⟨I.ok,I.os,I.bare,⟨fun b o e n hb hx => ?_,fun b o e n hb hx => ?_,I.base.free,fun b o e hx => ?_,I.base.tups,I.base.frzs,I.base.tbls⟩,⟨m,hn.sameBut hs (Ne.symm (cne x c hc)),fun j y v' e1 e2 e3 => ?_⟩,fun y c' e => ?_,I.free,I.freeC,fun p hp => ?_,tracked ⟨oc,hoc,I.freeC x c hc⟩ hs,by simpa using I.len⟩ ⟨c,hs, .inr hc⟩
    · exact (hs.2 b (Nat.ne_of_lt (Nat.lt_of_lt_of_le (Heap.lt_size e) (I.ok.cab x c hfn hc)))).trans (I.base.keep b o e n hb hx)
    · obtain ⟨sl,e1⟩:=I.base.slot b o e n hb hx
      exact ⟨sl,(hs.2 b (Nat.ne_of_lt (Nat.lt_of_lt_of_le (Heap.lt_size e) (I.ok.cab x c hfn hc)))).trans e1⟩
    · obtain ⟨o',e1⟩:=I.base.there b o e hx
      exact ⟨o',(hs.2 b (Nat.ne_of_lt (Nat.lt_of_lt_of_le (Heap.lt_size e) (I.ok.cab x c hfn hc)))).trans e1⟩
    · by_cases hj:j = i
      · subst hj
        rw [hi] at e1;cases e1
        rw [List.getElem?_set_self hiσ] at e2
        cases e2
        exact ⟨u,r, .inr ⟨.inl hk,c,hc,hc'⟩⟩
      · rw [List.getElem?_set_ne (Ne.symm hj)] at e2
        obtain ⟨u',r',q⟩:=hl j y v' e1 e2 e3
        refine ⟨u',r', ?_⟩
        rcases q with q | ⟨k,c',e,z'⟩
        · exact .inl q
        · refine .inr ⟨k,c',e,z'.sameBut hs ?_⟩
          rintro rfl
          exact hj (nodup_ix hN e1 (I.ok.inj _ _ _ e hc ▸ hi))
    · by_cases hcc:c' = c
      · subst hcc;exact ⟨_,hc'⟩
      · obtain ⟨w2,z2⟩:=I.cell y c' e
        exact ⟨w2,z2.sameBut hs hcc⟩
    · obtain ⟨e,n,ne,nf,d⟩:=I.pin p hp
      refine ⟨(hs.2 p.1 ?_).trans e,n,ne,nf,d⟩
      intro q
      rw [q,hoc] at e
      have q':oc = p.2:=Option.some.inj e
      exact d w' (by rw [← q'];exact hocd)
theorem store_ok {M:Model} {A:Around} {E:Value → Shared → Prop} {i:Nat} {x:Str} {v:V} {u:Value} {Q:Unit → Shared → Prop} (I:Inv X pins σ H s) (hN:X.N.Nodup) (hi:X.N[i]? = some x) (hx:Loc X.env.scope x) (r:RelV v u)
    (h:∀ s',Inv X pins (σ.set i (some v)) H s' → Q () s') (hf:X.fn x = true ∨ X.env.scope.names.lookup x = some .local:=by first | exact .inl rfl | exact .inr rfl | assumption):wpAny M A (storeName X.env x u) Q E s :=
  store_ok2 I hN hi hx r (fun s' I' _=>h s' I') hf
theorem Inv.call' {s':Shared} {ch:List Addr} (I:Inv X pins σ H s) (ho:s'.os = s.os) (u:Un (frs X.stack) ch H H' s.heap s'.heap) (hok:HOk X.prog X.w H' s'.heap) (hg:AllBare s'.gens)
    (hch:∀ b ∈ ch,(b ∈ X.ex ∨ X.s_0.heap.objs.size ≤ b) ∧ b ≠ X.env.locals ∧ (∀ x c,X.env.cells.lookup x = some c → c ≠ b) ∧ ∀ p ∈ X.pn ++ pins,p.1 ≠ b):Inv X pins σ H' s':=by
  obtain ⟨h',g',d',t',o'⟩:=s'
  have e:o' = s.os:=ho
  subst e
  exact I.call (g':=g') (t':=t') (d':=d') u hok hg hch
end
abbrev XK:=Value → Option Addr → Hp → Prop
abbrev St:=List (Option V)
abbrev VK:=V → Hp → Prop
abbrev TE:=St → Hp → VK → Prop
abbrev TT:=St → Hp → (Bool → Hp → Prop) → Prop
abbrev TA:=St → Hp → (List V → Hp → Prop) → Prop
structure Ends where
  nx:St → Hp → Prop
  rt:VK
  bk:St → Hp → Prop:=fun _ _=>False
  ct:St → Hp → Prop:=fun _ _=>False
abbrev TS:=Ends → St → Hp → Prop
def EP (X:Cx) (pins:List (Addr × Obj)) (σ : St) (Q:VK) (u:Value) (s':Shared):Prop := ∃ v H',Inv X pins σ H' s' ∧ RelV v u ∧ Q v H'
def TP (X:Cx) (pins:List (Addr × Obj)) (σ : St) (Q:Bool → Hp → Prop) (b:Bool) (s':Shared):Prop := ∃ H',Inv X pins σ H' s' ∧ Q b H'
def AP (X:Cx) (pins:List (Addr × Obj)) (σ : St) (Q:List V → Hp → Prop) (us:List Value) (s':Shared):Prop := ∃ vs H',Inv X pins σ H' s' ∧ Vals vs us ∧ Q vs H'
def SP (X:Cx) (pins:List (Addr × Obj)) (D:Ends) (f:Flow) (s':Shared):Prop :=
  match f with
  | .next => ∃ σ' H',Inv X pins σ' H' s' ∧ D.nx σ' H'
  | .brk => ∃ σ' H',Inv X pins σ' H' s' ∧ D.bk σ' H'
  | .cont => ∃ σ' H',Inv X pins σ' H' s' ∧ D.ct σ' H'
  | .ret u => ∃ v σ' H',Inv X pins σ' H' s' ∧ RelV v u ∧ D.rt v H'
def PE (X:Cx) (e:Expr) (t:TE):Prop :=
  ∀ (pins:List (Addr × Obj)) (s:Shared) (σ : St) (H:Hp) (Q:VK),Inv X pins σ H s → t σ H Q → wpAny (model X.prog X.w) X.A (eval e X.env) (EP X pins σ Q) X.xe s
def PT (X:Cx) (e:Expr) (t:TT):Prop :=
  ∀ (pins:List (Addr × Obj)) (s:Shared) (σ : St) (H:Hp) (Q:Bool → Hp → Prop),Inv X pins σ H s → t σ H Q → wpAny (model X.prog X.w) X.A (isTrue e X.env (eval e X.env)) (TP X pins σ Q) X.xe s
def PW (X:Cx) (e:Expr) (t:TT):Prop :=
  ∀ (whole:Sem Value) (pins:List (Addr × Obj)) (s:Shared) (σ : St) (H:Hp) (Q:Bool → Hp → Prop),Inv X pins σ H s → t σ H Q → wpAny (model X.prog X.w) X.A (isTrue e X.env whole) (TP X pins σ Q) X.xe s
theorem PW.pt {X:Cx} {e:Expr} {t:TT} (h:PW X e t):PT X e t:=h _
def PA (X:Cx) (es:List Expr) (t:TA):Prop :=
  ∀ (pos:Pos) (pins:List (Addr × Obj)) (s:Shared) (σ : St) (H:Hp) (Q:List V → Hp → Prop),Inv X pins σ H s → t σ H Q → wpAny (model X.prog X.w) X.A (spliced (backTo pos (starEach es X.env))) (AP X pins σ Q) X.xe s
def PS (X:Cx) (st:Stmt) (t:TS):Prop :=
  ∀ (pins:List (Addr × Obj)) (s:Shared) (σ : St) (H:Hp) (D:Ends),Inv X pins σ H s → t D σ H → wpAny (model X.prog X.w) X.A (exec st X.env) (SP X pins D) X.xe s
def PSs (X:Cx) (st:List Stmt) (t:TS):Prop :=
  ∀ (pins:List (Addr × Obj)) (s:Shared) (σ : St) (H:Hp) (D:Ends),Inv X pins σ H s → t D σ H → wpAny (model X.prog X.w) X.A (execs st X.env) (SP X pins D) X.xe s
theorem thn {α : Type} {t:Sem α} {Q Q' : α → Shared → Prop} {M:Model} {A:Around} {E:Value → Shared → Prop} {s:Shared} (h:wpAny M A t Q E s) (hQ:∀ a s,Q a s → Q' a s):wpAny M A t Q' E s:=wpAny_mono h hQ fun _ _ x=>x
end L2
namespace L2
open PySem PySem.Spec PyProof.Rows
section
variable {X:Cx}
theorem bin {a b:Expr} {ta tb:TE} (ha:PE X a ta) (hb:PE X b tb) {pins:List (Addr × Obj)} {s:Shared} {σ : St} {H:Hp} {R:V → V → Hp → Prop} (I:Inv X pins σ H s) (h:ta σ H fun x H1=>tb σ H1 fun y H2=>R x y H2)
    {α : Type} {Q : α → Shared → Prop} {f:Value → Value → Sem α}
    (hf:∀ v u s2 x y H2,Inv X pins σ H2 s2 → RelV x v → RelV y u → R x y H2 → wpAny (model X.prog X.w) X.A (f v u) Q X.xe s2) :
    wpAny (model X.prog X.w) X.A (eval a X.env) (fun v s₁ => wpAny (model X.prog X.w) X.A (eval b X.env) (fun u s₂ => wpAny (model X.prog X.w) X.A (f v u) Q X.xe s₂) X.xe s₁) X.xe s:=by
  refine thn (ha pins s σ H _ I h) fun v s1 ⟨x,H1,I1,r1,q1⟩ => ?_
  refine thn (hb pins s1 σ H1 _ I1 q1) fun u s2 ⟨y,H2,I2,r2,q2⟩ => ?_
  exact hf v u s2 x y H2 I2 r1 r2 q2
def tVar (i:Nat):TE:=fun σ H Q => ∃ v, σ[i]? = some (some v) ∧ Q v H
def tC (v:V):TE:=fun _ H Q=>Q v H
theorem pe_var {i:Nat} {x:Str} {pos:Pos} (hN:X.N[i]? = some x) (hv:Vis X.env.scope x) (hd:(x == ("__debug__" : Str)) = false:=by decide) (hcd:(x == ("__classdict__" : Str)) = false:=by decide):PE X (.Name x pos) (tVar i):=by
  intro pins s σ H Q I h
  obtain ⟨v,e,h⟩:=h
  obtain ⟨m,hn,hl⟩:=I.loc
  obtain ⟨u,r,l⟩:=hl i x v hN e hv
  have fin:EP X pins σ Q u s:=⟨v,H,I,r,h⟩
  rcases l with ⟨hk,hm⟩ | ⟨hk,c,hc,hcell⟩
  · exact wpAny_Name (wpAny_loadName_local I.ok.kind hk hn hm fin) hd
  · rcases hk with hk | hk
    · exact wpAny_Name (wpAny_loadName_cell I.ok.kind hk hc hcell fin) hd
    · exact wpAny_Name (wpAny_loadName_free I.ok.kind hk hc hcell fin hcd) hd
theorem pe_int {i j pos} : PE X (.Constant (.int i) j pos) (tC (.int i)):=fun _ _ _ H _ I h=>wpAny_Constant_int ⟨.int i,H,I.tok _,⟨_,rfl⟩,h⟩
theorem pe_bl {b j pos} : PE X (.Constant (.bool b) j pos) (tC (.bl b)):=fun _ _ _ H _ I h=>Constant_bool ⟨.bl b,H,I,rfl,h⟩
theorem pe_non {j pos} : PE X (.Constant .none j pos) (tC .non):=fun _ _ _ H _ I h=>Constant_none ⟨.non,H,I,rfl,h⟩
def Gl (X:Cx) (x:Str):Prop:=X.env.kindOf x = some .globalImplicit
theorem ld_glob {E:Value → Shared → Prop} {pins:List (Addr × Obj)} {s:Shared} {σ : St} {H:Hp} {x:Str} {u:Value} {pos:Pos} {Q:Value → Shared → Prop} (I:Inv X pins σ H s) (hg:Gl X x) (hm:X.mg x = some u) (h:Q u s)
    (hd:(x == ("__debug__" : Str)) = false:=by decide):wpAny (model X.prog X.w) X.A (eval (.Name x pos) X.env) Q E s :=
  Calls.Name_function_global I.ok.kind hg (Calls.loadGlobal_global (by rw [I.ok.glob];exact I.mod.glob.keeps I.bk) hm h) hd
theorem ld_blt {E:Value → Shared → Prop} {pins:List (Addr × Obj)} {s:Shared} {σ : St} {H:Hp} {x:Str} {u:Value} {pos:Pos} {Q:Value → Shared → Prop} (I:Inv X pins σ H s) (hg:Gl X x) (hm:X.mg x = none) (hv:bootBuiltins x = some u) (h:Q u s)
    (hn:x ≠ "__name__":=by decide) (hd:(x == ("__debug__" : Str)) = false:=by decide):wpAny (model X.prog X.w) X.A (eval (.Name x pos) X.env) Q E s:=by
  obtain ⟨mb,h1,h2⟩:=I.mod.blt
  exact Calls.Name_function_global I.ok.kind hg (Calls.loadGlobal_builtin (by rw [I.ok.glob];exact I.mod.glob.keeps I.bk) hm (by rw [I.ok.blt];exact h1.keeps I.bk) ((h2 x hn).trans hv) h) hd
theorem pe_glob {x:Str} {v:V} {u:Value} {pos:Pos} (hg:Gl X x) (hm:X.mg x = some u) (r:RelV v u) (hd:(x == ("__debug__" : Str)) = false:=by decide):PE X (.Name x pos) (tC v) :=
  fun _ _ _ H _ I h=>ld_glob I hg hm ⟨v,H,I,r,h⟩ hd
def t2I (ta tb:TE) (k:Int → Int → Hp → Prop):St → Hp → Prop:=fun σ H=>ta σ H fun x H1=>tb σ H1 fun y H2 => ∃ i j,x = .int i ∧ y = .int j ∧ k i j H2
variable {a b:Expr} {ta tb:TE} {pos:Pos}
def PC (X:Cx) (op:CmpOp) (a b:Expr) (t:TE):Prop :=
  ∀ (pins:List (Addr × Obj)) (s:Shared) (σ : St) (H:Hp) (Q:VK),Inv X pins σ H s → t σ H Q →
    wpAny (model X.prog X.w) X.A (eval a X.env) (fun v s₁ => wpAny (model X.prog X.w) X.A (eval b X.env) (fun u s₂ => wpAny (model X.prog X.w) X.A (compareOp op v u) (EP X pins σ Q) X.xe s₂) X.xe s₁) X.xe s
theorem nobehind (b:Expr) {op:CmpOp} (h:op ≠ .In) (h2:op ≠ .NotIn):behindInMarks op b = false:=by
  have e1:(op == CmpOp.In) = false:=by cases op <;> first | rfl | exact absurd rfl h
  have e2:(op == CmpOp.NotIn) = false:=by cases op <;> first | rfl | exact absurd rfl h2
  cases b <;> simp [behindInMarks,e1,e2]
def tCmp (p:Int → Int → Bool) (ta tb:TE):TE:=fun σ H Q=>t2I ta tb (fun i j H2=>Q (.bl (p i j)) H2) σ H
abbrev tLt:TE → TE → TE:=tCmp fun i j=>decide (i < j)
abbrev tLe:TE → TE → TE:=tCmp fun i j=>decide (i ≤ j)
abbrev tGt:TE → TE → TE:=tCmp fun i j=>decide (j < i)
abbrev tGe:TE → TE → TE:=tCmp fun i j=>decide (j ≤ i)
abbrev tEqI:TE → TE → TE:=tCmp fun i j=>decide (i = j)
abbrev tNeI:TE → TE → TE:=tCmp fun i j => !decide (i = j)
theorem pc_int {op:CmpOp} {p:Int → Int → Bool} (ha:PE X a ta) (hb:PE X b tb)
    (rule:∀ (i j:Int) (t u:Tok) (Q:Value → Shared → Prop) (s:Shared),Q (.bool (p i j)) s → wpAny (model X.prog X.w) X.A (compareOp op (.int i t) (.int j u)) Q X.xe s):PC X op a b (tCmp p ta tb):=by
  intro pins s σ H Q I h
  refine bin ha hb I h fun v u s2 x y H2 I2 rx ry q => ?_
  obtain ⟨i,j,rfl,rfl,q⟩:=q
  obtain ⟨t,rfl⟩:=rx
  obtain ⟨t',rfl⟩:=ry
  exact rule i j t t' _ s2 ⟨.bl _,H2,I2,rfl,q⟩
theorem pc_lt (ha:PE X a ta) (hb:PE X b tb):PC X .Lt a b (tLt ta tb):=pc_int ha hb fun _ _ _ _ _ _ h=>lt_int h
theorem pc_le (ha:PE X a ta) (hb:PE X b tb):PC X .LtE a b (tLe ta tb):=pc_int ha hb fun _ _ _ _ _ _ h=>le_int h
theorem pc_gt (ha:PE X a ta) (hb:PE X b tb):PC X .Gt a b (tGt ta tb):=pc_int ha hb fun _ _ _ _ _ _ h=>gt_int h
theorem pc_ge (ha:PE X a ta) (hb:PE X b tb):PC X .GtE a b (tGe ta tb):=pc_int ha hb fun _ _ _ _ _ _ h=>ge_int h
theorem pc_eqI (ha:PE X a ta) (hb:PE X b tb):PC X .Eq a b (tEqI ta tb):=pc_int ha hb fun _ _ _ _ _ _ h=>eq_int (by rw [Bool.beq_eq_decide_eq];exact h)
theorem pc_neI (ha:PE X a ta) (hb:PE X b tb):PC X .NotEq a b (tNeI ta tb):=pc_int ha hb fun _ _ _ _ _ _ h=>ne_int (by rw [bne,Bool.beq_eq_decide_eq];exact h)
def tIsN (ta:TE):TE:=fun σ H Q=>ta σ H fun x H1=>Q (.bl (decide (x = .non))) H1
def tNotN (ta:TE):TE:=fun σ H Q=>ta σ H fun x H1=>Q (.bl (!decide (x = .non))) H1
theorem RelV.none_iff {x:V} {v:Value} (r:RelV x v):(v == Value.none) = decide (x = .non):=by
  cases x with
  | non=>cases r;rfl
  | bl _=>cases r;rfl
  | int _=>obtain ⟨t,rfl⟩:=r;rfl
  | str _=>obtain ⟨t,rfl⟩:=r;rfl
  | byt _=>obtain ⟨t,rfl⟩:=r;rfl
  | flt _=>obtain ⟨t,rfl⟩:=r;rfl
  | ref _=>cases r;rfl
  | ty _=>cases r;rfl
theorem pc_isN {j pos'} (ha:PE X a ta):PC X .Is a (.Constant .none j pos') (tIsN ta):=by
  intro pins s σ H Q I h
  refine thn (ha pins s σ H _ I h) fun v s1 ⟨x,H1,I1,r1,q1⟩ => ?_
  exact Constant_none (is_none_gen ⟨.bl _,H1,I1,by rw [r1.none_iff];rfl,q1⟩)
theorem pc_notN {j pos'} (ha:PE X a ta):PC X .IsNot a (.Constant .none j pos') (tNotN ta):=by
  intro pins s σ H Q I h
  refine thn (ha pins s σ H _ I h) fun v s1 ⟨x,H1,I1,r1,q1⟩ => ?_
  exact Constant_none (isnot_none_gen ⟨.bl _,H1,I1,by rw [r1.none_iff];rfl,q1⟩)
def tB (t:TE):TT:=fun σ H Q=>t σ H fun x H1 => ∃ c,x = .bl c ∧ Q c H1
theorem pe_cmp {op:CmpOp} {t:TE} (h:PC X op a b t) (h1:behindInMarks op b = false:=by first | exact nobehind _ (by decide) (by decide) | rfl):PE X (.Compare a [op] [b] pos) t:=fun pins s σ H Q I hw=>wpAny_Compare1 (h pins s σ H Q I hw) h1
theorem pt_cmp {op:CmpOp} {t:TE} (h:PC X op a b t) (h1:behindInMarks op b = false:=by first | exact nobehind _ (by decide) (by decide) | rfl):PT X (.Compare a [op] [b] pos) (tB t):=by
  intro pins s σ H Q I hw
  refine wpAny_isTrue_Compare1 (thn (h pins s σ H _ I hw) fun v s1 h1=>thn h1 fun u s2 h2=>thn h2 fun c s3 ⟨x,H1,I1,r1,q1⟩ => ?_) h1
  obtain ⟨d,rfl,q⟩:=q1
  cases r1
  exact wpAny_truthy_bool ⟨H1,I1,q⟩
variable {tA tB':TT} {rest:List Expr}
def tAnd (t u:TT):TT:=fun σ H Q=>t σ H fun c H1=>if c = true then u σ H1 Q else Q false H1
def tOr (t u:TT):TT:=fun σ H Q=>t σ H fun c H1=>if c = true then Q true H1 else u σ H1 Q
def tNot (t:TT):TT:=fun σ H Q=>t σ H fun c H1=>Q (!c) H1
theorem pw_and1 (ha:PT X a tA):PW X (.BoolOp .And [a] pos) tA:=by
  intro wh pins s σ H Q I h
  refine isTrue_and (thn (ha pins s σ H Q I h) fun c s1 e => ?_)
  cases c with
  | true=>exact isTrue_and_nil e
  | false=>exact e
theorem pw_or1 (ha:PT X a tA):PW X (.BoolOp .Or [a] pos) tA:=by
  intro wh pins s σ H Q I h
  refine isTrue_or (thn (ha pins s σ H Q I h) fun c s1 e => ?_)
  cases c with
  | false=>exact isTrue_or_nil e
  | true=>exact e
theorem pw_and (ha:PT X a tA) (hb:PW X (.BoolOp .And (b :: rest) pos) tB'):PW X (.BoolOp .And (a :: b :: rest) pos) (tAnd tA tB'):=by
  intro wh pins s σ H Q I h
  refine isTrue_and (thn (ha pins s σ H _ I h) fun c s1 ⟨H1,I1,q1⟩ => ?_)
  cases c with
  | true=>exact hb wh pins s1 σ H1 Q I1 q1
  | false=>exact ⟨H1,I1,q1⟩
theorem pw_or (ha:PT X a tA) (hb:PW X (.BoolOp .Or (b :: rest) pos) tB'):PW X (.BoolOp .Or (a :: b :: rest) pos) (tOr tA tB'):=by
  intro wh pins s σ H Q I h
  refine isTrue_or (thn (ha pins s σ H _ I h) fun c s1 ⟨H1,I1,q1⟩ => ?_)
  cases c with
  | true=>exact ⟨H1,I1,q1⟩
  | false=>exact hb wh pins s1 σ H1 Q I1 q1
theorem pt_not (ha:PT X a tA):PT X (.UnaryOp .Not a pos) (tNot tA):=by
  intro pins s σ H Q I h
  exact isTrue_not (ha pins s σ H (fun c H1=>Q (!c) H1) I h)
def tAndV (ta tb:TE):TE:=fun σ H Q=>ta σ H fun x H1 => ∃ c,x = .bl c ∧ if c = true then tb σ H1 Q else Q (.bl false) H1
def tOrV (ta tb:TE):TE:=fun σ H Q=>ta σ H fun x H1 => ∃ c,x = .bl c ∧ if c = true then Q (.bl true) H1 else tb σ H1 Q
def tNotV (ta:TE):TE:=fun σ H Q=>ta σ H fun x H1 => ∃ c,x = .bl c ∧ Q (.bl (!c)) H1
theorem pe_one {op} {t:TE} (h:PE X a t):PE X (.BoolOp op [a] pos) t:=fun pins s σ H Q I hw=>BoolOp_one (h pins s σ H Q I hw)
theorem pe_and (ha:PE X a ta) (hb:PE X (.BoolOp .And (b :: rest) pos) tb):PE X (.BoolOp .And (a :: b :: rest) pos) (tAndV ta tb):=by
  intro pins s σ H Q I h
  refine BoolOp_and (thn (ha pins s σ H _ I h) fun v s1 ⟨x,H1,I1,r1,q1⟩ => ?_)
  obtain ⟨c,rfl,q1⟩:=q1
  cases r1
  refine wpAny_truthy_bool ?_
  cases c with
  | true=>exact hb pins s1 σ H1 Q I1 q1
  | false=>exact ⟨.bl false,H1,I1,rfl,q1⟩
def tIf (t:TT) (ta tb:TE):TE:=fun σ H Q=>t σ H fun c H1=>if c = true then ta σ H1 Q else tb σ H1 Q
theorem pe_ifExp {c:Expr} (hc:PT X c tA) (ha:PE X a ta) (hb:PE X b tb):PE X (.IfExp c a b pos) (tIf tA ta tb):=by
  intro pins s σ H Q I h
  refine wpAny_IfExp (thn (hc pins s σ H _ I h) fun d s1 ⟨H1,I1,q1⟩ => ?_)
  cases d with
  | true=>exact ha pins s1 σ H1 Q I1 q1
  | false=>exact hb pins s1 σ H1 Q I1 q1
end
end L2
namespace L2
open PySem PySem.Spec PyProof.Rows
def SqL (K:PySem.W.Frag) (H:Hp) (a:Addr) (xs:List V):Prop :=
  Rd H a (.lst xs) ∨
    ∃ (o:Obj) (its:Array Value) (n:Nat),K.lookup a = some o ∧ o.cls = .type "list" ∧ o.dict = none ∧ o.data = .seq its n ∧ its.size ≤ sizeLine ∧ Vals xs its.toList
def SqT (K:PySem.W.Frag) (H:Hp) (a:Addr) (xs:List V):Prop :=
  Rd H a (.tup xs) ∨
    ∃ (o:Obj) (its:Array Value) (n:Nat),K.lookup a = some o ∧ o.cls = .type "tuple" ∧ o.data = .seq its n ∧ its.size ≤ sizeLine ∧ Vals xs its.toList
def absV:Value → Option V
  | .none=>some .non
  | .bool b=>some (.bl b)
  | .int i _=>some (.int i)
  | .str x _=>some (.str x)
  | .bytes b _=>some (.byt b)
  | .float b _=>some (.flt b)
  | .ref a=>some (.ref a)
  | .type n=>some (.ty n)
  | _=>none
theorem RelV.abs {x:V} {u:Value} (r:RelV x u):absV u = some x:=by
  cases x with
  | non=>cases r;rfl
  | bl _=>cases r;rfl
  | int _=>obtain ⟨t,rfl⟩:=r;rfl
  | str _=>obtain ⟨t,rfl⟩:=r;rfl
  | byt _=>obtain ⟨t,rfl⟩:=r;rfl
  | flt _=>obtain ⟨t,rfl⟩:=r;rfl
  | ref _=>cases r;rfl
  | ty _=>cases r;rfl
theorem RelV.inj {x y:V} {u:Value} (r:RelV x u) (q:RelV y u):x = y:=Option.some.inj (r.abs.symm.trans q.abs)
theorem Vals.inj:∀ {xs ys:List V} {us:List Value},Vals xs us → Vals ys us → xs = ys
  | _,_,_, .nil, .nil=>rfl
  | _,_,_, .cons r t, .cons r' t'=>by rw [r.inj r',Vals.inj t t']
section
variable {X:Cx} {pins:List (Addr × Obj)} {σ : St} {H:Hp} {s:Shared} {a:Addr} {xs ys:List V}
theorem SqL.of {K:PySem.W.Frag} (h:H a = some (.lst xs)):SqL K H a xs := .inl (.inl h)
theorem SqT.of {K:PySem.W.Frag} (h:H a = some (.tup xs)):SqT K H a xs := .inl (.inl h)
theorem Inv.list (I:Inv X pins σ H s) (h:SqL X.K H a xs):∃ its:List Value,Vals xs its ∧ PlainL s.heap a its.toArray ∧ xs.length ≤ sizeLine:=by
  rcases h with h | ⟨o,its,n,hk,hc,hd,hs,hz,r⟩
  · obtain ⟨z,its,n,r,e⟩:=h.ok I.hok
    exact ⟨its,r,⟨_,n,e,rfl,rfl,rfl⟩,z⟩
  · refine ⟨its.toList,r,⟨o,n,I.kIn a o hk,hc,hd,by simpa using hs⟩, ?_⟩
    have e:=r.length
    simp only [Array.length_toList] at e
    omega
theorem Inv.tuple (I:Inv X pins σ H s) (h:SqT X.K H a xs):∃ its:List Value,Vals xs its ∧ IsTup s.heap a its.toArray ∧ xs.length ≤ sizeLine:=by
  rcases h with h | ⟨o,its,n,hk,hc,hs,hz,r⟩
  · obtain ⟨z,its,r,p⟩:=h.ok I.hok
    exact ⟨its,r,p,z⟩
  · refine ⟨its.toList,r,⟨o,I.kIn a o hk,hc,n,by simpa using hs⟩, ?_⟩
    have e:=r.length
    simp only [Array.length_toList] at e
    omega
theorem Inv.list_inj (I:Inv X pins σ H s) (h:SqL X.K H a xs) (h':SqL X.K H a ys):xs = ys:=by
  obtain ⟨its,r,⟨o,n,e,_,_,d⟩,_⟩:=I.list h
  obtain ⟨its',r',⟨o',n',e',_,_,d'⟩,_⟩:=I.list h'
  rw [e] at e';cases e'
  rw [d] at d'
  injection d' with d1 _
  have:its = its':=by simpa using congrArg Array.toList d1
  subst this
  exact r.inj r'
theorem Inv.tuple_inj (I:Inv X pins σ H s) (h:SqT X.K H a xs) (h':SqT X.K H a ys):xs = ys:=by
  obtain ⟨its,r,⟨o,e,_,n,d⟩,_⟩:=I.tuple h
  obtain ⟨its',r',⟨o',e',_,n',d'⟩,_⟩:=I.tuple h'
  rw [e] at e';cases e'
  rw [d] at d'
  injection d' with d1 _
  have:its = its':=by simpa using congrArg Array.toList d1
  subst this
  exact r.inj r'
end
abbrev Cx.wish (X:Cx) (E:Value → Shared → Prop):Cx:={ X with xe:=E }
abbrev Cx.nox (X:Cx):Cx:=X.wish fun _ _=>False
theorem Cx.Ok.wish {X:Cx} (ok:X.Ok) (E:Value → Shared → Prop):(X.wish E).Ok :=
  ⟨ok.mod,ok.kind,ok.glob,ok.blt,ok.above,ok.inj,ok.has,ok.cab,ok.hd,ok.frames,ok.stk,ok.exf,ok.bs,ok.bsz,ok.noex,ok.exfs,ok.funs,ok.frf⟩
theorem Cx.Ok.unwish {X:Cx} {E:Value → Shared → Prop} (ok:(X.wish E).Ok):X.Ok :=
  ⟨ok.mod,ok.kind,ok.glob,ok.blt,ok.above,ok.inj,ok.has,ok.cab,ok.hd,ok.frames,ok.stk,ok.exf,ok.bs,ok.bsz,ok.noex,ok.exfs,ok.funs,ok.frf⟩
section
variable {X:Cx} {pins:List (Addr × Obj)} {σ : St} {H:Hp} {s:Shared} {E:Value → Shared → Prop}
theorem Inv.wish (I:Inv X pins σ H s) (E:Value → Shared → Prop):Inv (X.wish E) pins σ H s:=⟨I.ok.wish E,I.os,I.bare,I.base,I.loc,I.cell,I.free,I.freeC,I.pin,I.hok,I.len⟩
theorem Inv.unwish (I:Inv (X.wish E) pins σ H s):Inv X pins σ H s:=⟨I.ok.unwish,I.os,I.bare,I.base,I.loc,I.cell,I.free,I.freeC,I.pin,I.hok,I.len⟩
theorem SP.unwish {D:Ends} {f:Flow} {s':Shared} (h:SP (X.wish E) pins D f s'):SP X pins D f s':=by
  cases f with
  | next=>obtain ⟨σ',H',I,q⟩:=h;exact ⟨σ',H',I.unwish,q⟩
  | brk=>obtain ⟨σ',H',I,q⟩:=h;exact ⟨σ',H',I.unwish,q⟩
  | cont=>obtain ⟨σ',H',I,q⟩:=h;exact ⟨σ',H',I.unwish,q⟩
  | ret u=>obtain ⟨v, σ',H',I,r,q⟩:=h;exact ⟨v, σ',H',I.unwish,r,q⟩
theorem PSs.nox {st:List Stmt} {t:TS} (h:PSs X.nox st t):PSs X st t:=fun pins s σ H D I hw =>
  wpAny_mono (h pins s σ H D (I.wish _) hw) (fun _ _ q=>q.unwish) fun _ _ z=>False.elim z
end
section
variable {X:Cx} {st:Stmt} {rest:List Stmt} {t u:TS} {e:Expr} {te:TE} {pos:Pos}
def tNext:TS:=fun D σ H=>D.nx σ H
def tSeq (t u:TS):TS:=fun D σ H=>t { D with nx:=u D } σ H
theorem pss_nil:PSs X [] tNext:=fun _ _ σ H _ I h=>wpAny_execs_nil ⟨σ,H,I,h⟩
theorem pss_cons (h1:PS X st t) (h2:PSs X rest u):PSs X (st :: rest) (tSeq t u):=by
  intro pins s σ H D I h
  refine wpAny_execs_cons (thn (h1 pins s σ H { D with nx:=u D } I h) fun f s1 q => ?_)
  cases f with
  | next =>
    obtain ⟨σ',H',I',q⟩:=q
    exact h2 pins s1 σ' H' D I' q
  | ret v=>exact q
  | brk=>exact q
  | cont=>exact q
theorem pss_one (h1:PS X st t):PSs X [st] t:=by
  intro pins s σ H D I h
  refine wpAny_execs_cons (thn (h1 pins s σ H D I h) fun f s1 q => ?_)
  cases f with
  | next=>exact wpAny_execs_nil q
  | ret v=>exact q
  | brk=>exact q
  | cont=>exact q
def tCont:TS:=fun D σ H=>D.ct σ H
theorem ps_continue:PS X (.Continue pos) tCont:=fun _ _ σ H _ I h=>wpAny_Continue ⟨σ,H,I,h⟩
theorem Inv.quiet {pins:List (Addr × Obj)} {σ : St} {H:Hp} {s:Shared} (I:Inv X pins σ H s):interactive X.env = false:=by simp [interactive,I.ok.kind]
def tDrop (te:TE):TS:=fun D σ H=>te σ H fun _ H1=>D.nx σ H1
theorem ps_expr (he:PE X e te) (hs:swapsWith e none pos.line X.env = pure false:=by rfl):PS X (.Expr e pos) (tDrop te):=by
  intro pins s σ H D I h
  exact wpAny_Expr_any (thn (he pins s σ H _ I h) fun v s1 ⟨x,H1,I1,r1,q1⟩=>⟨σ,H1,I1,q1⟩) I.quiet hs
def tRet (te:TE):TS:=fun D σ H=>te σ H D.rt
theorem ps_ret (he:PE X e te):PS X (.Return (some e) pos) (tRet te):=by
  intro pins s σ H D I h
  exact wpAny_Return_some (thn (he pins s σ H _ I h) fun v s1 ⟨x,H1,I1,r1,q1⟩=>⟨x, σ,H1,I1,r1,q1⟩)
def tRetN:TS:=fun D _ H=>D.rt .non H
def tIfS (c:TT) (t u:TS):TS:=fun D σ H=>c σ H fun b H1=>if b = true then t D σ H1 else u D σ H1
theorem ps_if {c:Expr} {a b:List Stmt} {tc:TT} (hc:PT X c tc) (ha:PSs X a t) (hb:PSs X b u):PS X (.If c a b pos) (tIfS tc t u):=by
  intro pins s σ H D I h
  refine wpAny_If (thn (hc pins s σ H _ I h) fun d s1 ⟨H1,I1,q1⟩ => ?_)
  cases d with
  | true=>exact ha pins s1 σ H1 D I1 q1
  | false=>exact hb pins s1 σ H1 D I1 q1
end
abbrev TG:=V → St → Hp → (St → Hp → Prop) → Prop
abbrev TGs:=List V → St → Hp → (St → Hp → Prop) → Prop
def PG (X:Cx) (target:Expr) (t:TG):Prop :=
  ∀ (pins:List (Addr × Obj)) (s:Shared) (σ : St) (H:Hp) (v:V) (u:Value) (Q:St → Hp → Prop),Inv X pins σ H s → RelV v u → t v σ H Q →
    wpAny (model X.prog X.w) X.A (assign target X.env u) (fun _ s' => ∃ σ' H',Inv X pins σ' H' s' ∧ Q σ' H') X.xe s
def PGs (X:Cx) (ts:List Expr) (t:TGs):Prop :=
  ∀ (pins:List (Addr × Obj)) (s:Shared) (σ : St) (H:Hp) (vs:List V) (us:List Value) (Q:St → Hp → Prop),Inv X pins σ H s → Vals vs us → t vs σ H Q →
    wpAny (model X.prog X.w) X.A (assignInOrder ((assignEach ts X.env).map (·.2)) us) (fun _ s' => ∃ σ' H',Inv X pins σ' H' s' ∧ Q σ' H') X.xe s
abbrev TSet:=V → V → V → Hp → (Hp → Prop) → Prop
def PSet (X:Cx) (t:TSet):Prop :=
  ∀ (pins:List (Addr × Obj)) (s:Shared) (σ : St) (H:Hp) (o i v:V) (ov iv u:Value) (Q:Hp → Prop),Inv X pins σ H s → RelV o ov → RelV i iv → RelV v u → t o i v H Q →
    wpAny (model X.prog X.w) X.A (setItem ov iv u) (fun _ s' => ∃ H',Inv X pins σ H' s' ∧ Q H') X.xe s
abbrev TIp:=V → V → Hp → VK → Prop
def PIp (X:Cx) (op:Operator) (t:TIp):Prop :=
  ∀ (pins:List (Addr × Obj)) (s:Shared) (σ : St) (H:Hp) (x y:V) (v u:Value) (Q:VK),Inv X pins σ H s → RelV x v → RelV y u → t x y H Q →
    wpAny (model X.prog X.w) X.A (inplaceOp op v u) (EP X pins σ Q) X.xe s
section
variable {X:Cx} {pos:Pos}
def gName (i:Nat):TG:=fun v σ H Q=>Q (σ.set i (some v)) H
theorem pg_name {i:Nat} {x:Str} (hN:X.N.Nodup) (hi:X.N[i]? = some x) (hx:Loc X.env.scope x) (hf:X.fn x = true ∨ X.env.scope.names.lookup x = some .local:=by first | exact .inl rfl | exact .inr rfl | assumption):PG X (.Name x pos) (gName i):=by
  intro pins s σ H v u Q I r h
  exact wpAny_assign_Name (store_ok I hN hi hx r (fun s' I'=>⟨_,H,I',h⟩) hf)
def gNil:TGs:=fun vs σ H Q=>vs = [] ∧ Q σ H
def gCons (t:TG) (u:TGs):TGs:=fun vs σ H Q => ∃ v r,vs = v :: r ∧ t v σ H fun σ' H'=>u r σ' H' Q
theorem pgs_nil:PGs X [] gNil:=by
  intro pins s σ H vs us Q I r h
  obtain ⟨e,h⟩:=h
  subst e
  cases r
  exact assignInOrder_nil ⟨σ,H,I,h⟩
theorem pgs_cons {e:Expr} {es:List Expr} {t:TG} {u:TGs} (h1:PG X e t) (h2:PGs X es u)
    (hs:(assignEach (e :: es) X.env).map (·.2) = assign e X.env :: (assignEach es X.env).map (·.2):=by rfl):PGs X (e :: es) (gCons t u):=by
  intro pins s σ H vs us Q I r h
  obtain ⟨v,vr,e1,h⟩:=h
  subst e1
  cases r with
  | cons r rr =>
    rw [hs]
    refine assignInOrder_cons (thn (h1 pins s σ H _ _ _ I r h) fun _ s1 ⟨σ1,H1,I1,q1⟩ => ?_)
    exact h2 pins s1 σ1 H1 _ _ Q I1 rr q1
def gTup (K:PySem.W.Frag) (n:Nat) (t:TGs):TG:=fun v σ H Q => ∃ a xs,v = .ref a ∧ SqT K H a xs ∧ xs.length = n ∧ t xs σ H Q
theorem pg_tup {es:List Expr} {k:Nat} {t:TGs} {n:Nat} (hc:X.calm = true) (h:PGs X es t)
    (hn:(assignEach es X.env).length = n:=by rfl) (hst:(assignEach es X.env).findIdx? (·.1) = none:=by rfl):PG X (.Tuple es k pos) (gTup X.K n t):=by
  intro pins s σ H v u Q I r hw
  obtain ⟨a,xs,e1,hq,hl,hw⟩:=hw
  subst e1
  cases r
  obtain ⟨its,rv,ht,hz⟩:=I.tuple hq
  refine assign_Tuple_tuple (I.ok.hd hc) ht (by simp [hn, ← hl,rv.length]) hst fun h' hx => ?_
  have I1:Inv X pins σ H { s with heap:=h' }:=I.kept (t':=s.toks) fun b o e=>hx b o (Nat.ne_of_lt (Heap.lt_size e)) e
  exact h pins _ σ H xs _ Q I1 (by simpa using rv) hw
def gSub (to ti:TE) (t:TSet):TG:=fun v σ H Q=>to σ H fun o H1=>ti σ H1 fun i H2=>t o i v H2 fun H3=>Q σ H3
theorem pg_sub {o i:Expr} {to ti:TE} {t:TSet} (ho:PE X o to) (hi:PE X i ti) (hs:PSet X t)
    (ha:∀ v,assign (.Subscript o i pos) X.env v = (do
      let ov ← holding [v] (eval o X.env)
      let iv ← holding [v,ov] (eval i X.env)
      standAt pos
      holding [v,ov,iv] (setItem ov iv v)
      release [v,ov,iv] []):=by intro _;rfl):PG X (.Subscript o i pos) (gSub to ti t):=by
  intro pins s σ H v u Q I r h
  rw [ha]
  refine wpAny_bind (wpAny_holding (thn (ho pins s σ H _ I h) fun ov s1 ⟨x,H1,I1,r1,q1⟩ => ?_))
  refine wpAny_bind (wpAny_holding (thn (hi pins s1 σ H1 _ I1 q1) fun iv s2 ⟨y,H2,I2,r2,q2⟩ => ?_))
  refine wpAny_bind (wpAny_standAt (wpAny_bind (wpAny_holding (thn (hs pins s2 σ H2 x y v ov iv u _ I2 r1 r2 r q2) fun _ s3 ⟨H3,I3,q3⟩ => ?_))))
  exact wpAny_release ⟨σ,H3,I3,q3⟩
def tAsg (te:TE) (g:TG):TS:=fun D σ H=>te σ H fun x H1=>g x σ H1 D.nx
theorem ps_asg {tg e:Expr} {te:TE} {g:TG} (he:PE X e te) (hg:PG X tg g) (hs:swapsWithSole [tg] e pos.line X.env = pure false:=by rfl) (hw:swappedStores [tg] e X.env = pure none:=by rfl)
    (h1:(assignEach [tg] X.env).map (·.2) = [assign tg X.env]:=by rfl):PS X (.Assign [tg] e pos) (tAsg te g):=by
  intro pins s σ H D I h
  refine wpAny_Assign_stores (thn (he pins s σ H _ I h) fun v s1 ⟨x,H1,I1,r1,q1⟩ => ?_) hs hw
  rw [h1]
  exact thn (hg pins s1 σ H1 x v _ I1 r1 q1) fun _ s2 q=>q
theorem ps_set {i:Nat} {x:Str} {e:Expr} {te:TE} {pos':Pos} (hN:X.N.Nodup) (hi:X.N[i]? = some x) (hx:Loc X.env.scope x) (he:PE X e te) (hs:swapsWith e (some (.Name x pos')) pos.line X.env = pure false:=by rfl) (hf:X.fn x = true ∨ X.env.scope.names.lookup x = some .local:=by first | exact .inl rfl | exact .inr rfl | assumption) :
    PS X (.Assign [.Name x pos'] e pos) (tAsg te (gName i)):=by
  intro pins s σ H D I h
  refine wpAny_Assign_Name (thn (he pins s σ H _ I h) fun v s1 ⟨y,H1,I1,r1,q1⟩ => ?_) hs
  exact store_ok I1 hN hi hx r1 (fun s2 I2=>⟨_,H1,I2,q1⟩) hf
def tAug (i:Nat) (te:TE) (ti:TIp):TS:=fun D σ H => ∃ x, σ[i]? = some (some x) ∧ te σ H fun y H1=>ti x y H1 fun z H2=>D.nx (σ.set i (some z)) H2
theorem ps_aug {i:Nat} {x:Str} {e:Expr} {te:TE} {op:Operator} {ti:TIp} {pos':Pos} (hN:X.N.Nodup) (hi:X.N[i]? = some x) (hx:Loc X.env.scope x) (he:PE X e te) (ho:PIp X op ti) (hf:X.fn x = true ∨ X.env.scope.names.lookup x = some .local:=by first | exact .inl rfl | exact .inr rfl | assumption) :
    PS X (.AugAssign (.Name x pos') op e pos) (tAug i te ti):=by
  intro pins s σ H D I h
  obtain ⟨v,e1,h⟩:=h
  obtain ⟨m,hn,hl⟩:=I.loc
  have vis:Vis X.env.scope x:=by rcases hx with k | k;exact .inl k;exact .inr (.inl k)
  obtain ⟨u,r,l⟩:=hl i x v hi e1 vis
  refine wpAny_AugAssign_Name ?_
  have go:wpAny (model X.prog X.w) X.A (eval e X.env) (fun w s₂ => wpAny (model X.prog X.w) X.A (inplaceOp op u w) (fun r s₃ => wpAny (model X.prog X.w) X.A (storeName X.env x r) (fun _=>SP X pins D .next) X.xe s₃) X.xe s₂) X.xe s:=by
    refine thn (he pins s σ H _ I h) fun w s1 ⟨y,H1,I1,r1,q1⟩ => ?_
    refine thn (ho pins s1 σ H1 v y u w _ I1 r r1 q1) fun z s2 ⟨zv,H2,I2,r2,q2⟩ => ?_
    exact store_ok I2 hN hi hx r2 (fun s3 I3=>⟨_,H2,I3,q2⟩) hf
  rcases l with ⟨hk,hm⟩ | ⟨hk,c,hc,hcell⟩
  · exact wpAny_loadName_local I.ok.kind hk hn hm go
  · rcases hk with hk | hk
    · exact wpAny_loadName_cell I.ok.kind hk hc hcell go
    · rcases hx with k | k
      · have:X.env.scope.names.lookup x = some .free:=hk
        rw [k] at this;cases this
      · have:X.env.scope.names.lookup x = some .free:=hk
        rw [k] at this;cases this
def tAugS (to ti te:TE) (tget:V → V → Hp → VK → Prop) (tip:TIp) (tset:TSet):TS:=fun D σ H=>to σ H fun o H1=>ti σ H1 fun i H2=>tget o i H2 fun x H3=>te σ H3 fun y H4=>tip x y H4 fun z H5=>tset o i z H5 fun H6=>D.nx σ H6
def PGet (X:Cx) (t:V → V → Hp → VK → Prop):Prop :=
  ∀ (pins:List (Addr × Obj)) (s:Shared) (σ : St) (H:Hp) (o i:V) (ov iv:Value) (Q:VK),Inv X pins σ H s → RelV o ov → RelV i iv → t o i H Q →
    wpAny (model X.prog X.w) X.A (getItem ov iv) (EP X pins σ Q) X.xe s
theorem ps_augS {o i e:Expr} {to ti te:TE} {tget:V → V → Hp → VK → Prop} {tip:TIp} {tset:TSet} {op:Operator} {tpos:Pos} (ho:PE X o to) (hi:PE X i ti) (hg:PGet X tget) (he:PE X e te) (hp:PIp X op tip) (hs:PSet X tset)
    (ha:∀ ov iv new,augStore i ov iv new = (do holding [new,ov,iv] (setItem ov iv new);release [new,ov,iv] [];pure .next):=by intros;rfl):PS X (.AugAssign (.Subscript o i tpos) op e pos) (tAugS to ti te tget tip tset):=by
  intro pins s σ H D I h
  refine wpAny_AugAssign_SubscriptAny (thn (ho pins s σ H _ I h) fun ov s1 ⟨x1,H1,I1,r1,q1⟩ => ?_) ha
  refine thn (hi pins s1 σ H1 _ I1 q1) fun iv s2 ⟨x2,H2,I2,r2,q2⟩ => ?_
  refine thn (hg pins s2 σ H2 x1 x2 ov iv _ I2 r1 r2 q2) fun old s3 ⟨x3,H3,I3,r3,q3⟩ => ?_
  refine thn (he pins s3 σ H3 _ I3 q3) fun v s4 ⟨x4,H4,I4,r4,q4⟩ => ?_
  refine thn (hp pins s4 σ H4 x3 x4 old v _ I4 r3 r4 q4) fun new s5 ⟨x5,H5,I5,r5,q5⟩ => ?_
  exact thn (hs pins s5 σ H5 x1 x2 x5 ov iv new _ I5 r1 r2 r5 q5) fun _ s6 ⟨H6,I6,q6⟩=>⟨σ,H6,I6,q6⟩
def ipI (f:Int → Int → Int):TIp:=fun x y H Q => ∃ i j,x = .int i ∧ y = .int j ∧ Q (.int (f i j)) H
theorem ip_add:PIp X .Add (ipI fun i j=>i + j):=by
  intro pins s σ H x y v u Q I r1 r2 h
  obtain ⟨i,j,e1,e2,q⟩:=h
  subst e1;subst e2
  obtain ⟨t,rfl⟩:=r1
  obtain ⟨t',rfl⟩:=r2
  exact iadd_int ⟨.int _,H,I.tok _,⟨_,rfl⟩,q⟩
theorem ip_sub:PIp X .Sub (ipI fun i j=>i - j):=by
  intro pins s σ H x y v u Q I r1 r2 h
  obtain ⟨i,j,e1,e2,q⟩:=h
  subst e1;subst e2
  obtain ⟨t,rfl⟩:=r1
  obtain ⟨t',rfl⟩:=r2
  exact isub_int ⟨.int _,H,I.tok _,⟨_,rfl⟩,q⟩
end
section
variable {X:Cx} {pos:Pos}
def tWhile (c:TT) (tb:TS):TS:=fun D σ H => ∃ W:Nat → St → Hp → Prop,(∃ m,W m σ H) ∧ ∀ m σ H,W m σ H →
  c σ H fun b H1=>if b = true then ∃ N:St → Hp → Prop,(∀ σ' H',N σ' H' → ∃ m',m' < m ∧ W m' σ' H') ∧ tb { D with nx:=N,ct:=N,bk:=D.nx } σ H1 else D.nx σ H1
theorem ps_while {c:Expr} {body:List Stmt} {tc:TT} {tb:TS} (hp:PassesOwn (model X.prog X.w) X.A X.env X.xe) (hc:PT X c tc) (hb:PSs X body tb):PS X (.While c body [] pos) (tWhile tc tb):=by
  intro pins s σ H D I h
  obtain ⟨W,⟨m0,w0⟩,turn⟩:=h
  refine wpAny_While (codeAny_whileLoop (fun n s' => ∃ σ' H',Inv X pins σ' H' s' ∧ W n σ' H') ?_ m0 ⟨σ,H,I,w0⟩)
  rintro n s1 ⟨σ1,H1,I1,w1⟩
  refine wpAny_passesOwn hp (thn (hc pins s1 σ1 H1 _ I1 (turn n σ1 H1 w1)) fun b s2 ⟨H2,I2,q2⟩ => ?_)
  cases b with
  | true =>
    obtain ⟨N,hN,q2⟩:=q2
    rw [if_pos rfl]
    refine wpAny_passesOwn hp (thn (hb pins s2 σ1 H2 _ I2 q2) fun f s3 q3 => ?_)
    cases f with
    | next =>
      obtain ⟨σ3,H3,I3,n3⟩:=q3
      obtain ⟨m',hm,w3⟩:=hN σ3 H3 n3
      exact ⟨m',hm, σ3,H3,I3,w3⟩
    | cont =>
      obtain ⟨σ3,H3,I3,n3⟩:=q3
      obtain ⟨m',hm,w3⟩:=hN σ3 H3 n3
      exact ⟨m',hm, σ3,H3,I3,w3⟩
    | brk=>exact q3
    | ret v=>exact q3
  | false =>
    rw [if_neg Bool.false_ne_true]
    exact wpAny_execs_nil ⟨σ1,H2,I2,q2⟩
end
structure It where
  go:Nat → Hp → Prop
  yld:Nat → Hp → V → Hp → Prop
  stop:Nat → Hp → Prop
def FpOk (X:Cx) (pins:List (Addr × Obj)) (H:Hp) (b:Addr):Prop :=
  H b = none ∧ b ≠ X.env.locals ∧ b ∉ X.fs ∧ (b ∈ X.ex ∨ X.s_0.heap.objs.size ≤ b) ∧ (∀ x c,X.env.cells.lookup x = some c → c ≠ b) ∧ ∀ p ∈ X.pn ++ pins,p.1 ≠ b
theorem Inv.fpOk {X:Cx} {pins:List (Addr × Obj)} {σ : St} {H H':Hp} {s:Shared} {b:Addr} (I:Inv X pins σ H s) (hb:s.heap.objs.size ≤ b) (hn:H' b = none):FpOk X pins H' b:=by
  refine ⟨hn,Nat.ne_of_gt (Nat.lt_of_lt_of_le I.lt hb),I.nofs hb, .inr (Nat.le_trans I.sz hb),fun x c e z => ?_,fun p hp z => ?_⟩
  · obtain ⟨v,q⟩:=I.cell x c e
    exact absurd (Nat.lt_of_lt_of_le q.lt (by rw [z];exact hb)) (Nat.lt_irrefl _)
  · exact absurd (Nat.lt_of_lt_of_le (Heap.lt_size (I.pin p hp).1) (by rw [z];exact hb)) (Nat.lt_irrefl _)
structure Turn (P:Program) (w:World) (K:PySem.W.Frag) (tg:Expr) (J:It) (fp:List Addr) (it:Addr) (tn:Nat → Heap → Prop):Prop where
  mem:it ∈ fp
  obj:∀ i h,tn i h → ∀ b ∈ fp, ∃ o,h.get? b = some o ∧ ∀ v,o.data ≠ .cell v
  keep:∀ i h h',tn i h → (∀ b ∈ fp, ∀ o,h.get? b = some o → h'.get? b = some o) → tn i h'
  item:∀ (X:Cx),X.prog = P → X.w = w → X.K = K → X.calm = true → ∀ (i:Nat) (pins:List (Addr × Obj)) (s:Shared) (σ : St) (H:Hp) (E:Value → Shared → Prop),Inv X pins σ H s → (∀ b ∈ fp,FpOk X pins H b) → tn i s.heap → J.go i H →
    wpAny (model P w) X.A (pyNext (.ref it)) (fun r s1 => ∃ u,r = some u ∧
      wpAny (model P w) X.A (letOwnedTupleGo tg (.ref it) u) (fun _ s2 => ∃ x H',Inv X pins σ H' s2 ∧ RelV x u ∧ J.yld i H x H' ∧ tn (i + 1) s2.heap ∧ ∀ b ∈ fp,H' b = none) E s1) E s
  done:∀ (X:Cx),X.prog = P → X.w = w → X.K = K → X.calm = true → ∀ (i:Nat) (pins:List (Addr × Obj)) (s:Shared) (σ : St) (H:Hp) (E:Value → Shared → Prop),Inv X pins σ H s → (∀ b ∈ fp,FpOk X pins H b) → tn i s.heap → J.stop i H →
    wpAny (model P w) X.A (pyNext (.ref it)) (fun r s1=>r = none ∧ Inv X pins σ H s1) E s
  self:∀ (A:Around) (i:Nat) (s:Shared) (Q:Value → Shared → Prop) (E:Value → Shared → Prop),tn i s.heap → Q (.ref it) s → wpAny (model P w) A (pyIter (.ref it)) Q E s
abbrev TI:=St → Hp → (It → Hp → Prop) → Prop
def PIE (X:Cx) (pins:List (Addr × Obj)) (σ : St) (tg:Expr) (R:It → Hp → Prop) (itv:Value) (s2:Shared):Prop :=
  ∃ (it:Addr) (fp:List Addr) (tn:Nat → Heap → Prop) (J:It) (H':Hp),itv = .ref it ∧ Inv X pins σ H' s2 ∧ Turn X.prog X.w X.K tg J fp it tn ∧ tn 0 s2.heap ∧ (∀ b ∈ fp,FpOk X pins H' b) ∧ R J H'
def PI (X:Cx) (tg iter:Expr) (wi:TI):Prop :=
  ∀ (pins:List (Addr × Obj)) (s:Shared) (σ : St) (H:Hp) (R:It → Hp → Prop),Inv X pins σ H s → wi σ H R →
    wpAny (model X.prog X.w) X.A (eval iter X.env) (fun v s1=>wpAny (model X.prog X.w) X.A (pyIter v) (PIE X pins σ tg R) X.xe s1) X.xe s
theorem go_of {M:Model} {A:Around} {E:Value → Shared → Prop} {s:Shared} {tg:Expr} {it:Addr} {u:Value} {o:Obj} {n:String} {vs:Array Value} {Q:Unit → Shared → Prop} (ho:s.heap.get? it = some o) (hc:o.cls = .type n) (hd:o.data = .fields vs)
    (hn : ["enumerate", "zip", "dict_itemiterator", "dict_reverseitemiterator", "odict_iterator", "itertools.zip_longest", "itertools.pairwise"].contains n = false) (hQ:Q () s):wpAny M A (letOwnedTupleGo tg (.ref it) u) Q E s:=by
  unfold letOwnedTupleGo
  cases tg <;> first
    | exact wpAny_pure hQ
    | (cases u <;> first
        | exact wpAny_pure hQ
        | (refine wpAny_bind (wpAny_load ho ?_)
           rw [hc,hd]
           show wpAny M A (if (["enumerate", "zip", "dict_itemiterator", "dict_reverseitemiterator", "odict_iterator", "itertools.zip_longest", "itertools.pairwise"].contains n && vs[0]? == some (rawInt _)) = true then _ else _) Q E s
           rw [if_neg (by intro h;rw [hn,Bool.false_and] at h;cases h)]
           exact wpAny_pure hQ))
def Itl (K:PySem.W.Frag) (a:Addr):It :=
  ⟨fun i H => ∃ xs x,SqL K H a xs ∧ xs[i]? = some x,fun i H x H'=>H' = H ∧ ∀ xs,SqL K H a xs → xs[i]? = some x,fun i H => ∃ xs,SqL K H a xs ∧ xs.length ≤ i⟩
def Itt (K:PySem.W.Frag) (a:Addr):It :=
  ⟨fun i H => ∃ xs x,SqT K H a xs ∧ xs[i]? = some x,fun i H x H'=>H' = H ∧ ∀ xs,SqT K H a xs → xs[i]? = some x,fun i H => ∃ xs,SqT K H a xs ∧ xs.length ≤ i⟩
def Itr (lo:Int) (n:Nat):It:=⟨fun i _=>i < n,fun i H x H'=>H' = H ∧ x = .int (lo + i),fun i _=>n ≤ i⟩
theorem turn_list {P:Program} {w:World} {K:PySem.W.Frag} {tg:Expr} (a it:Addr):Turn P w K tg (Itl K a) [it] it (fun i h=>h.IsListIter it a i) where
  mem:=by simp
  obj:=fun i h st b hb=>by
    have e:b = it:=by simpa using hb
    subst e
    obtain ⟨o,e,c,d⟩:=st
    exact ⟨o,e,fun v z=>by rw [d] at z;cases z⟩
  keep:=fun i h h' st k=>st.at fun o e=>k it (by simp) o e
  item:=by
    intro X hP hw hK hc i pins s σ H E I hf st hg
    subst hP hw hK
    obtain ⟨xs,x,hq,hx⟩:=hg
    obtain ⟨its,rv,p,hz⟩:=I.list hq
    obtain ⟨u,hu,ru⟩:=rv.get hx
    obtain ⟨f0,f1,f2,f3,f4,f5⟩:=hf it (by simp)
    refine wpAny_pyNext_list_item st p.isList (x:=u) (by simpa using hu) fun h' st' sb => ?_
    have I1:Inv X pins σ H { s with heap:=h' }:=I.turned (t':=s.toks) (fun b o hb e=>(sb.2 b hb).trans e) f0 f1 f3 f4 f5
    obtain ⟨o,e,c,d⟩:=id st'
    exact ⟨u,rfl,go_of (s:={ s with heap:=h' }) e c d (by decide) ⟨x,H,I1,ru,⟨rfl,fun ys hy=>by rw [I.list_inj hy hq];exact hx⟩,st',fun b hb=>(hf b hb).1⟩⟩
  done:=by
    intro X hP hw hK hc i pins s σ H E I hf st hg
    subst hP hw hK
    obtain ⟨xs,hq,hx⟩:=hg
    obtain ⟨its,rv,p,hz⟩:=I.list hq
    obtain ⟨f0,f1,f2,f3,f4,f5⟩:=hf it (by simp)
    have hl:=rv.length
    exact wpAny_pyNext_list_end (I.ok.hd hc) st p.isList (by simp;omega) fun h' eb=>⟨rfl,I.turned (t':=s.toks) (fun b o hb e=>eb b o hb e) f0 f1 f3 f4 f5⟩
  self:=fun _ _ _ _ _ st h=>wpAny_pyIter_listiter st h
theorem turn_tuple {P:Program} {w:World} {K:PySem.W.Frag} {tg:Expr} (a it:Addr):Turn P w K tg (Itt K a) [it] it (fun i h=>h.IsTupleIter it a i) where
  mem:=by simp
  obj:=fun i h st b hb=>by
    have e:b = it:=by simpa using hb
    subst e
    obtain ⟨o,e,c,d⟩:=st
    exact ⟨o,e,fun v z=>by rw [d] at z;cases z⟩
  keep:=fun i h h' st k=>st.at fun o e=>k it (by simp) o e
  item:=by
    intro X hP hw hK hc i pins s σ H E I hf st hg
    subst hP hw hK
    obtain ⟨xs,x,hq,hx⟩:=hg
    obtain ⟨its,rv,p,hz⟩:=I.tuple hq
    obtain ⟨u,hu,ru⟩:=rv.get hx
    obtain ⟨f0,f1,f2,f3,f4,f5⟩:=hf it (by simp)
    refine wpAny_pyNext_tuple_item st (show s.heap.IsTuple a its.toArray from p) (x:=u) (by simpa using hu) fun h' st' sb => ?_
    have I1:Inv X pins σ H { s with heap:=h' }:=I.turned (t':=s.toks) (fun b o hb e=>(sb.2 b hb).trans e) f0 f1 f3 f4 f5
    obtain ⟨o,e,c,d⟩:=id st'
    exact ⟨u,rfl,go_of (s:={ s with heap:=h' }) e c d (by decide) ⟨x,H,I1,ru,⟨rfl,fun ys hy=>by rw [I.tuple_inj hy hq];exact hx⟩,st',fun b hb=>(hf b hb).1⟩⟩
  done:=by
    intro X hP hw hK hc i pins s σ H E I hf st hg
    subst hP hw hK
    obtain ⟨xs,hq,hx⟩:=hg
    obtain ⟨its,rv,p,hz⟩:=I.tuple hq
    obtain ⟨f0,f1,f2,f3,f4,f5⟩:=hf it (by simp)
    have hl:=rv.length
    exact wpAny_pyNext_tuple_end (I.ok.hd hc) st (show s.heap.IsTuple a its.toArray from p) (by simp;omega) fun h' eb=>⟨rfl,I.turned (t':=s.toks) (fun b o hb e=>eb b o hb e) f0 f1 f3 f4 f5⟩
  self:=fun _ _ _ _ _ st h=>wpAny_pyIter_tupleiter st h
theorem turn_range {P:Program} {w:World} {K:PySem.W.Frag} {tg:Expr} (it:Addr) (lo:Int) (n:Nat):Turn P w K tg (Itr lo n) [it] it (fun i h=>IsRangeIter h it (lo + (i:Nat) * 1) ((n:Int) - (i:Nat)) 1) where
  mem:=by simp
  obj:=fun i h st b hb=>by
    have e:b = it:=by simpa using hb
    subst e
    exact ⟨_,st,fun v z=>by
      have z':Data.fields _ = Data.cell v:=z
      cases z'⟩
  keep:=fun i h h' st k=>k it (by simp) _ st
  item:=by
    intro X hP hw hK hc i pins s σ H E I hf st hg
    subst hP hw hK
    obtain ⟨f0,f1,f2,f3,f4,f5⟩:=hf it (by simp)
    have W:=Walks.range (prog:=X.prog) (w:=X.w) (I.ok.hd hc) it lo 1 n
    refine W.item i s _ _ hg st fun v h' tk hv st' kk => ?_
    obtain ⟨t,rfl⟩:=hv
    have I1:Inv X pins σ H { s with heap:=h',toks:=tk }:=I.turned (fun b o hb e=>kk b o (by simpa using hb) e) f0 f1 f3 f4 f5
    refine ⟨_,rfl,go_of (s:={ s with heap:=h',toks:=tk }) (n := "range_iterator") st' rfl rfl (by decide) ⟨.int (lo + i),H,I1,⟨t, ?_⟩,⟨rfl,rfl⟩,st',fun b hb=>(hf b hb).1⟩⟩
    rw [Int.mul_one]
  done:=by
    intro X hP hw hK hc i pins s σ H E I hf st hg
    subst hP hw hK
    obtain ⟨f0,f1,f2,f3,f4,f5⟩:=hf it (by simp)
    exact wpAny_pyNext_range_end (I.ok.hd hc) st (by have:n ≤ i:=hg;omega) fun h' eb=>⟨rfl,I.turned (t':=s.toks) (fun b o hb e=>eb b o hb e) f0 f1 f3 f4 f5⟩
  self:=fun _ _ _ _ _ st h=>wpAny_pyIter_rangeiter st h
end L2
namespace L2
open PySem PySem.Spec PyProof.Rows
section
variable {X:Cx} {tg:Expr}
def iList (K:PySem.W.Frag) (tl:TE):TI:=fun σ H R=>tl σ H fun x H1 => ∃ a,x = .ref a ∧ (∃ xs,SqL K H1 a xs) ∧ R (Itl K a) H1
def iTup (K:PySem.W.Frag) (tl:TE):TI:=fun σ H R=>tl σ H fun x H1 => ∃ a,x = .ref a ∧ (∃ xs,SqT K H1 a xs) ∧ R (Itt K a) H1
theorem pi_list {l:Expr} {tl:TE} (hl:PE X l tl):PI X tg l (iList X.K tl):=by
  intro pins s σ H R I h
  refine thn (hl pins s σ H _ I h) fun v s1 ⟨x,H1,I1,r1,q1⟩ => ?_
  obtain ⟨a,e,⟨xs,hq⟩,q⟩:=q1
  subst e
  cases r1
  obtain ⟨its,rv,p,hz⟩:=I1.list hq
  refine wpAny_pyIter_list p.isList ?_
  refine ⟨s1.heap.objs.size,[s1.heap.objs.size],_,_,H1,rfl,I1.kept (t':=s1.toks) fun b o e=>Heap.get?_push_of_some _ e,turn_list a _,⟨_,Heap.get?_push_size _ rfl,rfl,rfl⟩,fun b hb => ?_,q⟩
  have e:b = s1.heap.objs.size:=by simpa using hb
  subst e
  exact I1.fpOk (Nat.le_refl _) (I1.hok.fresh (Nat.le_refl _))
theorem pi_tup {l:Expr} {tl:TE} (hl:PE X l tl):PI X tg l (iTup X.K tl):=by
  intro pins s σ H R I h
  refine thn (hl pins s σ H _ I h) fun v s1 ⟨x,H1,I1,r1,q1⟩ => ?_
  obtain ⟨a,e,⟨xs,hq⟩,q⟩:=q1
  subst e
  cases r1
  obtain ⟨its,rv,p,hz⟩:=I1.tuple hq
  refine wpAny_pyIter_tuple (show s1.heap.IsTuple a its.toArray from p) ?_
  refine ⟨s1.heap.objs.size,[s1.heap.objs.size],_,_,H1,rfl,I1.kept (t':=s1.toks) fun b o e=>Heap.get?_push_of_some _ e,turn_tuple a _,⟨_,Heap.get?_push_size _ rfl,rfl,rfl⟩,fun b hb => ?_,q⟩
  have e:b = s1.heap.objs.size:=by simpa using hb
  subst e
  exact I1.fpOk (Nat.le_refl _) (I1.hok.fresh (Nat.le_refl _))
theorem range_it {pins:List (Addr × Obj)} {σ : St} {H:Hp} {s:Shared} {R:It → Hp → Prop} {E:Value → Shared → Prop} {lo hi:Int} {t u v:Tok} {tk:Nat} (I:Inv X pins σ H s) (h1 : -(2 ^ 62) ≤ lo) (h2:lo < 2 ^ 62) (h3 : -(2 ^ 62) ≤ hi) (h4:hi < 2 ^ 62)
    (q:R (Itr lo (hi - lo).toNat) H):wpAny (model X.prog X.w) X.A (pyIter (.ref s.heap.objs.size)) (PIE X pins σ tg R) E { s with heap:=s.heap.push { cls := .type "range",data := .fields #[.int lo t, .int hi u, .int 1 v] },toks:=tk }:=by
  refine wpAny_pyIter_range (IsRange.new ..) (small_one h1 h2 h3 h4) ?_
  have I1:Inv X pins σ H { s with heap:=s.heap.push { cls := .type "range",data := .fields #[.int lo t, .int hi u, .int 1 v] },toks:=tk }:=I.kept fun b o e=>Heap.get?_push_of_some _ e
  refine ⟨(s.heap.push { cls := .type "range",data := .fields #[.int lo t, .int hi u, .int 1 v] }).objs.size,[(s.heap.push { cls := .type "range",data := .fields #[.int lo t, .int hi u, .int 1 v] }).objs.size],_,_,H,rfl,
    I1.kept (t':=tk) fun b o e=>Heap.get?_push_of_some _ e,turn_range _ lo (hi - lo).toNat, ?_,fun b hb => ?_,q⟩
  · have e1:lo + ((0:Nat):Int) * 1 = lo:=by simp
    have e2:(((hi - lo).toNat:Nat):Int) - ((0:Nat):Int) = Builtin.Range.rangeSize lo hi 1:=by rw [rangeSize_one];split <;> omega
    show IsRangeIter _ _ (lo + ((0:Nat):Int) * 1) ((((hi - lo).toNat:Nat):Int) - ((0:Nat):Int)) 1
    rw [e1,e2]
    exact Heap.get?_push_size _ rfl
  · have e:b = (s.heap.push { cls := .type "range",data := .fields #[.int lo t, .int hi u, .int 1 v] }).objs.size:=by simpa using hb
    subst e
    exact I1.fpOk (Nat.le_refl _) (I1.hok.fresh (Nat.le_refl _))
def iRng1 (ta:TA):TI:=fun σ H R=>ta σ H fun vs H1 => ∃ j:Int,vs = [.int j] ∧ -(2 ^ 62) ≤ j ∧ j < 2 ^ 62 ∧ R (Itr 0 j.toNat) H1
def iRng2 (ta:TA):TI:=fun σ H R=>ta σ H fun vs H1 => ∃ i j:Int,vs = [.int i, .int j] ∧ (-(2 ^ 62) ≤ i ∧ i < 2 ^ 62 ∧ -(2 ^ 62) ≤ j ∧ j < 2 ^ 62) ∧ R (Itr i (j - i).toNat) H1
theorem pi_range1 {a:Expr} {ta:TA} {p pos:Pos} (hg:Gl X "range") (hm:X.mg "range" = none) (ha:PA X [a] ta) (hs:starEach [a] X.env = [(false,eval a X.env)]:=by rfl):PI X tg (.Call (.Name "range" p) [a] [] pos) (iRng1 ta):=by
  intro pins s σ H R I h
  refine Call_ (ld_blt I hg hm boot_range (PyProof.Rows.callWith_type1 (thn (ha pos pins s σ H _ I h) fun us s1 ⟨vs,H1,I1,r1,q1⟩ => ?_) hs rfl))
  obtain ⟨j,e,q1,q2,q⟩:=q1
  subst e
  cases r1 with
  | cons r rr =>
    cases rr
    obtain ⟨t,rfl⟩:=r
    exact call_range_1 (range_it I1 (by omega) (by omega) q1 q2 (by simpa using q))
theorem pi_range2 {a b:Expr} {ta:TA} {p pos:Pos} (hg:Gl X "range") (hm:X.mg "range" = none) (ha:PA X [a,b] ta) (hs:starEach [a,b] X.env = [(false,eval a X.env),(false,eval b X.env)]:=by rfl) (hs2:starEach [b] X.env = [(false,eval b X.env)]:=by rfl) :
    PI X tg (.Call (.Name "range" p) [a,b] [] pos) (iRng2 ta):=by
  intro pins s σ H R I h
  refine Call_ (ld_blt I hg hm boot_range (PyProof.Rows.callWith_type1 (thn (ha pos pins s σ H _ I h) fun us s1 ⟨vs,H1,I1,r1,q1⟩ => ?_) (by rw [hs,hs2]) (by rw [hs2];rfl)))
  obtain ⟨i,j,e,⟨q1,q2,q3,q4⟩,q⟩:=q1
  subst e
  cases r1 with
  | cons r rr =>
    cases rr with
    | cons r' rr =>
      cases rr
      obtain ⟨t,rfl⟩:=r
      obtain ⟨t',rfl⟩:=r'
      exact call_range_2 (range_it I1 q1 q2 q3 q4 q)
def tFor (wi:TI) (g:TG) (tb:TS):TS:=fun D σ H=>wi σ H fun J H1 => ∃ W:Nat → Nat → St → Hp → Prop,(∃ m,W 0 m σ H1) ∧ ∀ i m σ H,W i m σ H →
  (J.stop i H ∧ D.nx σ H) ∨ (J.go i H ∧ ∃ N:St → Hp → Prop,(∀ σ' H',N σ' H' → ∃ m',m' < m ∧ W (i + 1) m' σ' H') ∧ ∀ x H',J.yld i H x H' → g x σ H' fun σ2 H2=>tb { D with nx:=N,ct:=N,bk:=D.nx } σ2 H2)
def pinsAt (fp:List Addr) (h:Heap):List (Addr × Obj):=fp.filterMap fun b=>(h.get? b).map fun o=>(b,o)
theorem mem_pinsAt {fp:List Addr} {h:Heap} {b:Addr} {o:Obj} (hb:b ∈ fp) (e:h.get? b = some o):(b,o) ∈ pinsAt fp h:=List.mem_filterMap.mpr ⟨b,hb,by rw [e];rfl⟩
theorem of_pinsAt {fp:List Addr} {h:Heap} {p:Addr × Obj} (hp:p ∈ pinsAt fp h):p.1 ∈ fp ∧ h.get? p.1 = some p.2:=by
  obtain ⟨b,hb,e⟩:=List.mem_filterMap.mp hp
  cases q:h.get? b with
  | none=>rw [q] at e;cases e
  | some o =>
    rw [q] at e
    have e':(b,o) = p:=Option.some.inj e
    subst e'
    exact ⟨hb,q⟩
theorem Inv.pinned {pins:List (Addr × Obj)} {σ : St} {H:Hp} {s:Shared} {fp:List Addr} (I:Inv X pins σ H s) (hf:∀ b ∈ fp,FpOk X pins H b) (ho:∀ b ∈ fp, ∃ o,s.heap.get? b = some o ∧ ∀ v,o.data ≠ .cell v):Inv X (pins ++ pinsAt fp s.heap) σ H s :=
  I.pins_of fun p hp=>(List.mem_append.mp hp).elim (fun z=>I.pin p (List.mem_append_right _ z)) fun z=>by
    obtain ⟨hb,e⟩:=of_pinsAt z
    obtain ⟨f0,f1,f2,_⟩:=hf p.1 hb
    obtain ⟨o,e',d⟩:=ho p.1 hb
    rw [e] at e';cases e'
    exact ⟨e,f0,f1,f2,d⟩
theorem Inv.unpinned {pins pl:List (Addr × Obj)} {σ : St} {H:Hp} {s:Shared} (I:Inv X (pins ++ pl) σ H s):Inv X pins σ H s:=I.pins_of fun p hp=>I.pin p (List.mem_append_right _ (List.mem_append_left _ hp))
theorem ps_for {iter:Expr} {body:List Stmt} {wi:TI} {g:TG} {tb:TS} {pos:Pos} (hp:PassesOwn (model X.prog X.w) X.A X.env X.xe) (hc:X.calm = true) (hi:PI X tg iter wi) (hg:PG X tg g) (hb:PSs X body tb)
    (hs:∀ x,foldedSetIterable iter X.env x = pure x:=by intro _;rfl):PS X (.For tg iter body [] pos) (tFor wi g tb):=by
  intro pins s σ H D I h
  refine wpAny_For (thn (hi pins s σ H _ I h) fun v s1 h1=>thn h1 fun itv s2 h2 => ?_) hs
  obtain ⟨it,fp,tn,J,H2,e,I2,T,st2,f2,W,⟨m0,w0⟩,turn⟩:=h2
  subst e
  have stat:∀ {H':Hp},(∀ b ∈ fp,H' b = none) → ∀ b ∈ fp,FpOk X pins H' b:=fun hn b hb=>⟨hn b hb,(f2 b hb).2⟩
  refine codeAny_forLoop_any (fun n s' => ∃ i σ' H',Inv X pins σ' H' s' ∧ tn i s'.heap ∧ (∀ b ∈ fp,H' b = none) ∧ W i n σ' H') ?_ m0 ⟨0, σ,H2,I2,st2,fun b hb=>(f2 b hb).1,w0⟩
  rintro n s3 ⟨i, σ3,H3,I3,st3,fr3,w3⟩
  rcases turn i n σ3 H3 w3 with ⟨stop,qn⟩ | ⟨go,N,hN,step⟩
  · refine wpAny_passesOwn hp (thn (T.done X rfl rfl rfl hc i pins s3 σ3 H3 X.xe I3 (stat fr3) st3 stop) fun r s4 ⟨hr,I4⟩ => ?_)
    subst hr
    exact wpAny_execs_nil ⟨σ3,H3,I4,qn⟩
  · refine wpAny_passesOwn hp (thn (T.item X rfl rfl rfl hc i pins s3 σ3 H3 X.xe I3 (stat fr3) st3 go) fun r s4 ⟨u,hr,h4⟩ => ?_)
    subst hr
    refine wpAny_passesOwn hp (thn h4 fun _ s5 ⟨x,H5,I5,r5,y5,st5,fr5⟩ => ?_)
    have I5':=I5.pinned (stat fr5) (T.obj _ _ st5)
    refine wpAny_passesOwn hp (thn (hg _ s5 σ3 H5 x u _ I5' r5 (step x H5 y5)) fun _ s6 ⟨σ6,H6,I6,q6⟩ => ?_)
    refine wpAny_passesOwn hp (thn (hb _ s6 σ6 H6 _ I6 q6) fun f s7 q7 => ?_)
    have again:∀ {σ7:St} {H7:Hp},Inv X (pins ++ pinsAt fp s5.heap) σ7 H7 s7 → N σ7 H7 → ∃ m,m < n ∧ ∃ i σ' H',Inv X pins σ' H' s7 ∧ tn i s7.heap ∧ (∀ b ∈ fp,H' b = none) ∧ W i m σ' H':=fun {σ7 H7} I7 n7=>by
      obtain ⟨m',hm,w7⟩:=hN σ7 H7 n7
      refine ⟨m',hm,i + 1, σ7,H7,I7.unpinned,T.keep _ _ _ st5 fun b hb o e=>(I7.pin (b,o) (List.mem_append_right _ (List.mem_append_right _ (mem_pinsAt hb e)))).1,fun b hb => ?_,w7⟩
      obtain ⟨o,e,d⟩:=T.obj _ _ st5 b hb
      exact (I7.pin (b,o) (List.mem_append_right _ (List.mem_append_right _ (mem_pinsAt hb e)))).2.1
    cases f with
    | next=>obtain ⟨σ7,H7,I7,n7⟩:=q7;exact again I7 n7
    | cont=>obtain ⟨σ7,H7,I7,n7⟩:=q7;exact again I7 n7
    | brk=>obtain ⟨σ7,H7,I7,q7⟩:=q7;exact ⟨σ7,H7,I7.unpinned,q7⟩
    | ret v=>obtain ⟨x7, σ7,H7,I7,r7,q7⟩:=q7;exact ⟨x7, σ7,H7,I7.unpinned,r7,q7⟩
end
theorem for_list {K:PySem.W.Frag} {a:Addr} {xs:List V} {g:TG} {tb:TS} {D:Ends} {σ : St} {H:Hp} (Pv:Nat → St → Hp → Prop) (h0:Pv 0 σ H) (hl:∀ i σ H,i ≤ xs.length → Pv i σ H → SqL K H a xs)
    (hs:∀ i x σ H,xs[i]? = some x → Pv i σ H → g x σ H fun σ2 H2=>tb { D with nx:=Pv (i + 1),ct:=Pv (i + 1),bk:=D.nx } σ2 H2) (hd:∀ σ H,Pv xs.length σ H → D.nx σ H) :
    ∃ W:Nat → Nat → St → Hp → Prop,(∃ m,W 0 m σ H) ∧ ∀ i m σ H,W i m σ H →
      ((Itl K a).stop i H ∧ D.nx σ H) ∨ ((Itl K a).go i H ∧ ∃ N:St → Hp → Prop,(∀ σ' H',N σ' H' → ∃ m',m' < m ∧ W (i + 1) m' σ' H') ∧ ∀ x H',(Itl K a).yld i H x H' → g x σ H' fun σ2 H2=>tb { D with nx:=N,ct:=N,bk:=D.nx } σ2 H2):=by
  refine ⟨fun i m σ H=>m = xs.length - i ∧ i ≤ xs.length ∧ Pv i σ H,⟨xs.length,by simp,Nat.zero_le _,h0⟩, ?_⟩
  rintro i m σ H ⟨rfl,hi,p⟩
  have q:=hl i σ H hi p
  by_cases hlt:i < xs.length
  · refine .inr ⟨⟨xs,xs[i],q,by simp [hlt]⟩,Pv (i + 1),fun σ' H' p'=>⟨xs.length - (i + 1),by omega,rfl,hlt,p'⟩,fun x H' y => ?_⟩
    obtain ⟨e,y⟩:=y
    subst e
    exact hs i x σ _ (y xs q) p
  · have e:i = xs.length:=by omega
    subst e
    exact .inl ⟨⟨xs,q,Nat.le_refl _⟩,hd σ H p⟩
theorem for_range {lo:Int} {n:Nat} {g:TG} {tb:TS} {D:Ends} {σ : St} {H:Hp} (Pv:Nat → St → Hp → Prop) (h0:Pv 0 σ H)
    (hs:∀ i σ H,i < n → Pv i σ H → g (.int (lo + i)) σ H fun σ2 H2=>tb { D with nx:=Pv (i + 1),ct:=Pv (i + 1),bk:=D.nx } σ2 H2) (hd:∀ σ H,Pv n σ H → D.nx σ H) :
    ∃ W:Nat → Nat → St → Hp → Prop,(∃ m,W 0 m σ H) ∧ ∀ i m σ H,W i m σ H →
      ((Itr lo n).stop i H ∧ D.nx σ H) ∨ ((Itr lo n).go i H ∧ ∃ N:St → Hp → Prop,(∀ σ' H',N σ' H' → ∃ m',m' < m ∧ W (i + 1) m' σ' H') ∧ ∀ x H',(Itr lo n).yld i H x H' → g x σ H' fun σ2 H2=>tb { D with nx:=N,ct:=N,bk:=D.nx } σ2 H2):=by
  refine ⟨fun i m σ H=>m = n - i ∧ i ≤ n ∧ Pv i σ H,⟨n,by simp,Nat.zero_le _,h0⟩, ?_⟩
  rintro i m σ H ⟨rfl,hi,p⟩
  by_cases hlt:i < n
  · refine .inr ⟨hlt,Pv (i + 1),fun σ' H' p'=>⟨n - (i + 1),by omega,rfl,hlt,p'⟩,fun x H' y => ?_⟩
    obtain ⟨e,y⟩:=y
    subst e y
    exact hs i σ _ hlt p
  · have e:i = n:=by omega
    subst e
    exact .inl ⟨Nat.le_refl _,hd σ H p⟩
theorem while_by {c:TT} {tb:TS} {D:Ends} {σ : St} {H:Hp} (Pv:St → Hp → Prop) (μ : St → Hp → Nat) (h0:Pv σ H)
    (hs:∀ σ H,Pv σ H → c σ H fun b H1=>if b = true then tb { D with nx:=fun σ' H'=>Pv σ' H' ∧ μ σ' H' < μ σ H,ct:=fun σ' H'=>Pv σ' H' ∧ μ σ' H' < μ σ H,bk:=D.nx } σ H1 else D.nx σ H1)
    (mono:∀ σ H Q Q',(∀ b H1,Q b H1 → Q' b H1) → c σ H Q → c σ H Q'):tWhile c tb D σ H:=by
  refine ⟨fun m σ H=>m = μ σ H ∧ Pv σ H,⟨_,rfl,h0⟩, ?_⟩
  rintro m σ H ⟨rfl,p⟩
  refine mono σ H _ _ (fun b H1 q => ?_) (hs σ H p)
  cases b with
  | true=>exact ⟨_,fun σ' H' ⟨p',l⟩=>⟨_,l,rfl,p'⟩,q⟩
  | false=>exact q
end L2
namespace L2
open PySem PySem.Spec PyProof.Rows
abbrev R2:=V → V → Hp → VK → Prop
def OpR (X:Cx) (f:Value → Value → Sem Value) (r:R2):Prop :=
  ∀ (pins:List (Addr × Obj)) (s:Shared) (σ : St) (H:Hp) (x y:V) (v u:Value) (Q:VK),Inv X pins σ H s → RelV x v → RelV y u → r x y H Q →
    wpAny (model X.prog X.w) X.A (f v u) (EP X pins σ Q) X.xe s
def UnR (X:Cx) (f:Value → Sem Value) (r:V → Hp → VK → Prop):Prop :=
  ∀ (pins:List (Addr × Obj)) (s:Shared) (σ : St) (H:Hp) (x:V) (v:Value) (Q:VK),Inv X pins σ H s → RelV x v → r x H Q →
    wpAny (model X.prog X.w) X.A (f v) (EP X pins σ Q) X.xe s
def CallR (X:Cx) (f:Value) (r:List V → Hp → VK → Prop):Prop :=
  ∀ (pins:List (Addr × Obj)) (s:Shared) (σ : St) (H:Hp) (xs:List V) (us:List Value) (Q:VK),Inv X pins σ H s → Vals xs us → r xs H Q →
    wpAny (model X.prog X.w) X.A (call f us) (EP X pins σ Q) X.xe s
def TruR (X:Cx) (r:V → Hp → (Bool → Hp → Prop) → Prop):Prop :=
  ∀ (pins:List (Addr × Obj)) (s:Shared) (σ : St) (H:Hp) (x:V) (v:Value) (Q:Bool → Hp → Prop),Inv X pins σ H s → RelV x v → r x H Q →
    wpAny (model X.prog X.w) X.A (truthy v) (TP X pins σ Q) X.xe s
def tOp (r:R2) (ta tb:TE):TE:=fun σ H Q=>ta σ H fun x H1=>tb σ H1 fun y H2=>r x y H2 Q
def tUn (r:V → Hp → VK → Prop) (ta:TE):TE:=fun σ H Q=>ta σ H fun x H1=>r x H1 Q
def rI (C:Int → Int → Prop) (g:Int → Int → V):R2:=fun x y H Q => ∃ i j,x = .int i ∧ y = .int j ∧ C i j ∧ Q (g i j) H
def rI0 (g:Int → Int → V):R2:=fun x y H Q => ∃ i j,x = .int i ∧ y = .int j ∧ Q (g i j) H
def rU (g:Int → V):V → Hp → VK → Prop:=fun x H Q => ∃ i,x = .int i ∧ Q (g i) H
section
variable {X:Cx} {a b c:Expr} {ta tb tc:TE} {pos:Pos}
theorem binT (ha:PE X a ta) (hb:PE X b tb) {pins:List (Addr × Obj)} {s:Shared} {σ : St} {H:Hp} {R:V → V → Hp → Prop} (I:Inv X pins σ H s)
    (h:ta σ H fun x H1=>tb σ H1 fun y H2=>R x y H2) {Q:Value → Shared → Prop} {f:Value → Value → Sem Value}
    (hf:∀ v u s2 x y H2,Inv X pins σ H2 s2 → RelV x v → RelV y u → R x y H2 → wpAny (model X.prog X.w) X.A (f v u) Q X.xe s2) :
    wpAny (model X.prog X.w) X.A (eval a X.env) (fun v s₁ => wpAny (model X.prog X.w) X.A (eval b X.env) (fun u s₂ => wpAny (model X.prog X.w) X.A (f v u) Q X.xe s₂) X.xe s₁) X.xe s:=by
  refine thn (ha pins s σ H _ I h) fun v s1 ⟨x,H1,I1,r1,q1⟩ => ?_
  refine thn (hb pins s1 σ H1 _ I1 q1) fun u s2 ⟨y,H2,I2,r2,q2⟩ => ?_
  exact hf v u s2 x y H2 I2 r1 r2 q2
theorem pe_op {op:Operator} {r:R2} (ho:OpR X (binaryOp op) r) (ha:PE X a ta) (hb:PE X b tb):PE X (.BinOp a op b pos) (tOp r ta tb):=by
  intro pins s σ H Q I h
  exact wpAny_BinOp (binT ha hb I h fun v u s2 x y H2 I2 rx ry q=>ho pins s2 σ H2 x y v u Q I2 rx ry q)
theorem pe_un {op:UnaryOp} {r:V → Hp → VK → Prop} (ho:UnR X (unaryOp op) r) (ha:PE X a ta):PE X (.UnaryOp op a pos) (tUn r ta):=by
  intro pins s σ H Q I h
  exact UnaryOp_ (thn (ha pins s σ H _ I h) fun v s1 ⟨x,H1,I1,r1,q1⟩=>ho pins s1 σ H1 x v Q I1 r1 q1)
theorem opI {f:Value → Value → Sem Value} {C:Int → Int → Prop} {g:Int → Int → Int}
    (rule:∀ (i j:Int) (t u:Tok) (s:Shared) (Q:Value → Shared → Prop) (E:Value → Shared → Prop),C i j → Q (.int (g i j) s.toks) { s with toks:=s.toks + 1 } → wpAny (model X.prog X.w) X.A (f (.int i t) (.int j u)) Q E s) :
    OpR X f (rI C fun i j => .int (g i j)):=by
  intro pins s σ H x y v u Q I rx ry h
  obtain ⟨i,j,rfl,rfl,hc,q⟩:=h
  obtain ⟨t,rfl⟩:=rx
  obtain ⟨t',rfl⟩:=ry
  exact rule i j t t' s _ _ hc ⟨.int (g i j),H,I.tok _,⟨_,rfl⟩,q⟩
theorem opI0 {f:Value → Value → Sem Value} {g:Int → Int → Int}
    (rule:∀ (i j:Int) (t u:Tok) (s:Shared) (Q:Value → Shared → Prop) (E:Value → Shared → Prop),Q (.int (g i j) s.toks) { s with toks:=s.toks + 1 } → wpAny (model X.prog X.w) X.A (f (.int i t) (.int j u)) Q E s) :
    OpR X f (rI0 fun i j => .int (g i j)):=by
  intro pins s σ H x y v u Q I rx ry h
  obtain ⟨i,j,rfl,rfl,q⟩:=h
  obtain ⟨t,rfl⟩:=rx
  obtain ⟨t',rfl⟩:=ry
  exact rule i j t t' s _ _ ⟨.int (g i j),H,I.tok _,⟨_,rfl⟩,q⟩
theorem opB0 {f:Value → Value → Sem Value} {g:Int → Int → Bool}
    (rule:∀ (i j:Int) (t u:Tok) (s:Shared) (Q:Value → Shared → Prop) (E:Value → Shared → Prop),Q (.bool (g i j)) s → wpAny (model X.prog X.w) X.A (f (.int i t) (.int j u)) Q E s) :
    OpR X f (rI0 fun i j => .bl (g i j)):=by
  intro pins s σ H x y v u Q I rx ry h
  obtain ⟨i,j,rfl,rfl,q⟩:=h
  obtain ⟨t,rfl⟩:=rx
  obtain ⟨t',rfl⟩:=ry
  exact rule i j t t' s _ _ ⟨.bl (g i j),H,I,rfl,q⟩
def CMul (i j:Int):Prop:=(-(2 ^ 64) < i ∧ i < 2 ^ 64) ∨ (-(2 ^ 64) < j ∧ j < 2 ^ 64)
theorem CMul.ok {i j:Int} (h:CMul i j):IntMulOk i j:=by
  rcases h with ⟨h1,h2⟩ | ⟨h1,h2⟩
  · exact .of_left (intBits_le_64 h1 h2)
  · exact .of_right (intBits_le_64 h1 h2)
theorem op_add:OpR X (binaryOp .Add) (rI0 fun i j => .int (i + j)):=opI0 fun _ _ _ _ _ _ _ q=>add_int q
theorem op_sub:OpR X (binaryOp .Sub) (rI0 fun i j => .int (i - j)):=opI0 fun _ _ _ _ _ _ _ q=>sub_int q
theorem op_mul:OpR X (binaryOp .Mult) (rI CMul fun i j => .int (i * j)):=opI fun _ _ _ _ _ _ _ hc q=>mul_int q hc.ok
theorem op_mod:OpR X (binaryOp .Mod) (rI (fun _ j=>0 < j) fun i j => .int (i % j)):=opI fun i j _ _ _ _ _ hc q=>by
  have h1:(0:Int) < j:=hc
  exact mod_int' (by omega) (by rw [Int.fmod_eq_emod_of_nonneg i (by omega)];exact q)
theorem op_modN:OpR X (binaryOp .Mod) (rI (fun _ j=>j ≠ 0) fun i j => .int (i.fmod j)):=opI fun _ _ _ _ _ _ _ hc q=>mod_int' hc q
theorem unI {f:Value → Sem Value} {g:Int → Int}
    (rule:∀ (i:Int) (t:Tok) (s:Shared) (Q:Value → Shared → Prop) (E:Value → Shared → Prop),Q (.int (g i) s.toks) { s with toks:=s.toks + 1 } → wpAny (model X.prog X.w) X.A (f (.int i t)) Q E s) :
    UnR X f (rU fun i => .int (g i)):=by
  intro pins s σ H x v Q I rx h
  obtain ⟨i,rfl,q⟩:=h
  obtain ⟨t,rfl⟩:=rx
  exact rule i t s _ _ ⟨.int (g i),H,I.tok _,⟨_,rfl⟩,q⟩
theorem un_neg:UnR X (unaryOp .USub) (rU fun i => .int (-i)):=unI fun _ _ _ _ _ q=>neg_int q
end
section
variable {X:Cx} {a b c:Expr} {ta tb tc:TE} {pos:Pos}
theorem op_le:OpR X (compareOp .LtE) (rI0 fun i j => .bl (decide (i ≤ j))):=opB0 fun _ _ _ _ _ _ _ q=>le_int q
theorem nomark (b:Expr) {op:CmpOp} (h:op ≠ .In:=by decide) (h2:op ≠ .NotIn:=by decide):behindInMarks op b = false:=by
  have e1:(op == CmpOp.In) = false:=by cases op <;> first | rfl | exact absurd rfl h
  have e2:(op == CmpOp.NotIn) = false:=by cases op <;> first | rfl | exact absurd rfl h2
  cases b <;> simp [behindInMarks,e1,e2]
theorem pe_cmpR {op:CmpOp} {r:R2} (ho:OpR X (compareOp op) r) (ha:PE X a ta) (hb:PE X b tb) (hm:behindInMarks op b = false):PE X (.Compare a [op] [b] pos) (tOp r ta tb):=by
  intro pins s σ H Q I h
  exact wpAny_Compare1 (binT ha hb I h fun v u s2 x y H2 I2 rx ry q=>ho pins s2 σ H2 x y v u Q I2 rx ry q) hm
def tTest (t:TE):TT:=fun σ H Q=>t σ H fun x H' => ∃ k,x = .bl k ∧ Q k H'
theorem pt_cmpR {op:CmpOp} {r:R2} (ho:OpR X (compareOp op) r) (ha:PE X a ta) (hb:PE X b tb) (hm:behindInMarks op b = false):PT X (.Compare a [op] [b] pos) (tTest (tOp r ta tb)):=by
  intro pins s σ H Q I h
  refine wpAny_isTrue_Compare1 (thn (ha pins s σ H _ I h) fun v s1 ⟨x,H1,I1,r1,q1⟩=>thn (hb pins s1 σ H1 _ I1 q1) fun u s2 ⟨y,H2,I2,r2,q2⟩ =>
    thn (ho pins s2 σ H2 x y v u _ I2 r1 r2 q2) fun c s3 ⟨z,H3,I3,r3,k,e,q3⟩ => ?_) hm
  subst e
  cases r3
  exact wpAny_truthy_bool ⟨H3,I3,q3⟩
def tChain (r r':R2) (ta tb tc:TE):TE:=fun σ H Q=>ta σ H fun x H1=>tb σ H1 fun y H2=>r x y H2 fun z H3 => ∃ k,z = .bl k ∧
  (if k = true then tc σ H3 fun w' H4=>r' y w' H4 Q else Q (.bl false) H3)
theorem pe_chain {op op':CmpOp} {r r':R2} (ho:OpR X (compareOp op) r) (ho':OpR X (compareOp op') r') (ha:PE X a ta) (hb:PE X b tb) (hc:PE X c tc)
    (hm:lastMarks [op,op'] [b,c] = false:=by with_unfolding_all rfl):PE X (.Compare a [op,op'] [b,c] pos) (tChain r r' ta tb tc):=by
  intro pins s σ H Q I h
  refine Compare_chain (thn (ha pins s σ H _ I h) fun v s1 ⟨x,H1,I1,r1,q1⟩=>chain_link (thn (hb pins s1 σ H1 _ I1 q1) fun u s2 ⟨y,H2,I2,r2,q2⟩ =>
    thn (ho pins s2 σ H2 x y v u _ I2 r1 r2 q2) fun d s3 ⟨z,H3,I3,r3,k,e,q3⟩ => ?_)) hm
  subst e
  cases r3
  refine wpAny_truthy_bool ?_
  cases k with
  | false=>exact ite_ff ⟨.bl false,H3,I3,rfl,q3⟩
  | true=>exact ite_tt (chain_last (thn (hc pins s3 σ H3 _ I3 q3) fun w' s4 ⟨z',H4,I4,r4,q4⟩=>ho' pins s4 σ H4 y z' u w' Q I4 r2 r4 q4))
theorem pt_chain {op op':CmpOp} {r r':R2} (ho:OpR X (compareOp op) r) (ho':OpR X (compareOp op') r') (ha:PE X a ta) (hb:PE X b tb) (hc:PE X c tc)
    (hm:lastMarks [op,op'] [b,c] = false:=by with_unfolding_all rfl):PT X (.Compare a [op,op'] [b,c] pos) (tTest (tChain r r' ta tb tc)):=by
  intro pins s σ H Q I h
  refine isTrue_chain (thn (ha pins s σ H _ I h) fun v s1 ⟨x,H1,I1,r1,q1⟩=>test_link (thn (hb pins s1 σ H1 _ I1 q1) fun u s2 ⟨y,H2,I2,r2,q2⟩ =>
    thn (ho pins s2 σ H2 x y v u _ I2 r1 r2 q2) fun d s3 ⟨z,H3,I3,r3,k,e,q3⟩ => ?_)) hm
  subst e
  cases r3
  refine wpAny_truthy_bool ?_
  cases k with
  | false =>
    obtain ⟨k',e',q'⟩:=q3
    cases e'
    exact ite_ff ⟨H3,I3,q'⟩
  | true =>
    refine ite_tt (test_last (thn (hc pins s3 σ H3 _ I3 q3) fun w' s4 ⟨z',H4,I4,r4,q4⟩=>thn (ho' pins s4 σ H4 y z' u w' _ I4 r2 r4 q4) fun d' s5 ⟨z2,H5,I5,r5,k2,e2,q5⟩ => ?_))
    subst e2
    cases r5
    exact wpAny_truthy_bool ⟨H5,I5,q5⟩
def TruV (K:PySem.W.Frag) (x:V) (H:Hp) (k:Bool):Prop :=
  match x with
  | .non=>k = false
  | .bl b=>k = b
  | .int i=>k = (i != 0)
  | .str y=>y.length ≤ sizeLine ∧ k = ((y.length:Int) != 0)
  | .byt y=>y.size ≤ sizeLine ∧ k = ((y.size:Int) != 0)
  | .ref p=>(∃ xs,SqL K H p xs ∧ k = !xs.isEmpty) ∨ (∃ xs,SqT K H p xs ∧ k = !xs.isEmpty) ∨ ∃ kvs,H p = some (.dK kvs) ∧ k = !kvs.isEmpty
  | _=>False
theorem isEmpty_kv {κ : Type} {kvs:List (κ × V)} {vs:List (κ × Value)} (r:KV kvs vs):(!vs.isEmpty) = !kvs.isEmpty:=by
  cases r <;> rfl
theorem isEmpty_of {xs:List V} {its:List Value} (r:Vals xs its):(!its.toArray.isEmpty) = !xs.isEmpty:=by
  cases r <;> simp
theorem line63:(sizeLine:Nat) < 2 ^ 63:=by rw [sizeLine_eq];decide
theorem tru_ok:TruR X (fun x H Q => ∃ k,TruV X.K x H k ∧ Q k H):=by
  intro pins s σ H x v Q I rx h
  obtain ⟨k,e,q⟩:=h
  have hl:=line63
  have hs:sizeLine = 16777216:=sizeLine_eq
  cases x with
  | non =>
    cases rx
    have e':k = false:=e
    subst e'
    exact truthy_none ⟨H,I,q⟩
  | bl b =>
    cases rx
    have e':k = b:=e
    subst e'
    exact wpAny_truthy_bool ⟨H,I,q⟩
  | int i =>
    obtain ⟨t,rfl⟩:=rx
    have e':k = (i != 0):=e
    subst e'
    exact PySem.P.truthy_int ⟨H,I,q⟩
  | str y =>
    obtain ⟨t,rfl⟩:=rx
    obtain ⟨hy,e'⟩ : y.length ≤ sizeLine ∧ k = ((y.length:Int) != 0):=e
    subst e'
    exact PySem.P.truthy_str (by omega) ⟨H,I.tok _,q⟩
  | byt y =>
    obtain ⟨t,rfl⟩:=rx
    obtain ⟨hy,e'⟩ : y.size ≤ sizeLine ∧ k = ((y.size:Int) != 0):=e
    subst e'
    exact PySem.W.truthy_bytes (by omega) ⟨H,I.tok _,q⟩
  | ref p =>
    cases rx
    have e':(∃ xs,SqL X.K H p xs ∧ k = !xs.isEmpty) ∨ (∃ xs,SqT X.K H p xs ∧ k = !xs.isEmpty) ∨ ∃ kvs,H p = some (.dK kvs) ∧ k = !kvs.isEmpty:=e
    rcases e' with ⟨xs,hx,e'⟩ | ⟨xs,hx,e'⟩ | ⟨kvs,hx,e'⟩
    · subst e'
      obtain ⟨its,r,pl,hz⟩:=I.list hx
      have hlen:=r.length
      exact wpAny_truthy_list pl.isList (by simp only [List.size_toArray];omega) ⟨H,I.tok _,by rw [isEmpty_of r];exact q⟩
    · subst e'
      obtain ⟨its,r,pl,hz⟩:=I.tuple hx
      have hlen:=r.length
      exact truthy_tuple pl (by simp only [List.size_toArray];omega) ⟨H,I.tok _,by rw [isEmpty_of r];exact q⟩
    · subst e'
      obtain ⟨hz,hS,vs,r,m⟩ : kvs.length ≤ sizeLine ∧ (p == sysModules) = false ∧ ∃ vs,KV kvs vs ∧ s.heap.DictOf (mixKind X.prog X.w) p vs:=I.hok p _ hx
      have hlen:kvs.length = vs.length:=Paired.length r
      exact wpAny_truthy_dict hS m (by omega) ⟨H,I.tok _,by rw [isEmpty_kv r];exact q⟩
  | _=>exact (show False from e).elim
theorem pt_truth (ha:PE X a ta) (he:∀ whole,isTrue a X.env whole = (do let v ← whole;standAt a.pos;holding [v] (truthy v))) :
    PT X a (fun σ H Q=>ta σ H fun x H' => ∃ k,TruV X.K x H' k ∧ Q k H'):=by
  intro pins s σ H Q I h
  exact isTrue_plain (thn (ha pins s σ H _ I h) fun v s1 ⟨x,H1,I1,r1,q1⟩=>tru_ok pins s1 σ H1 x v Q I1 r1 q1) (he _)
theorem vals1 {x:V} {us:List Value} (r:Vals [x] us):∃ u,us = [u] ∧ RelV x u:=by
  cases r with
  | cons r1 r2=>cases r2;exact ⟨_,rfl,r1⟩
theorem call_abs:CallR X (.builtin "abs") (fun xs H Q => ∃ i,xs = [.int i] ∧ Q (.int (if i < 0 then -i else i)) H):=by
  intro pins s σ H xs us Q I r h
  obtain ⟨i,rfl,q⟩:=h
  obtain ⟨u,rfl,t,rfl⟩:=vals1 r
  exact call_abs_int fun u tk=>⟨.int (if i < 0 then -i else i),H,I.tok _,⟨_,rfl⟩,q⟩
end
end L2
namespace L2
open PySem PySem.Spec PyProof.Rows
structure ObjM (h:Heap) (x dx C:Addr) (mA:Str → Option Value):Prop where
  obj:h.get? x = some (PySem.W.instObj C dx)
  ns:h.Ns1 dx mA
  ne:dx ≠ x
theorem lookIn_ns {h:Heap} {dx:Addr} {mA:Str → Option Value} (n:h.Ns1 dx mA):∃ od,h.get? dx = some od ∧ ∀ name,PySem.W.lookIn name od = some (mA name):=by
  obtain ⟨o,es,ep,ho,hd,hk,_,hm⟩:=n
  refine ⟨o,ho,fun name => ?_⟩
  have e:=hm name
  unfold nsFind findBy at e
  rw [← Array.find?_toList] at e
  unfold PySem.W.lookIn
  rw [hd]
  dsimp only
  split
  · rename_i y q
    rw [q] at e
    exact congrArg some e
  · rename_i q
    rw [q] at e
    have a:es.toList.any (·.refKey) = false:=by
      rw [List.any_eq_false]
      intro y hy
      obtain ⟨z,t,hkey⟩:=hk y (Array.mem_toList_iff.mp hy)
      simp [DictEntry.refKey,hkey]
    have a':¬ es.toList.any (·.refKey) = true:=by rw [a];exact Bool.false_ne_true
    rw [if_neg a']
    exact congrArg some e
theorem ObjM.look {h:Heap} {x dx C:Addr} {mA:Str → Option Value} (I:ObjM h x dx C mA):∃ od,PySem.W.InstAt h x (PySem.W.instObj C dx) C (some od) ∧ ∀ name,PySem.W.lookIn name od = some (mA name) :=
  let ⟨od,ho,hl⟩:=lookIn_ns I.ns
  ⟨od,⟨I.obj,rfl,rfl,ho⟩,hl⟩
section
variable {prog:Program} {w:World} {A:Around} {E:Value → Shared → Prop} {s:Shared} {K:PySem.W.Frag} {x dx C f:Addr} {mA:Str → Option Value} {name:Str} {v:Value}
theorem get_map {expr:Bool} {Q:Value → Shared → Prop} (X:K.In s.heap) (I:ObjM s.heap x dx C mA) (hg:PySem.W.plainGet K C name = true) (hh:PySem.W.hasDictIn K C = true)
    (ha:PySem.W.findIn K (.ref C) name = some none) (hv:mA name = some v) (hv':PySem.W.handedIn v = true) (h:Q v { s with toks:=s.toks + 1 }) :
    wpAny (model prog w) A (getAttr (.ref x) name expr) Q E s:=by
  obtain ⟨od,J,hl⟩:=I.look
  exact PySem.W.get_value X J (PySem.W.plainGet_of hg).1 (PySem.W.findObj_own hh ha rfl (by rw [hl,hv])) hv' h
theorem get_meth {pl:Sem Bool} {Q:Value × List Value → Shared → Prop} (X:K.In s.heap) (I:ObjM s.heap x dx C mA) (hg:PySem.W.plainGet K C name = true)
    (hf:PySem.W.findIn K (.ref C) name = some (some (.ref f))) (ht:PySem.W.isFn K (.ref f) = true) (hv:mA name = none) (h:Q (.ref f,[.ref x]) s) :
    wpAny (model prog w) A (getMethod (.ref x) name pl) Q E s:=by
  obtain ⟨od,J,hl⟩:=I.look
  exact PySem.W.method_fn X J (PySem.W.plainGet_of hg).1 (PySem.W.plainGet_of hg).2 hf (beq_iff_eq.mp ht) (by show (PySem.W.lookIn name od).map (·.isSome) = some false;rw [hl,hv];rfl) h
theorem set_map {ns:List Str} {Q:Unit → Shared → Prop} (X:K.In s.heap) (I:ObjM s.heap x dx C mA)
    (hs:PySem.W.findIn K (.ref C) "__setattr__" = some (some (.builtin "object.__setattr__"))) (hp:PySem.W.plainOver K C = true) (ht:PySem.W.takerIn K C name = some none) (hh:PySem.W.hasDictIn K C = true)
    (hw:PySem.Within mA ns) (hsz:ns.length ≤ sizeLine)
    (h:∀ h',ObjM h' x dx C (fun y=>if y = name then some v else mA y) → Heap.SameBut dx s.heap h' → Q () { s with heap:=h',toks:=s.toks + 2 }) :
    wpAny (model prog w) A (setAttr (.ref x) name v) Q E s:=by
  obtain ⟨od,J,hl⟩:=I.look
  refine PySem.W.set_plain X J hs (PySem.W.osa_open (s:={ s with toks:=s.toks + 1 }) (r:=none) X J hp ht fun b => ?_)
  obtain ⟨cd,hc,hd'⟩:=PySem.W.any_some hh
  have hx:s.heap.get? x = some ⟨.ref C,some dx, .plain, #[]⟩:=I.obj
  refine wpAny_bind (wpAny_pure (wpAny_bind (wpAny_bind (wpAny_loadPart hx (wpAny_bind (PySem.W.Looks.here (s:={ s with toks:=s.toks + 1 }) (PySem.W.looks_clsIn X hc) ?_))))))
  rw [hd']
  refine wpAny_pure (a:=some dx) (wpAny_bind (wpAny_pure (wpAny_bind ?_)))
  refine wpAny_nsSet1 (s:={ s with toks:=s.toks + 1 }) I.ns fun h' hn2 hs2 => ?_
  obtain ⟨oD,esD,epD,hoD,hdD,hcD⟩:=hn2.count (PySem.Within.cons name v hw)
  refine wpAny_bind (wpAny_lookBehind hoD (by rw [hdD];exact pastItsLine_dict (Nat.le_trans hcD (by rw [List.length_cons];omega))) ?_)
  exact wpAny_pure (h _ ⟨(hs2.2 _ (Ne.symm I.ne)).trans I.obj,hn2,I.ne⟩ hs2)
theorem make_map {R:Result → Shared → Prop} {vs:List Value} {kw:List (Str × Value)} (X:K.In s.heap) (hm:PySem.W.makesIn K C = true)
    (hi:PySem.W.findIn K (.ref C) "__init__" = some (some (.ref f))) (hf:PySem.W.typeIn K (.ref f) = some (.type "function"))
    (h:codeAny (model prog w) (A.under (.builtin "type.__call__" ⟨.ref C :: vs,kw⟩)) (.call (.ref f) ⟨.ref (s.heap.objs.size + 1) :: vs,kw⟩) (PySem.W.InitBack (s.heap.objs.size + 1) R)
      { s with heap:=(s.heap.push PySem.W.emptyDict).push (PySem.W.instObj C s.heap.objs.size) }) :
    codeAny (model prog w) A (.call (.ref C) ⟨vs,kw⟩) R s:=by
  obtain ⟨hh,g,d,t,os⟩:=s
  exact PySem.W.make_core (PySem.W.makes_of X hm) (PySem.W.looks_findIn X hi) (fun self=>PySem.W.bind_fn X self hf) (.inl rfl) h
end
def putF (f:Str) (v:V):List (Str × V) → List (Str × V)
  | [] => [(f,v)]
  | (g,x) :: r=>if g = f then (g,v) :: r else (g,x) :: putF f v r
theorem lookup_putF (f g:Str) (v:V):∀ fs:List (Str × V),(putF f v fs).lookup g = if g = f then some v else fs.lookup g
  | [] => by
    show List.lookup g [(f,v)] = _
    by_cases h:g = f
    · have hb:(g == f) = true:=beq_iff_eq.mpr h
      simp only [List.lookup,hb,if_pos h]
    · have hb:(g == f) = false:=beq_eq_false_iff_ne.mpr h
      simp only [List.lookup,hb,if_neg h]
  | (k,x) :: r=>by
    have ih:=lookup_putF f g v r
    rw [show putF f v ((k,x) :: r) = (if k = f then (k,v) :: r else (k,x) :: putF f v r) from rfl]
    by_cases hk:k = f
    · rw [if_pos hk]
      by_cases h:g = k
      · have hb:(g == k) = true:=beq_iff_eq.mpr h
        simp only [List.lookup,hb,if_pos (h.trans hk)]
      · have hb:(g == k) = false:=beq_eq_false_iff_ne.mpr h
        simp only [List.lookup,hb,if_neg (fun e:g = f=>h (e.trans hk.symm))]
    · rw [if_neg hk]
      by_cases h:g = k
      · have hb:(g == k) = true:=beq_iff_eq.mpr h
        simp only [List.lookup,hb,if_neg (fun e:g = f=>hk (h.symm.trans e))]
      · have hb:(g == k) = false:=beq_eq_false_iff_ne.mpr h
        simp only [List.lookup,hb]
        exact ih
theorem keys_putF (f:Str) (v:V):∀ fs:List (Str × V),f ∈ (putF f v fs).map (·.1) ∧ ∀ g,g ∈ fs.map (·.1) → g ∈ (putF f v fs).map (·.1)
  | [] => ⟨by simp [putF],fun g h=>by simp at h⟩
  | (k,x) :: r=>by
    obtain ⟨i1,i2⟩:=keys_putF f v r
    rw [show putF f v ((k,x) :: r) = (if k = f then (k,v) :: r else (k,x) :: putF f v r) from rfl]
    by_cases hk:k = f
    · rw [if_pos hk]
      subst hk
      exact ⟨by simp,fun g h=>by simpa using h⟩
    · rw [if_neg hk]
      refine ⟨?_,fun g h => ?_⟩
      · rw [List.map_cons]
        exact List.mem_cons_of_mem _ i1
      · rw [List.map_cons] at h ⊢
        rcases List.mem_cons.mp h with e | e
        · exact List.mem_cons.mpr (.inl e)
        · exact List.mem_cons_of_mem _ (i2 g e)
theorem length_putF (f:Str) (v:V):∀ fs:List (Str × V),(putF f v fs).length ≤ fs.length + 1
  | [] => by simp [putF]
  | (k,x) :: r=>by
    have ih:=length_putF f v r
    rw [show putF f v ((k,x) :: r) = (if k = f then (k,v) :: r else (k,x) :: putF f v r) from rfl]
    by_cases hk:k = f
    · rw [if_pos hk,List.length_cons,List.length_cons];omega
    · rw [if_neg hk,List.length_cons,List.length_cons];omega
theorem RelO.some_of {v:V} {o:Option Value} (r:RelO (some v) o):∃ u,o = some u ∧ RelV v u:=by
  cases o with
  | none=>exact (show False from r).elim
  | some u=>exact ⟨u,rfl,r⟩
theorem RelO.none_of {o:Option Value} (r:RelO none o):o = none:=by
  cases o with
  | none=>rfl
  | some u=>exact (show False from r).elim
theorem handed_of {v:V} {u:Value} (r:RelV v u):PySem.W.handedIn u = true:=by
  cases v with
  | non=>cases (show u = Value.none from r);rfl
  | bl b=>cases (show u = Value.bool b from r);rfl
  | int i=>obtain ⟨t,e⟩:=(show ∃ t,u = Value.int i t from r);cases e;rfl
  | str x=>obtain ⟨t,e⟩:=(show ∃ t,u = Value.str x t from r);cases e;rfl
  | byt b=>obtain ⟨t,e⟩:=(show ∃ t,u = Value.bytes b t from r);cases e;rfl
  | flt b=>obtain ⟨t,e⟩:=(show ∃ t,u = Value.float b t from r);cases e;rfl
  | ref a=>cases (show u = Value.ref a from r);rfl
  | ty n=>cases (show u = Value.type n from r);rfl
section
variable {P:Program} {w:World} {H H':Hp} {h h':Heap} {a C dx:Addr} {fs fs':List (Str × V)}
theorem ins_get (hok:HOk P w H h) (e:H a = some (.ins C dx fs)):∃ mA,ObjM h a dx C mA ∧ (∀ f,RelO (fs.lookup f) (mA f)) ∧ PySem.Within mA (fs.map (·.1)) ∧ fs.length ≤ 1000 ∧ H dx = some (.own a):=by
  obtain ⟨d,z,ne,ob,mA,n,r,q⟩:=(show ObjOk P w H h a (.ins C dx fs) from hok a _ e)
  exact ⟨mA,⟨ob,n,ne⟩,r,q,z,d⟩
end
structure Cls (K:PySem.W.Frag) (C:Addr):Prop where
  pg:PySem.W.plainGet K C Str.empty = true
  hd:PySem.W.hasDictIn K C = true
  po:PySem.W.plainOver K C = true
  sa:PySem.W.findIn K (.ref C) "__setattr__" = some (some (.builtin "object.__setattr__"))
theorem Cls.get {K:PySem.W.Frag} {C:Addr} (c:Cls K C) (f:Str):PySem.W.plainGet K C f = true:=c.pg
def NoAttr (K:PySem.W.Frag) (C:Addr) (f:Str):Prop:=PySem.W.findIn K (.ref C) f = some none
theorem NoAttr.taker {K:PySem.W.Frag} {C:Addr} {f:Str} (n:NoAttr K C f):PySem.W.takerIn K C f = some none:=by
  unfold PySem.W.takerIn
  rw [show PySem.W.findIn K (.ref C) f = some none from n]
  rfl
structure Meth (K:PySem.W.Frag) (C:Addr) (m:Str) (f:Addr):Prop where
  at_:PySem.W.findIn K (.ref C) m = some (some (.ref f))
  fn:PySem.W.isFn K (.ref f) = true
  kp:PySem.W.keepIn K (.ref f) = true
section
variable {X:Cx} {pins:List (Addr × Obj)} {σ : St} {H:Hp} {s:Shared} {a C dx:Addr} {fs:List (Str × V)} {f:Str} {v:V} {A:Around} {E:Value → Shared → Prop}
theorem getattr_ok {b:Bool} {Q:Value → Shared → Prop} (I:Inv X pins σ H s) (e:H a = some (.ins C dx fs)) (c:Cls X.K C) (n:NoAttr X.K C f) (l:fs.lookup f = some v)
    (h:∀ u s',Inv X pins σ H s' → RelV v u → Q u s'):wpAny (model X.prog X.w) A (getAttr (.ref a) f b) Q E s:=by
  obtain ⟨mA,O,r,_,_,_⟩:=ins_get I.hok e
  obtain ⟨u,hu,ru⟩:=RelO.some_of (v:=v) (o:=mA f) (by rw [← l];exact r f)
  exact get_map I.kIn O (c.get f) c.hd n hu (handed_of ru) (h u _ (I.tok _) ru)
theorem getmeth_ok {m:Str} {g:Addr} {pl:Sem Bool} {Q:Value × List Value → Shared → Prop} (I:Inv X pins σ H s) (e:H a = some (.ins C dx fs)) (c:Cls X.K C) (k:Meth X.K C m g) (l:fs.lookup m = none)
    (h:Q (.ref g,[.ref a]) s):wpAny (model X.prog X.w) A (getMethod (.ref a) m pl) Q E s:=by
  obtain ⟨mA,O,r,_,_,_⟩:=ins_get I.hok e
  have hn:mA m = none:=RelO.none_of (by rw [← l];exact r m)
  exact get_meth I.kIn O (c.get m) k.at_ k.fn hn h
theorem setattr_ok {y:V} {u:Value} {Q:Unit → Shared → Prop} (I:Inv X pins σ H s) (e:H a = some (.ins C dx fs)) (c:Cls X.K C) (n:NoAttr X.K C f) (hl:fs.length < 1000) (ry:RelV y u)
    (h:∀ s',Inv X pins σ (upd H a (.ins C dx (putF f y fs))) s' → Q () s'):wpAny (model X.prog X.w) A (setAttr (.ref a) f u) Q E s:=by
  obtain ⟨mA,O,r,wi,_,ho⟩:=ins_get I.hok e
  have hz:(fs.map (·.1)).length ≤ sizeLine:=by rw [List.length_map,sizeLine_eq];omega
  refine set_map I.kIn O c.sa c.po n.taker c.hd wi hz fun h' O' sb=>h _ ?_
  have hd:∃ o,h'.get? dx = some o:=let ⟨o,_,_,e',_⟩:=O'.ns;⟨o,e'⟩
  refine I.write (x:=a) (e:=dx) (by rw [e];exact True.intro) (.inr ho) (fun b q hb z=>(sb.2 b hb).trans z) hd ?_
  refine ⟨by rw [upd_ne O.ne];exact ho, ?_,O.ne,O'.obj,_,O'.ns,fun g => ?_,fun g hg => ?_⟩
  · have:=length_putF f y fs;omega
  · show RelO ((putF f y fs).lookup g) (if g = f then some u else mA g)
    rw [lookup_putF]
    by_cases q:g = f
    · rw [if_pos q,if_pos q];exact ry
    · rw [if_neg q,if_neg q];exact r g
  · by_cases q:g = f
    · rw [q];exact (keys_putF f y fs).1
    · refine (keys_putF f y fs).2 g (wi g fun z=>hg ?_)
      show (if g = f then some u else mA g) = none
      rw [if_neg q];exact z
theorem Inv.made (I:Inv X pins σ H s):Inv X pins σ (upd (upd H s.heap.objs.size (.own (s.heap.objs.size + 1))) (s.heap.objs.size + 1) (.ins C s.heap.objs.size []))
    { s with heap:=(s.heap.push PySem.W.emptyDict).push (PySem.W.instObj C s.heap.objs.size) }:=by
  have e1:(s.heap.push PySem.W.emptyDict).get? s.heap.objs.size = some PySem.W.emptyDict:=Heap.get?_push_size s.heap rfl
  have e2:((s.heap.push PySem.W.emptyDict).push (PySem.W.instObj C s.heap.objs.size)).get? (s.heap.objs.size + 1) = some (PySem.W.instObj C s.heap.objs.size):=by
    have:=Heap.get?_push_size (s.heap.push PySem.W.emptyDict) (o:=PySem.W.instObj C s.heap.objs.size) rfl
    rwa [Heap.size_push] at this
  have e3:(s.heap.push PySem.W.emptyDict).Ns s.heap.objs.size (fun _=>none):=⟨PySem.W.emptyDict, #[],_,e1,rfl,(fun e he=>absurd he (by simp)),fun _=>rfl⟩
  have I1:=I.laid (a:=s.heap.objs.size) (o := .own (s.heap.objs.size + 1)) (h':=s.heap.push PySem.W.emptyDict) (t':=s.toks) (fun b u q=>Heap.get?_push_of_some _ q) (Nat.le_refl _) ⟨_,e1⟩
  refine I1.laid (a:=s.heap.objs.size + 1) (o := .ins C s.heap.objs.size []) (t':=s.toks) (fun b u q=>Heap.get?_push_of_some _ q) (Nat.le_of_eq (Heap.size_push _ _)) ?_
  have ne:s.heap.objs.size ≠ s.heap.objs.size + 1:=Nat.ne_of_lt (Nat.lt_succ_self _)
  refine ⟨by rw [upd_ne ne,upd_same],Nat.zero_le _,ne,e2,fun _=>none,(Heap.Ns1.of_empty e3).at fun o q=>Heap.get?_push_of_some _ q,fun _=>True.intro,fun y hy=>absurd rfl hy⟩
theorem attr_of {prog:Program} {w:World} {env:Env} {e:Expr} {f:Str} {pos:Pos} {s:Shared} {Q:Value → Shared → Prop} (hb:attributeBase e f env (eval e env) = eval e env)
    (h:wpAny (model prog w) A (eval e env) (fun o s₁ => wpAny (model prog w) A (getAttr o f true) Q E s₁) E s):wpAny (model prog w) A (eval (.Attribute e f pos) env) Q E s :=
  Attribute_any_ h (by rw [arm_eval_Attribute,hb])
end
def tFld (K:PySem.W.Frag) (ta:TE) (f:Str):TE:=fun σ H Q=>ta σ H fun x H1 => ∃ a C dx fs v,x = .ref a ∧ H1 a = some (.ins C dx fs) ∧ Cls K C ∧ NoAttr K C f ∧ fs.lookup f = some v ∧ Q v H1
def sFld (K:PySem.W.Frag) (ta tv:TE) (f:Str):TS:=fun D σ H=>tv σ H fun y H1=>ta σ H1 fun x H2 => ∃ a C dx fs,x = .ref a ∧ H2 a = some (.ins C dx fs) ∧ Cls K C ∧ NoAttr K C f ∧ fs.length < 1000 ∧
  D.nx σ (upd H2 a (.ins C dx (putF f y fs)))
section
variable {X:Cx} {o e value:Expr} {f:Str} {pos pos' tpos:Pos} {ta tv:TE}
theorem pe_fld (he:PE X e ta) (hb:attributeBase e f X.env (eval e X.env) = eval e X.env):PE X (.Attribute e f pos) (tFld X.K ta f):=by
  intro pins s σ H Q I h
  refine attr_of hb (thn (he pins s σ H _ I h) fun u s1 ⟨x,H1,I1,rx,a,C,dx,fs,v,ex,ea,c,n,l,q⟩ => ?_)
  subst ex
  obtain rfl:u = Value.ref a:=rx
  exact getattr_ok I1 ea c n l fun u' s2 I2 ru=>⟨v,H1,I2,ru,q⟩
theorem ps_fld (ha:PE X o ta) (hv:PE X value tv) (hs:swapsWith value (some (.Attribute o f pos')) pos.line X.env = pure false):PS X (.Assign [.Attribute o f pos'] value pos) (sFld X.K ta tv f):=by
  intro pins s σ H D I h
  refine plainObj_wpAny_Assign_Attribute (thn (hv pins s σ H _ I h) fun u s1 ⟨y,H1,I1,ry,q⟩=>thn (ha pins s1 σ H1 _ I1 q) fun ov s2 ⟨x,H2,I2,rx,a,C,dx,fs,ex,ea,c,n,l,q2⟩ => ?_) hs
  subst ex
  obtain rfl:ov = Value.ref a:=rx
  exact setattr_ok I2 ea c n l ry fun s3 I3=>⟨σ,_,I3,q2⟩
theorem methcall_of {pl:Sem Bool} {m:Str} {apos:Pos} {args:List Expr} {pins:List (Addr × Obj)} {s:Shared} {σ : St} {H:Hp} {Q:Value → Shared → Prop} {te:TE} (he:PE X e te) (I:Inv X pins σ H s)
    (h:te σ H fun x H1 => ∃ a C dx fs g,x = .ref a ∧ H1 a = some (.ins C dx fs) ∧ Cls X.K C ∧ Meth X.K C m g ∧ fs.lookup m = none ∧
      ∀ s1,Inv X pins σ H1 s1 → wpAny (model X.prog X.w) X.A (callWith pos (.ref g) [.ref a] (backTo pos (starEach args X.env)) (backToKw pos (keywordEach [] X.env))) Q X.xe s1)
    (ht:eval (.Call (.Attribute e m apos) args [] pos) X.env = (do
      let ov ← eval e X.env
      standAt apos.atName
      let (f,first) ← holding [ov] (getMethod ov m pl)
      callWith pos f first (backTo pos (starEach args X.env)) (backToKw pos (keywordEach [] X.env)))) :
    wpAny (model X.prog X.w) X.A (eval (.Call (.Attribute e m apos) args [] pos) X.env) Q X.xe s:=by
  refine PySem.W.methodCall_KW (pl:=pl) (thn (he pins s σ H _ I h) fun u s1 ⟨x,H1,I1,rx,a,C,dx,fs,g,ex,ea,c,k,l,q⟩ => ?_) ht
  subst ex
  obtain rfl:u = Value.ref a:=rx
  exact getmeth_ok I1 ea c k l (q s1 I1)
end
end L2
namespace L2
open PySem PySem.Spec PyProof.Rows
structure Room (k:Nat) (A:Around):Prop where
  hd:A.handled = none
  dp:A.depth + 3 * k + 5 < recursionLimit
  un:A.units + 16 * k + 200 < cLine
theorem Room.mono {j k:Nat} {A:Around} (r:Room k A) (h:j ≤ k):Room j A:=⟨r.hd,by have:=r.dp;omega,by have:=r.un;omega⟩
theorem Room.deeper {k:Nat} {A:Around} (r:Room (k + 1) A) (env:Env):Room k (A.deeper env) :=
  ⟨r.hd,by have:=r.dp;show A.depth + 1 + 3 * k + 5 < _;omega,by have:=r.un;show A.units + 3 + 16 * k + 200 < _;omega⟩
theorem make_depth {A:Around} {C:Addr} {us:List Value} {kw:List (Str × Value)} : (A.under (.builtin "type.__call__" ⟨.ref C :: us,kw⟩)).depth = A.depth + 1:=by
  first | rfl | simp [Around.under,Code.weight,Code.isCreation,Code.isGuard,Code.isCaller,Code.frames,Code.isFrame,guardIds]
theorem make_units {A:Around} {C:Addr} {us:List Value} {kw:List (Str × Value)} : (A.under (.builtin "type.__call__" ⟨.ref C :: us,kw⟩)).units = A.units + 1:=by
  first | rfl | simp [Around.under,Code.cUnits,Code.frames,Code.isFrame]
theorem Room.make {k:Nat} {A:Around} (r:Room (k + 1) A) (C:Addr) (us:List Value) (kw:List (Str × Value)):Room k (A.under (.builtin "type.__call__" ⟨.ref C :: us,kw⟩)) :=
  ⟨r.hd,by have:=r.dp;rw [make_depth];omega,by have:=r.un;rw [make_units];omega⟩
theorem Room.depth {k:Nat} {A:Around} (r:Room k A):A.depth < recursionLimit:=by have:=r.dp;omega
def tNil:TA:=fun _ H Q=>Q [] H
def tCons (ta:TE) (tr:TA):TA:=fun σ H Q=>ta σ H fun x H1=>tr σ H1 fun xs H2=>Q (x :: xs) H2
section
variable {X:Cx} {e:Expr} {es:List Expr} {te:TE} {t:TA} {pos:Pos}
theorem pa_nil:PA X [] tNil:=fun _ _ _ _ H Q I h=>Calls.spliced_nil ⟨[],H,I, .nil,h⟩
theorem pa_cons (ha:PE X e te) (hr:PA X es t) (hs:starEach (e :: es) X.env = (false,eval e X.env) :: starEach es X.env:=by rfl):PA X (e :: es) (tCons te t):=by
  intro pos pins s σ H Q I h
  rw [hs]
  show wpAny _ _ (spliced ((false,eval e X.env) :: backTo pos (starEach es X.env))) _ _ s
  refine Calls.spliced_cons (thn (ha pins s σ H _ I h) fun u s1 ⟨x,H1,I1,r1,q1⟩ => ?_)
  exact thn (hr pos pins s1 σ H1 _ I1 q1) fun us s2 ⟨xs,H2,I2,r2,q2⟩=>⟨x :: xs,H2,I2, .cons r1 r2,q2⟩
def tTup (t:TA):TE:=fun σ H Q=>t σ H fun xs H1=>xs.length ≤ sizeLine ∧ ∀ p,H1 p = none → Q (.ref p) (upd H1 p (.tup xs))
def tLst (t:TA):TE:=fun σ H Q=>t σ H fun xs H1=>xs.length ≤ sizeLine ∧ ∀ p,H1 p = none → Q (.ref p) (upd H1 p (.lst xs))
theorem pe_tup {x1} (h:PA X es t):PE X (.Tuple es x1 pos) (tTup t):=by
  intro pins s σ H Q I hq
  refine wpAny_Tuple_spliced (thn (h pos pins s σ H _ I hq) fun us s1 ⟨xs,H1,I1,r,z,q⟩=>⟨by rw [← r.length];exact z, ?_⟩)
  have hf:H1 s1.heap.objs.size = none:=I1.hok.fresh (Nat.le_refl _)
  refine ⟨.ref s1.heap.objs.size,upd H1 s1.heap.objs.size (.tup xs),I1.laid (t':=s1.toks) (fun b u e=>Heap.get?_push_of_some _ e) (Nat.le_refl _) ?_,rfl,q _ hf⟩
  exact ⟨z,us,r,⟨_,Heap.get?_push_size _ rfl,rfl,_,rfl⟩⟩
theorem pe_lst (h:PA X es t):PE X (.List es pos) (tLst t):=by
  intro pins s σ H Q I hq
  refine wpAny_List_spliced (thn (h pos pins s σ H _ I hq) fun us s1 ⟨xs,H1,I1,r,z,q⟩=>⟨by rw [← r.length];exact z, ?_⟩)
  have hf:H1 s1.heap.objs.size = none:=I1.hok.fresh (Nat.le_refl _)
  refine ⟨.ref s1.heap.objs.size,upd H1 s1.heap.objs.size (.lst xs),I1.laid (t':=s1.toks) (fun b u e=>Heap.get?_push_of_some _ e) (Nat.le_refl _) ?_,rfl,q _ hf⟩
  exact ⟨z,us,0,r,Heap.get?_push_size _ rfl⟩
end
abbrev Sp:=List V → Hp → VK → XK → Prop
abbrev CXT:=List Env → Hp → Shared → XK → Value → Shared → Prop
structure Env0 (P:Program) (w:World) (K:PySem.W.Frag) (mg:Str → Option Value) (base:Heap) (A:Around) (outer:List Env) (s:Shared) (H:Hp):Prop where
  frames:A.frames = some outer
  mod:Mod K mg base
  bs:∀ b o,base.get? b = some o → s.heap.get? b = some o ∧ H b = none
  bsz:base.objs.size ≤ s.heap.objs.size
  funs:s.heap.FunFrames base outer
  frf:∀ b ∈ frs outer,H b = none
  hok:HOk P w H s.heap
  bare:AllBare s.gens
def CE (outer:List Env) (P:Program) (w:World) (H:Hp) (s:Shared) (Q:VK) (u:Value) (s':Shared):Prop :=
  ∃ v H',s'.os = s.os ∧ AllBare s'.gens ∧ Un (frs outer) [] H H' s.heap s'.heap ∧ HOk P w H' s'.heap ∧ RelV v u ∧ Q v H'
def CR (CX:CXT) (outer:List Env) (P:Program) (w:World) (H:Hp) (s:Shared) (Q:VK) (E:XK) (r:Result) (s':Shared):Prop :=
  match r with
  | .ok (.ret u)=>CE outer P w H s Q u s'
  | .ok _=>False
  | .error e=>CX outer H s E e s'
structure FnOk (P:Program) (w:World) (K:PySem.W.Frag) (mg:Str → Option Value) (base:Heap) (CX:CXT) (k:Nat) (f:Addr) (fd:FuncData) (ps:List Str) (sp:Sp):Prop where
  len:∀ vs H Q E,sp vs H Q E → vs.length = ps.length
  run:∀ (A:Around) (outer:List Env) (s:Shared) (H:Hp) (args:Args) (us:List Value) (vs:List V) (Q:VK) (E:XK),Room k A → Env0 P w K mg base A outer s H → BindsTo s fd args (ps.zip us) → Vals vs us → sp vs H Q E →
    codeAny (model P w) A (.call (.ref f) args) (CR CX outer P w H s Q E) s
theorem Env0.make {P:Program} {w:World} {K:PySem.W.Frag} {mg:Str → Option Value} {base:Heap} {A:Around} {outer:List Env} {s:Shared} {H:Hp} (e:Env0 P w K mg base A outer s H) (C:Addr) (us:List Value) (kw:List (Str × Value)) :
    Env0 P w K mg base (A.under (.builtin "type.__call__" ⟨.ref C :: us,kw⟩)) outer s H:=⟨by first | exact e.frames | (simpa [Around.under,Code.envs,Code.isFrame,pushEnvs] using e.frames),e.mod,e.bs,e.bsz,e.funs,e.frf,e.hok,e.bare⟩
section
variable {X:Cx} {pins:List (Addr × Obj)} {σ : St} {H:Hp} {s s':Shared}
theorem Inv.env0 (I:Inv X pins σ H s):Env0 X.prog X.w X.K X.mg X.base X.A X.stack s H :=
  ⟨I.ok.frames,I.ok.mod,I.bs,Nat.le_trans I.ok.bsz I.sz,I.stack,I.stkFree,I.hok,I.bare⟩
theorem Inv.after {Q:VK} {u:Value} (I:Inv X pins σ H s) (h:CE X.stack X.prog X.w H s Q u s'):EP X pins σ Q u s':=by
  obtain ⟨v,H',os,bare,un,hok,r,q⟩:=h
  obtain ⟨hh,g,d,t,os'⟩:=s'
  obtain rfl:os' = s.os:=os
  exact ⟨v,H',I.call (h':=hh) (g':=g) (d':=d) (t':=t) (ch:=[]) un hok bare (fun b z=>absurd z (by simp)),r,q⟩
end
def tCall (sp:Sp) (dvs:List V) (E:XK) (t:TA):TE:=fun σ H Q=>t σ H fun vs H1=>sp (vs ++ dvs) H1 Q E
def tMeth (C:Addr) (m:Str) (sp:Sp) (dvs:List V) (E:XK) (ta:TE) (t:TA):TE:=fun σ H Q=>ta σ H fun x H1 => ∃ a dx fs,x = .ref a ∧ H1 a = some (.ins C dx fs) ∧ fs.lookup m = none ∧
  t σ H1 fun vs H2=>sp (x :: (vs ++ dvs)) H2 Q E
def tMake (C:Addr) (sp:Sp) (dvs:List V) (E:XK) (t:TA):TE:=fun σ H Q=>t σ H fun vs H1 => ∀ x dx,H1 x = none → H1 dx = none → dx ≠ x →
  sp (.ref x :: (vs ++ dvs)) (upd (upd H1 dx (.own x)) x (.ins C dx [])) (fun v H2=>v = .non ∧ Q (.ref x) H2) E
def Binds (K:PySem.W.Frag) (fd:FuncData) (ps:List Str) (ds:List Value):Prop :=
  ∀ (s:Shared) (us:List Value),K.In s.heap → (us ++ ds).length = ps.length → BindsTo s fd ⟨us,[]⟩ (ps.zip (us ++ ds))
theorem Binds.all {K:PySem.W.Frag} {fd:FuncData} {ps:List Str} (h:∀ us:List Value,us.length = ps.length → bindArgs fd ⟨us,[]⟩ = pure (ps.zip us)):Binds K fd ps []:=fun s us _ hl=>by
  rw [List.append_nil] at hl ⊢
  exact .of_eq (h us hl)
def Passes (CX:CXT) (X:Cx) (E:XK):Prop := ∀ (pins:List (Addr × Obj)) (σ : St) (H:Hp) (s:Shared) (e:Value) (s':Shared),Inv X pins σ H s → CX X.stack H s E e s' → X.xe e s'
section
variable {X:Cx} {CX:CXT} {k:Nat} {f C:Addr} {fd:FuncData} {ps:List Str} {sp:Sp} {dvs:List V} {ds:List Value} {E:XK} {x m:Str} {p pos apos:Pos} {e o:Expr} {es:List Expr} {ta:TE} {t:TA}
theorem run_fn {pins:List (Addr × Obj)} {σ : St} {H:Hp} {s:Shared} {Q:VK} {us:List Value} {vs:List V} (F:FnOk X.prog X.w X.K X.mg X.base CX k f fd ps sp) (hr:Room k X.A) (hb:Binds X.K fd ps ds) (hd:Vals dvs ds) (hx:Passes CX X E)
    (I:Inv X pins σ H s) (r:Vals vs us) (h:sp (vs ++ dvs) H Q E):wpAny (model X.prog X.w) X.A (call (.ref f) us) (EP X pins σ Q) X.xe s:=by
  have r2:Vals (vs ++ dvs) (us ++ ds):=r.append hd
  have hl:(us ++ ds).length = ps.length:=by rw [← r2.length];exact F.len _ _ _ _ h
  refine wpAny_call (codeAny_mono (F.run X.A X.stack s H ⟨us,[]⟩ (us ++ ds) (vs ++ dvs) Q E hr I.env0 (hb s us I.kIn hl) r2 h) fun r s' hq => ?_)
  cases r with
  | error e=>exact hx pins σ H s e s' I hq
  | ok fl =>
    cases fl with
    | ret u=>exact I.after hq
    | next=>exact False.elim hq
    | brk=>exact False.elim hq
    | cont=>exact False.elim hq
theorem pe_call (F:FnOk X.prog X.w X.K X.mg X.base CX k f fd ps sp) (hr:Room k X.A) (hg:Gl X x) (hm:X.mg x = some (.ref f)) (hk:PySem.W.keepIn X.K (.ref f) = true) (hb:Binds X.K fd ps ds) (hd:Vals dvs ds) (hx:Passes CX X E)
    (ha:PA X (e :: es) t) (hdb:(x == ("__debug__" : Str)) = false:=by decide) (he:starEach (e :: es) X.env = (false,eval e X.env) :: starEach es X.env:=by rfl) (hpl:(backTo pos (starEach es X.env)).any (·.1) = false:=by rfl) :
    PE X (.Call (.Name x p) (e :: es) [] pos) (tCall sp dvs E t):=by
  intro pins s σ H Q I h
  refine wpAny_Call_Name_kw (ld_glob I hg hm ?_ hdb)
  refine PySem.W.callWith_K (h₀:=X.base) I.ok.mod.kin hk (thn (ha pos pins s σ H _ I h) fun us s1 ⟨vs,H1,I1,r,q⟩=>⟨I1.kIn, ?_⟩) he hpl
  exact run_fn F hr hb hd hx I1 r q
theorem pe_meth {pl:Sem Bool} (he:PE X o ta) (c:Cls X.K C) (hm:Meth X.K C m f) (F:FnOk X.prog X.w X.K X.mg X.base CX k f fd ps sp) (hr:Room k X.A) (hb:Binds X.K fd ps ds) (hd:Vals dvs ds) (hx:Passes CX X E) (ha:PA X (e :: es) t)
    (hst:starEach (e :: es) X.env = (false,eval e X.env) :: starEach es X.env:=by rfl) (hpl:(backTo pos (starEach es X.env)).any (·.1) = false:=by rfl)
    (ht:eval (.Call (.Attribute o m apos) (e :: es) [] pos) X.env = (do
      let ov ← eval o X.env
      standAt apos.atName
      let (f,first) ← holding [ov] (getMethod ov m pl)
      callWith pos f first (backTo pos (starEach (e :: es) X.env)) (backToKw pos (keywordEach [] X.env))):=by rfl) :
    PE X (.Call (.Attribute o m apos) (e :: es) [] pos) (tMeth C m sp dvs E ta t):=by
  intro pins s σ H Q I h
  refine PySem.W.methodCall_KW (pl:=pl) (thn (he pins s σ H _ I h) fun u s1 ⟨x,H1,I1,rx,a,dx,fs,ex,ea,l,q⟩ => ?_) ht
  subst ex
  obtain rfl:u = Value.ref a:=rx
  refine getmeth_ok I1 ea c hm l ?_
  refine PySem.W.callWith_K (first:=[.ref a]) (h₀:=X.base) I.ok.mod.kin hm.kp (thn (ha pos pins s1 σ H1 _ I1 q) fun us s2 ⟨vs,H2,I2,r,q2⟩=>⟨I2.kIn, ?_⟩) hst hpl
  exact run_fn (us := .ref a :: us) (vs := .ref a :: vs) F hr hb hd hx I2 (.cons rfl r) q2
theorem pe_meth0 {pl:Sem Bool} (he:PE X o ta) (c:Cls X.K C) (hm:Meth X.K C m f) (F:FnOk X.prog X.w X.K X.mg X.base CX k f fd ps sp) (hr:Room k X.A) (hb:Binds X.K fd ps ds) (hd:Vals dvs ds) (hx:Passes CX X E)
    (ht:eval (.Call (.Attribute o m apos) [] [] pos) X.env = (do
      let ov ← eval o X.env
      standAt apos.atName
      let (f,first) ← holding [ov] (getMethod ov m pl)
      callWith pos f first (backTo pos (starEach [] X.env)) (backToKw pos (keywordEach [] X.env))):=by rfl) :
    PE X (.Call (.Attribute o m apos) [] [] pos) (tMeth C m sp dvs E ta tNil):=by
  intro pins s σ H Q I h
  refine PySem.W.methodCall_KW (pl:=pl) (thn (he pins s σ H _ I h) fun u s1 ⟨x,H1,I1,rx,a,dx,fs,ex,ea,l,q⟩ => ?_) ht
  subst ex
  obtain rfl:u = Value.ref a:=rx
  refine getmeth_ok I1 ea c hm l ?_
  exact PySem.W.callWith_K0 (first:=[.ref a]) I1.kIn hm.kp (run_fn (us:=[.ref a]) (vs:=[.ref a]) F hr hb hd hx I1 (.cons rfl .nil) q)
structure Mk (K:PySem.W.Frag) (C f:Addr):Prop where
  makes:PySem.W.makesIn K C = true
  init:PySem.W.findIn K (.ref C) "__init__" = some (some (.ref f))
  fn:PySem.W.isFn K (.ref f) = true
  kp:PySem.W.keepIn K (.ref C) = true
theorem run_make {pins:List (Addr × Obj)} {σ : St} {H:Hp} {s:Shared} {Q:VK} {us:List Value} {vs:List V} (M:Mk X.K C f) (F:FnOk X.prog X.w X.K X.mg X.base CX k f fd ps sp) (hr:Room (k + 1) X.A) (hb:Binds X.K fd ps ds) (hd:Vals dvs ds)
    (hx:Passes CX X E) (I:Inv X pins σ H s) (r:Vals vs us)
    (h:∀ x dx,H x = none → H dx = none → dx ≠ x → sp (.ref x :: (vs ++ dvs)) (upd (upd H dx (.own x)) x (.ins C dx [])) (fun v H2=>v = .non ∧ Q (.ref x) H2) E) :
    wpAny (model X.prog X.w) X.A (call (.ref C) us) (EP X pins σ Q) X.xe s:=by
  have hq:=h (s.heap.objs.size + 1) s.heap.objs.size (I.hok.fresh (Nat.le_succ _)) (I.hok.fresh (Nat.le_refl _)) (Nat.ne_of_lt (Nat.lt_succ_self _))
  have I2:=Inv.made (C:=C) I
  have r2:Vals (V.ref (s.heap.objs.size + 1) :: (vs ++ dvs)) (Value.ref (s.heap.objs.size + 1) :: (us ++ ds)) := .cons rfl (r.append hd)
  have hl:(Value.ref (s.heap.objs.size + 1) :: us ++ ds).length = ps.length:=by
    have e:=r2.length
    rw [F.len _ _ _ _ hq] at e
    exact e.symm
  refine wpAny_call (make_map (f:=f) I.kIn M.makes M.init (beq_iff_eq.mp M.fn) (codeAny_mono (F.run _ X.stack _ _ ⟨Value.ref (s.heap.objs.size + 1) :: us,[]⟩ (Value.ref (s.heap.objs.size + 1) :: (us ++ ds)) _ _ E (hr.make C us [])
    (I2.env0.make C us []) (hb _ (Value.ref (s.heap.objs.size + 1) :: us) I2.kIn hl) r2 hq) fun r s' hq' => ?_))
  cases r with
  | error e=>exact hx pins σ _ _ e s' I2 hq'
  | ok fl =>
    cases fl with
    | ret u =>
      obtain ⟨v,H',I3,rv,ev,q3⟩:=I2.after hq'
      subst ev
      exact ⟨rv,⟨V.ref (s.heap.objs.size + 1),H',I3,rfl,q3⟩⟩
    | next=>exact False.elim hq'
    | brk=>exact False.elim hq'
    | cont=>exact False.elim hq'
theorem pe_make (M:Mk X.K C f) (F:FnOk X.prog X.w X.K X.mg X.base CX k f fd ps sp) (hr:Room (k + 1) X.A) (hg:Gl X x) (hm:X.mg x = some (.ref C)) (hb:Binds X.K fd ps ds) (hd:Vals dvs ds) (hx:Passes CX X E)
    (ha:PA X (e :: es) t) (hdb:(x == ("__debug__" : Str)) = false:=by decide) (he:starEach (e :: es) X.env = (false,eval e X.env) :: starEach es X.env:=by rfl) (hpl:(backTo pos (starEach es X.env)).any (·.1) = false:=by rfl) :
    PE X (.Call (.Name x p) (e :: es) [] pos) (tMake C sp dvs E t):=by
  intro pins s σ H Q I h
  refine wpAny_Call_Name_kw (ld_glob I hg hm ?_ hdb)
  refine PySem.W.callWith_K (h₀:=X.base) I.ok.mod.kin M.kp (thn (ha pos pins s σ H _ I h) fun us s1 ⟨vs,H1,I1,r,q⟩=>⟨I1.kIn, ?_⟩) he hpl
  exact run_make M F hr hb hd hx I1 r q
end
structure FnScope (N P:List Str) (sc:Scope):Prop where
  kind:sc.kind = .function
  co:sc.isCoroutine = false
  gen:sc.isGenerator = false
  nd:N.Nodup
  pre:N.take P.length = P
  par:∀ x ∈ P,sc.names.lookup x = some .local ∨ sc.names.lookup x = some .cell
  nofree:∀ y ∈ sc.names,y.2 ≠ .free
theorem bindL_out {kindOf:Str → Option NameKind} {x:Str} : ∀ {binds:List (Str × Value)} {m:Str → Option Value},(∀ v,(x,v) ∉ binds) → bindL kindOf binds m x = m x
  | [],_,_=>rfl
  | (n,v) :: r,m,h=>by
    unfold bindL
    rw [bindL_out fun w hw=>h w (List.mem_cons_of_mem _ hw)]
    split
    · have:x ≠ n:=by rintro rfl;exact h v List.mem_cons_self
      simp [this]
    · rfl
theorem bindC_out {kindOf:Str → Option NameKind} {x:Str} : ∀ {binds:List (Str × Value)} {m:Str → Option Value},(∀ v,(x,v) ∉ binds) → bindC kindOf binds m x = m x
  | [],_,_=>rfl
  | (n,v) :: r,m,h=>by
    unfold bindC
    rw [bindC_out fun w hw=>h w (List.mem_cons_of_mem _ hw)]
    split
    · rfl
    · have:x ≠ n:=by rintro rfl;exact h v List.mem_cons_self
      simp [this]
theorem bindL_get {kindOf:Str → Option NameKind} {x:Str} {v:Value} : ∀ {P:List Str} {vs:List Value} {i:Nat} {m:Str → Option Value},P.Nodup → P[i]? = some x → vs[i]? = some v → kindOf x = some .local →
    bindL kindOf (P.zip vs) m x = some v
  | [],_,_,_,_,h,_,_=>by simp at h
  | _ :: _,[],_,_,_,_,h,_=>by simp at h
  | p :: P,w :: vs,0,m,nd,h1,h2,hk=>by
    simp at h1 h2;subst h1;subst h2
    show bindL kindOf ((p,w) :: P.zip vs) m p = _
    unfold bindL
    rw [bindL_out fun v hv=>(List.nodup_cons.mp nd).1 (List.of_mem_zip hv).1,if_pos hk]
    simp
  | p :: P,w :: vs,i + 1,m,nd,h1,h2,hk=>by
    show bindL kindOf ((p,w) :: P.zip vs) m x = _
    unfold bindL
    exact bindL_get (i:=i) (List.nodup_cons.mp nd).2 (by simpa using h1) (by simpa using h2) hk
theorem bindC_get {kindOf:Str → Option NameKind} {x:Str} {v:Value} : ∀ {P:List Str} {vs:List Value} {i:Nat} {m:Str → Option Value},P.Nodup → P[i]? = some x → vs[i]? = some v → kindOf x ≠ some .local →
    bindC kindOf (P.zip vs) m x = some v
  | [],_,_,_,_,h,_,_=>by simp at h
  | _ :: _,[],_,_,_,_,h,_=>by simp at h
  | p :: P,w :: vs,0,m,nd,h1,h2,hk=>by
    simp at h1 h2;subst h1;subst h2
    show bindC kindOf ((p,w) :: P.zip vs) m p = _
    unfold bindC
    rw [bindC_out fun v hv=>(List.nodup_cons.mp nd).1 (List.of_mem_zip hv).1,if_neg hk]
    simp
  | p :: P,w :: vs,i + 1,m,nd,h1,h2,hk=>by
    show bindC kindOf ((p,w) :: P.zip vs) m x = _
    unfold bindC
    exact bindC_get (i:=i) (List.nodup_cons.mp nd).2 (by simpa using h1) (by simpa using h2) hk
def start (N:List Str) (vs:List V):St:=vs.map some ++ List.replicate (N.length - vs.length) none
def cxOf (CX:CXT) (P:Program) (w:World) (K:PySem.W.Frag) (mg:Str → Option Value) (base:Heap) (N:List Str) (qual:Str) (scope:Scope) (f:Addr) (cd:Value) (A:Around) (outer:List Env) (s:Shared) (H:Hp) (E:XK):Cx where
  prog:=P
  w:=w
  K:=K
  mg:=mg
  base:=base
  A:=A.deeper (envOfC qual scope s.heap.objs.size f cd)
  N:=N
  s_0:=s
  H_0:=H
  env:=envOfC qual scope s.heap.objs.size f cd
  outer:=outer
  stack:=envOfC qual scope s.heap.objs.size f cd :: outer
  ex:=[]
  calm:=true
  fn:=fun _=>true
  pn:=[]
  xe:=fun e s'=>wpAny (model P w) (A.deeper (envOfC qual scope s.heap.objs.size f cd)) (leaving (envOfC qual scope s.heap.objs.size f cd) e) (fun _ s''=>CX outer H s E e s'') (fun e' s''=>CX outer H s E e' s'') s'
theorem cell_has {sc:Scope} {n:Nat} {x:Str} (h:sc.names.lookup x = some .cell):∃ c,(cellsFrom n sc.names []).lookup x = some c:=by
  have q:=PySem.W.cellsFrom_some sc.names n [] (.inl h)
  exact Option.isSome_iff_exists.mp q
theorem inv_start {CX:CXT} {P:Program} {w:World} {K:PySem.W.Frag} {mg:Str → Option Value} {base:Heap} {N ps:List Str} {qual:Str} {scope:Scope} {f:Addr} {cd:Value} {A:Around} {outer:List Env} {s s1:Shared} {H:Hp} {E:XK} {us:List Value} {vs:List V}
    (S:FnScope N ps scope) (hd:A.handled = none) (e0:Env0 P w K mg base A outer s H) (hl:vs.length = ps.length) (r:Vals vs us)
    (x:InCallC s s.heap.objs.size (bindL (envOfC qual scope s.heap.objs.size f cd).kindOf (ps.zip us) fun _=>none) (cellsFrom (s.heap.objs.size + 1) scope.names []) (bindC (envOfC qual scope s.heap.objs.size f cd).kindOf (ps.zip us) fun _=>none) s1) :
    Inv (cxOf CX P w K mg base N qual scope f cd A outer s H E) [] (start N vs) H s1:=by
  have hpl:ps.length ≤ N.length:=by have:=congrArg List.length S.pre;rw [List.length_take] at this;omega
  obtain ⟨h1,tk,rfl,hk⟩:=x.done
  have noA:∀ b:Addr,b ∉ (cxOf CX P w K mg base N qual scope f cd A outer s H E).ex:=fun b z=>absurd (show b ∈ ([] : List Addr) from z) (by simp)
  refine ⟨⟨e0.mod,S.kind,rfl,rfl,Nat.le_refl _,fun y z c h1 h2 => ?_,fun y hy => ?_,fun y c _ h => ?_,fun _=>hd,Around.frames_deeper e0.frames, .inr ⟨rfl,rfl⟩,fun b z=>absurd z (noA b),e0.bs,e0.bsz,fun b _ _=>noA b,fun b z=>absurd z (noA b),e0.funs,e0.frf⟩,
    rfl,e0.bare,Un.kept hk,⟨_,x.toInCall.ns,fun i y v h1 h2 h3 => ?_⟩,fun y c h=>⟨_,x.cell y c h⟩,e0.hok.fresh (Nat.le_refl _),fun y c h => ?_,fun p hp=>absurd (show p ∈ ([] : List (Addr × Obj)) from hp) (by simp),e0.hok.kept hk, ?_⟩
  · exact name_of_addr x.apart (PySem.mem_of_lookup h1) (PySem.mem_of_lookup h2)
  · have hy:scope.names.lookup y = some .cell ∨ scope.names.lookup y = some .free:=hy
    rcases hy with hy | hy
    · exact cell_has hy
    · exact absurd rfl (S.nofree _ (PySem.mem_of_lookup hy))
  · exact Nat.le_of_lt (x.above y c (PySem.mem_of_lookup h))
  · have hi:i < vs.length:=by
      unfold start at h2
      by_cases hi:i < vs.length
      · exact hi
      · rw [List.getElem?_append_right (by simpa using hi)] at h2
        rw [List.getElem?_replicate] at h2
        split at h2 <;> cases h2
    have ha:vs[i]? = some v:=by
      unfold start at h2
      rw [List.getElem?_append_left (by simpa using hi),List.getElem?_map] at h2
      cases e:vs[i]? with
      | none=>rw [e] at h2;cases h2
      | some a=>rw [e] at h2;cases h2;rfl
    obtain ⟨u,hu,rv⟩:=r.get ha
    have hp:ps[i]? = some y:=by
      rw [← S.pre,List.getElem?_take_of_lt (by omega)];exact h1
    have ndP:ps.Nodup:=by rw [← S.pre];exact S.nd.sublist (List.take_sublist _ _)
    refine ⟨u,rv, ?_⟩
    rcases S.par y (List.mem_of_getElem? hp) with k | k
    · exact .inl ⟨k,bindL_get ndP hp hu k⟩
    · obtain ⟨c,e⟩:=cell_has (n:=s.heap.objs.size + 1) k
      refine .inr ⟨.inl k,c,e, ?_⟩
      have q:=x.cell y c e
      rw [bindC_get ndP hp hu (by show scope.names.lookup y ≠ _;rw [k];decide)] at q
      exact q
  · exact e0.hok.fresh (Nat.le_of_lt (x.above y c (PySem.mem_of_lookup h)))
  · unfold start
    show _ = N.length
    rw [List.length_append,List.length_map,List.length_replicate]
    omega
theorem fn_of {CX:CXT} {P:Program} {w:World} {K:PySem.W.Frag} {mg:Str → Option Value} {base:Heap} {k:Nat} {f:Addr} {name qual:Str} {params:Arguments} {body:List Stmt} {scope:Scope} {dV kV doc pm cdv ct oc:Value} {an od:Option Addr}
    {osl:Array (Option Value)} {N ps:List Str} {sp:Sp} (lk:K.lookup f = some ⟨oc,od, .func (PySem.W.fnOf name qual params body scope dV kV doc pm an cdv ct),osl⟩) (hcd:PySem.W.codeIn K cdv qual = true) (S:FnScope N ps scope)
    (len:∀ vs H Q E,sp vs H Q E → vs.length = ps.length)
    (hbody:∀ (A:Around) (outer:List Env) (s:Shared) (H:Hp) (vs:List V) (Q:VK) (E:XK),Room k (A.deeper (envOfC qual scope s.heap.objs.size f cdv)) → sp vs H Q E →
      ∃ t,PSs (cxOf CX P w K mg base N qual scope f cdv A outer s H E) body t ∧ t { nx:=fun _ H'=>Q .non H',rt:=Q } (start N vs) H) :
    FnOk P w K mg base CX (k + 1) f (PySem.W.fnOf name qual params body scope dV kV doc pm an cdv ct) ps sp:=by
  refine ⟨len,fun A outer s H args us vs Q E hr e0 hb r hsp => ?_⟩
  have hl:=len _ _ _ _ hsp
  have KX:K.In s.heap:=e0.mod.kin.keeps fun b o e=>(e0.bs b o e).1
  have lim:s.heap.NoLimit:=e0.mod.nolimit.keeps fun b o e=>(e0.bs b o e).1
  have hkind:∀ y ∈ ps.zip us,scope.names.lookup y.1 = some .local ∨ (scope.names.lookup y.1 = some .cell ∧ ((cellsFrom (s.heap.objs.size + 1) scope.names []).lookup y.1).isSome = true):=fun ⟨n,v⟩ hy=>by
    rcases S.par n (List.of_mem_zip hy).1 with q | q
    · exact .inl q
    · exact .inr ⟨q,PySem.W.cellsFrom_some _ _ _ (.inl q)⟩
  refine codeAny_call_function hr.depth (KX _ _ lk) rfl S.co S.gen rfl (PySem.W.codeRec_of KX hcd) (hb _ _ _ _ ?_)
  refine wpAny_newFunctionEnv_cells S.kind hkind fun env he s1 x => ?_
  subst he
  refine ⟨lim.keeps x.toInCall.keep,codeAny_func ?_⟩
  obtain ⟨t,ht,hq⟩:=hbody A outer s H vs Q E (hr.deeper _) hsp
  have I:Inv (cxOf CX P w K mg base N qual scope f cdv A outer s H E) [] (start N vs) H s1:=inv_start S hr.hd e0 hl r x
  refine wpAny_mono (ht [] s1 (start N vs) H _ I hq) (fun fl s' hs => ?_) fun e s' hs=>hs
  have fin:∀ {σ':St} {H':Hp} {v:V} {u:Value},Inv (cxOf CX P w K mg base N qual scope f cdv A outer s H E) [] σ' H' s' → RelV v u → Q v H' → CE outer P w H s Q u s' :=
    fun {σ' H' v u} J rv q=>⟨v,H',J.os,J.bare,J.base,J.hok,rv,q⟩
  cases fl with
  | ret u =>
    obtain ⟨v, σ',H',J,rv,q⟩:=hs
    exact fin J rv q
  | next =>
    obtain ⟨σ',H',J,q⟩:=hs
    exact fin (v:=V.non) (u:=Value.none) J rfl q
  | brk =>
    obtain ⟨_,_,_,q⟩:=hs
    exact False.elim q
  | cont =>
    obtain ⟨_,_,_,q⟩:=hs
    exact False.elim q
end L2
namespace L2
open PySem PySem.Spec PyProof.Rows
section
variable {X:Cx} {x:Str} {p pos:Pos} {e:Expr} {es:List Expr} {t:TA} {id T:String} {r:List V → Hp → VK → Prop}
def tCB (r:List V → Hp → VK → Prop) (t:TA):TE:=fun σ H Q=>t σ H fun vs H1=>r vs H1 Q
theorem pe_callB (hc:CallR X (.builtin id) r) (hg:Gl X x) (hm:X.mg x = none) (hv:bootBuiltins x = some (.builtin id)) (ha:PA X (e :: es) t) (hn:x ≠ "__name__":=by decide) (hdb:(x == ("__debug__" : Str)) = false:=by decide)
    (he:starEach (e :: es) X.env = (false,eval e X.env) :: starEach es X.env:=by rfl) (hpl:(backTo pos (starEach es X.env)).any (·.1) = false:=by rfl):PE X (.Call (.Name x p) (e :: es) [] pos) (tCB r t):=by
  intro pins s σ H Q I h
  refine wpAny_Call_Name_kw (ld_blt I hg hm hv ?_ hn hdb)
  exact PyProof.Rows.callWith_builtin1 (thn (ha pos pins s σ H _ I h) fun us s1 ⟨vs,H1,I1,r1,q1⟩=>hc pins s1 σ H1 vs us Q I1 r1 q1) he hpl
theorem pe_callTy (hc:CallR X (.type T) r) (hg:Gl X x) (hm:X.mg x = none) (hv:bootBuiltins x = some (.type T)) (ha:PA X (e :: es) t) (hn:x ≠ "__name__":=by decide) (hdb:(x == ("__debug__" : Str)) = false:=by decide)
    (he:starEach (e :: es) X.env = (false,eval e X.env) :: starEach es X.env:=by rfl) (hpl:(backTo pos (starEach es X.env)).any (·.1) = false:=by rfl):PE X (.Call (.Name x p) (e :: es) [] pos) (tCB r t):=by
  intro pins s σ H Q I h
  refine wpAny_Call_Name_kw (ld_blt I hg hm hv ?_ hn hdb)
  exact PyProof.Rows.callWith_type1 (thn (ha pos pins s σ H _ I h) fun us s1 ⟨vs,H1,I1,r1,q1⟩=>hc pins s1 σ H1 vs us Q I1 r1 q1) he hpl
end
end L2
namespace HT
open PySem PyProof.Rows
section
variable {prog:Program} {w:World} {A:Around} {E:Value → Shared → Prop} {s:Shared}
def sIx (n d:Nat):Option Int → Nat
  | none=>d
  | some v=>if v < 0 then (v + (n:Int)).toNat else min v.toNat n
theorem sIx_none (n d:Nat):sIx n d none = d:=rfl
theorem sIx_nat (n d k:Nat):sIx n d (some (k:Int)) = min k n:=by
  show (if (k:Int) < 0 then ((k:Int) + (n:Int)).toNat else min (k:Int).toNat n) = min k n
  rw [if_neg (by omega),Int.toNat_natCast]
end
end HT
namespace L2
open PySem PySem.Spec PyProof.Rows
abbrev TO:=St → Hp → (Option Int → Hp → Prop) → Prop
def PO (X:Cx) (e:Option Expr) (t:TO):Prop :=
  ∀ (pins:List (Addr × Obj)) (s:Shared) (σ : St) (H:Hp) (Q:Option Int → Hp → Prop),Inv X pins σ H s → t σ H Q →
    wpAny (model X.prog X.w) X.A (evalPart e X.env) (fun u s' => ∃ o H',Inv X pins σ H' s' ∧ IsPart u o ∧ Q o H') X.xe s
def tNoPart:TO:=fun _ H Q=>Q none H
def tPart (t:TE):TO:=fun σ H Q=>t σ H fun x H1 => ∃ i,x = .int i ∧ Q (some i) H1
section
variable {X:Cx} {e:Expr} {te:TE} {lo hi:Option Expr} {tl th:TO} {pos p2:Pos}
theorem po_none:PO X none tNoPart:=by
  intro pins s σ H Q I h
  rw [evalPart_none]
  exact wpAny_pure ⟨none,H,I, .none,h⟩
theorem po_some (h:PE X e te):PO X (some e) (tPart te):=by
  intro pins s σ H Q I hw
  rw [evalPart_some]
  refine thn (h pins s σ H _ I hw) fun u s1 ⟨x,H1,I1,r1,q1⟩ => ?_
  obtain ⟨i,rfl,q⟩:=q1
  obtain ⟨t,rfl⟩:=r1
  exact ⟨some i,H1,I1, .int i t,q⟩
def SlR (X:Cx) (r:V → Option Int → Option Int → Hp → VK → Prop):Prop :=
  ∀ (pins:List (Addr × Obj)) (s:Shared) (σ : St) (H:Hp) (x:V) (v vl vu:Value) (lo hi:Option Int) (sl:Addr) (Q:VK),Inv X pins σ H s → RelV x v → s.heap.IsSliceOf sl vl vu .none → IsPart vl lo → IsPart vu hi → r x lo hi H Q →
    ∃ T id,typeLookup (.type T) "__getitem__" = pure (some (.builtin id)) ∧ s.TypeIs v T ∧ wpAny (model X.prog X.w) X.A (getItem v (.ref sl)) (EP X pins σ Q) X.xe s
def tSl (r:V → Option Int → Option Int → Hp → VK → Prop) (te:TE) (tl th:TO):TE:=fun σ H Q=>te σ H fun x H1=>tl σ H1 fun l H2=>th σ H2 fun u H3=>r x l u H3 Q
theorem pe_slice {r:V → Option Int → Option Int → Hp → VK → Prop} (hr:SlR X r) (he:PE X e te) (hl:PO X lo tl) (hu:PO X hi th):PE X (.Subscript e (.Slice lo hi none p2) pos) (tSl r te tl th):=by
  intro pins s σ H Q I h
  refine Subscript_ (thn (he pins s σ H _ I h) fun v s1 ⟨x,H1,I1,r1,q1⟩ => ?_)
  refine wpAny_Slice (thn (hl pins s1 σ H1 _ I1 q1) fun vl s2 ⟨l,H2,I2,pl,q2⟩=>thn (hu pins s2 σ H2 _ I2 q2) fun vu s3 ⟨u,H3,I3,pu,q3⟩ => ?_)
  rw [evalPart_none]
  refine wpAny_pure ?_
  have I4:Inv X pins σ H3 { s3 with heap:=s3.heap.push { cls := .type "slice",data := .fields #[vl,vu, .none] } }:=I3.kept (t':=s3.toks) fun b ob q=>Heap.get?_push_of_some _ q
  obtain ⟨T,id,hT,ht,hg⟩:=hr pins { s3 with heap:=s3.heap.push { cls := .type "slice",data := .fields #[vl,vu, .none] } } σ H3 x v vl vu l u s3.heap.objs.size Q I4 r1 (Heap.IsSliceOf.new ..) pl pu q3
  show wpAny (model X.prog X.w) X.A (subscriptTail e (.Slice lo hi none p2) v (.ref s3.heap.objs.size)) (EP X pins σ Q) X.xe { s3 with heap:=s3.heap.push { cls := .type "slice",data := .fields #[vl,vu, .none] } }
  exact tail_any (ops:=[.ref s3.heap.objs.size,v]) ht hT hg (by with_unfolding_all rfl)
def cutV (xs:List V) (lo hi:Option Int):List V:=(xs.drop (HT.sIx xs.length 0 lo)).take (HT.sIx xs.length xs.length hi - HT.sIx xs.length 0 lo)
theorem cutV_length (xs:List V) (lo hi:Option Int):(cutV xs lo hi).length ≤ xs.length:=by
  unfold cutV
  rw [List.length_take,List.length_drop]
  omega
end
end L2
namespace L2
open PySem PySem.Spec PyProof.Rows
def ixN (n:Nat) (i:Int):Option Nat:=if 0 ≤ i then (if i < n then some i.toNat else none) else if -(n:Int) ≤ i then some (i + n).toNat else none
def atI {α : Type} (xs:List α) (i:Int):Option α:=(ixN xs.length i).bind fun j=>xs[j]?
theorem ixN_seq {n:Nat} {i:Int} {j:Nat} (h:ixN n i = some j):seqIndex? i n = some j ∧ j < n ∧ -(n:Int) ≤ i ∧ i < n:=by
  unfold ixN at h
  by_cases h0:0 ≤ i
  · rw [if_pos h0] at h
    by_cases h1:i < n
    · rw [if_pos h1] at h
      have e:i.toNat = j:=Option.some.inj h
      exact ⟨by rw [seqIndex_of h0 h1,e],by omega,by omega,h1⟩
    · rw [if_neg h1] at h;cases h
  · rw [if_neg h0] at h
    by_cases h1 : -(n:Int) ≤ i
    · rw [if_pos h1] at h
      have e:(i + n).toNat = j:=Option.some.inj h
      exact ⟨by rw [seqIndex_neg (by omega) h1,e],by omega,h1,by omega⟩
    · rw [if_neg h1] at h;cases h
theorem atI_get {α : Type} {xs:List α} {i:Int} {v : α} (h:atI xs i = some v):∃ j,seqIndex? i xs.length = some j ∧ xs[j]? = some v ∧ j < xs.length ∧ -(xs.length:Int) ≤ i ∧ i < xs.length:=by
  unfold atI at h
  cases e:ixN xs.length i with
  | none=>rw [e] at h;cases h
  | some j =>
    rw [e] at h
    obtain ⟨h1,h2,h3,h4⟩:=ixN_seq e
    exact ⟨j,h1,h,h2,h3,h4⟩
theorem atI_nat {α : Type} {xs:List α} {j:Nat} {v : α} (h:xs[j]? = some v):atI xs (j:Int) = some v:=by
  have hj:j < xs.length:=(List.getElem?_eq_some_iff.mp h).1
  have e:ixN xs.length (j:Int) = some j:=by
    unfold ixN
    rw [if_pos (by omega),if_pos (by omega)];simp
  unfold atI;rw [e];exact h
def PlainIx (b:Expr):Prop := ∀ o i,subscripted b false o i = operate [o,i] (getItem o i)
def IxR (X:Cx) (r:R2):Prop :=
  ∀ (value slice:Expr) (pins:List (Addr × Obj)) (s:Shared) (σ : St) (H:Hp) (x y:V) (v u:Value) (Q:VK),Inv X pins σ H s → RelV x v → RelV y u → r x y H Q →
    subscripted slice false v u = operate [v,u] (getItem v u) → wpAny (model X.prog X.w) X.A (subscriptTail value slice v u) (EP X pins σ Q) X.xe s
def MtR (X:Cx) (id:String) (r:V → List V → Hp → VK → Prop):Prop :=
  ∀ (pins:List (Addr × Obj)) (s:Shared) (σ : St) (H:Hp) (x:V) (xs:List V) (v:Value) (us:List Value) (Q:VK),Inv X pins σ H s → RelV x v → Vals xs us → r x xs H Q →
    wpAny (model X.prog X.w) X.A (call (.builtin id) (v :: us)) (EP X pins σ Q) X.xe s
section
variable {X:Cx} {a b:Expr} {ta tb:TE} {pos:Pos}
theorem pe_ix {r:R2} (hr:IxR X r) (ha:PE X a ta) (hb:PE X b tb) (hs:PlainIx b):PE X (.Subscript a b pos) (tOp r ta tb):=by
  intro pins s σ H Q I h
  exact Subscript_ (binT ha hb I h fun v u s2 x y H2 I2 rx ry q=>hr a b pins s2 σ H2 x y v u Q I2 rx ry q (hs _ _))
def rIxL (K:PySem.W.Frag):R2:=fun x y H Q => ∃ p xs i v,x = .ref p ∧ y = .int i ∧ SqL K H p xs ∧ atI xs i = some v ∧ Q v H
def rIxT (K:PySem.W.Frag):R2:=fun x y H Q => ∃ p xs i v,x = .ref p ∧ y = .int i ∧ SqT K H p xs ∧ atI xs i = some v ∧ Q v H
theorem ix_list:IxR X (rIxL X.K):=by
  intro value slice pins s σ H x y v u Q I rx ry h hs
  obtain ⟨p,xs,i,z,rfl,rfl,hq,he,q⟩:=h
  cases rx
  obtain ⟨t,rfl⟩:=ry
  obtain ⟨its,r,pl,hz⟩:=I.list hq
  obtain ⟨j,h1,h2,h3,h4,h5⟩:=atI_get he
  obtain ⟨w,ew,rw'⟩:=r.get h2
  have hl:=r.length
  have hn:=line63
  have fin:EP X pins σ Q w s:=⟨z,H,I,rw',q⟩
  by_cases h0:0 ≤ i
  · have hj:i.toNat = j:=by
      rw [seqIndex_of h0 h5] at h1
      exact Option.some.inj h1
    exact item_listR pl.isList h0 (by omega) (by rw [hj];simpa using ew) fin hs
  · have hj:(i + (its.toArray.size:Int)).toNat = j:=by
      rw [seqIndex_neg (by omega) h4] at h1
      rw [List.size_toArray, ← hl]
      exact Option.some.inj h1
    exact subscriptTail_builtinR (x:=w) pl.isList.typeIs slot_list_getitem.lookup
      (wpAny_getItem_list_neg (Q:=fun r s'=>r = w ∧ EP X pins σ Q r s') pl.isList (by omega) (by rw [List.size_toArray] <;> omega) (by omega) (by rw [hj];simpa using ew) ⟨rfl,fin⟩) hs
theorem ix_tup:IxR X (rIxT X.K):=by
  intro value slice pins s σ H x y v u Q I rx ry h hs
  obtain ⟨p,xs,i,z,rfl,rfl,hq,he,q⟩:=h
  cases rx
  obtain ⟨t,rfl⟩:=ry
  obtain ⟨its,r,pl,hz⟩:=I.tuple hq
  obtain ⟨j,h1,h2,h3,h4,h5⟩:=atI_get he
  obtain ⟨w,ew,rw'⟩:=r.get h2
  have hl:=r.length
  have hn:=line63
  have fin:EP X pins σ Q w s:=⟨z,H,I,rw',q⟩
  exact subscriptTail_builtinR (x:=w) pl.typeIs slot_tuple_getitem.lookup
    (getItem_tuple (j:=j) (Q:=fun r s'=>r = w ∧ EP X pins σ Q r s') pl (by omega) (by omega) (by rw [List.size_toArray, ← hl];exact h1) (by simpa using ew) ⟨rfl,fin⟩) hs
theorem mapSeq_set (its:List Value) (n j:Nat) (u:Value):Obj.mapSeq (·.setIfInBounds j u) { cls := .type "list",data := .seq its.toArray n } = { cls := .type "list",data := .seq (its.set j u).toArray n }:=by
  simp [Obj.mapSeq]
theorem Inv.lst {pins:List (Addr × Obj)} {σ : St} {H:Hp} {s:Shared} {p:Addr} {xs:List V} (I:Inv X pins σ H s) (h:H p = some (.lst xs)) :
    ∃ (its:List Value) (n:Nat),Vals xs its ∧ s.heap.get? p = some { cls := .type "list",data := .seq its.toArray n } ∧ xs.length ≤ sizeLine:=by
  obtain ⟨z,its,n,r,e⟩:=I.hok p _ h
  exact ⟨its,n,r,e,z⟩
theorem Inv.lstUpd {pins:List (Addr × Obj)} {σ : St} {H:Hp} {s:Shared} {p:Addr} {xs ys:List V} {its its':List Value} {n n':Nat} {f:Obj → Obj} (I:Inv X pins σ H s) (h:H p = some (.lst xs))
    (ho:s.heap.get? p = some { cls := .type "list",data := .seq its.toArray n }) (hf:f { cls := .type "list",data := .seq its.toArray n } = { cls := .type "list",data := .seq its'.toArray n' }) (r:Vals ys its') (hz:ys.length ≤ sizeLine) (t:Nat) :
    Inv X pins σ (upd H p (.lst ys)) { s with heap:=s.heap.update p f,toks:=t }:=by
  have e:(s.heap.update p f).get? p = some { cls := .type "list",data := .seq its'.toArray n' }:=by
    rw [Heap.get?_update_self f ho (by rw [hf] <;> rfl),hf]
  refine I.write (x:=p) (e:=p) (by rw [h];trivial) (.inl rfl) (fun b u hb q=>(Heap.get?_update_other _ _ (Ne.symm hb)).trans q) ⟨_,e⟩ ?_
  exact ⟨hz,its',n',r,e⟩
def rSetL:V → V → V → Hp → (Hp → Prop) → Prop:=fun o i v H Q => ∃ p xs k j,o = .ref p ∧ i = .int k ∧ H p = some (.lst xs) ∧ ixN xs.length k = some j ∧ Q (upd H p (.lst (xs.set j v)))
theorem set_list:PSet X rSetL:=by
  intro pins s σ H o i v ov iv u Q I ro ri rv h
  obtain ⟨p,xs,k,j,rfl,rfl,hp,hj,q⟩:=h
  cases ro
  obtain ⟨t,rfl⟩:=ri
  obtain ⟨its,n,r,ho,hz⟩:=I.lst hp
  obtain ⟨h1,h2,h3,h4⟩:=ixN_seq hj
  have hl:=r.length
  have hn:=line63
  have I':Inv X pins σ (upd H p (.lst (xs.set j v))) { s with heap:=s.heap.update p (Obj.mapSeq (·.setIfInBounds j u)) } :=
    I.lstUpd hp ho (mapSeq_set its n j u) (r.set rv j) (by rw [List.length_set];exact hz) s.toks
  by_cases h0:0 ≤ k
  · have hk:k.toNat = j:=by
      rw [seqIndex_of h0 h4] at h1
      exact Option.some.inj h1
    exact PySem.W.ki_setAt ho h0 (by omega) (by rw [List.size_toArray, ← hl];exact h4) (by rw [hk];exact ⟨_,I',q⟩)
  · have hk:(k + (its.toArray.size:Int)).toNat = j:=by
      rw [seqIndex_neg (by omega) h3] at h1
      rw [List.size_toArray, ← hl]
      exact Option.some.inj h1
    exact PySem.W.ki_setBack ho (by omega) (by rw [List.size_toArray, ← hl];exact h3) (by omega) (by rw [hk];exact ⟨_,I',q⟩)
theorem slice_bounds (lo hi:Option Int) (n:Nat):(sliceBounds lo hi none n).1 = ((HT.sIx n 0 lo:Nat):Int) ∧ (sliceBounds lo hi none n).2.1 = ((HT.sIx n n hi:Nat):Int) ∧ (sliceBounds lo hi none n).2.2 = 1:=by
  refine ⟨?_, ?_,rfl⟩
  · cases lo with
    | none=>simp [sliceBounds,HT.sIx]
    | some i =>
      simp only [sliceBounds,HT.sIx,Option.getD_none,show (1:Int) > 0 by decide,if_true]
      by_cases h:i < 0
      · simp only [h,if_true] <;> omega
      · simp only [h,if_false] <;> omega
  · cases hi with
    | none=>simp [sliceBounds,HT.sIx]
    | some i =>
      simp only [sliceBounds,HT.sIx,Option.getD_none,show (1:Int) > 0 by decide,if_true]
      by_cases h:i < 0
      · simp only [h,if_true] <;> omega
      · simp only [h,if_false] <;> omega
theorem slicePick_cut (its:List Value) (lo hi:Option Int):slicePick its.toArray lo hi none = ((its.drop (HT.sIx its.length 0 lo)).take (HT.sIx its.length its.length hi - HT.sIx its.length 0 lo)).toArray:=by
  obtain ⟨h1,h2,h3⟩:=slice_bounds lo hi its.toArray.size
  unfold slicePick
  rw [h1,h2,h3]
  simp only [sliceRange_one,pick_run,List.size_toArray] <;> rfl
def rSlL (K:PySem.W.Frag):V → Option Int → Option Int → Hp → VK → Prop:=fun x lo hi H Q => ∃ a xs,x = .ref a ∧ SqL K H a xs ∧ ∀ p,H p = none → Q (.ref p) (upd H p (.lst (cutV xs lo hi)))
theorem sl_list:SlR X (rSlL X.K):=by
  intro pins s σ H x v vl vu lo hi sl Q I rx hs pl pu h
  obtain ⟨a,xs,rfl,hx,q⟩:=h
  cases rx
  obtain ⟨its,r,ht,hz⟩:=I.list hx
  have hlen:=r.length
  refine ⟨"list",_,slot_list_getitem.lookup,ht.isList.typeIs, ?_⟩
  refine wpAny_getItem_list_slice ht.isList hs pl pu .none (by simp) ?_ (by rw [List.size_toArray] <;> omega)
  rw [slicePick_cut, ← hlen]
  refine ⟨.ref s.heap.objs.size,_,I.laid (t':=s.toks) (o := .lst (cutV xs lo hi)) (fun b ob q=>Heap.get?_push_of_some _ q) (Nat.le_refl _) ?_,rfl,q _ (I.hok.fresh (Nat.le_refl _))⟩
  exact ⟨Nat.le_trans (cutV_length xs lo hi) hz,_,0,(r.drop (HT.sIx xs.length 0 lo)).take (HT.sIx xs.length xs.length hi - HT.sIx xs.length 0 lo),Heap.get?_push_size _ rfl⟩
def flatV:V → Bool
  | .non=>true
  | .bl _=>true
  | .int _=>true
  | .str _=>true
  | _=>false
def eqV:V → V → Bool
  | .non, .non=>true
  | .bl a, .bl b=>a == b
  | .bl a, .int b=>(if a then 1 else 0) == b
  | .int a, .bl b=>a == (if b then 1 else 0)
  | .int a, .int b=>a == b
  | .str a, .str b=>a == b
  | _,_=>false
theorem eqAt_V {A:Around} {s:Shared} {y x:V} {u v:Value} (ry:RelV y u) (rx:RelV x v) (fy:flatV y = true) (fx:flatV x = true):SeqAt.EqAt A s u v (eqV y x):=by
  cases y with
  | non =>
    cases ry
    cases x with
    | non=>cases rx;exact SeqAt.EqAt.same _
    | bl b=>cases rx;exact SeqAt.EqAt.none_bool b
    | int b=>obtain ⟨t,rfl⟩:=rx;exact SeqAt.EqAt.none_int b t
    | str b=>obtain ⟨t,rfl⟩:=rx;exact SeqAt.EqAt.none_str b t
    | _=>exact absurd (show false = true from fx) Bool.false_ne_true
  | bl a =>
    cases ry
    cases x with
    | non=>cases rx;exact SeqAt.EqAt.bool_none a
    | bl b=>cases rx;exact SeqAt.EqAt.bool_bool a b
    | int b=>obtain ⟨t,rfl⟩:=rx;exact SeqAt.EqAt.bool_int a b t
    | str b=>obtain ⟨t,rfl⟩:=rx;exact SeqAt.EqAt.bool_str a b t
    | _=>exact absurd (show false = true from fx) Bool.false_ne_true
  | int a =>
    obtain ⟨t',rfl⟩:=ry
    cases x with
    | non=>cases rx;exact SeqAt.EqAt.int_none a t'
    | bl b=>cases rx;exact SeqAt.EqAt.int_bool a t' b
    | int b=>obtain ⟨t,rfl⟩:=rx;exact SeqAt.EqAt.int_int a t' b t
    | str b=>obtain ⟨t,rfl⟩:=rx;exact SeqAt.EqAt.int_str a t' b t
    | _=>exact absurd (show false = true from fx) Bool.false_ne_true
  | str a =>
    obtain ⟨t',rfl⟩:=ry
    cases x with
    | non=>cases rx;exact SeqAt.EqAt.str_none a t'
    | bl b=>cases rx;exact SeqAt.EqAt.str_bool a t' b
    | int b=>obtain ⟨t,rfl⟩:=rx;exact SeqAt.EqAt.str_int a t' b t
    | str b=>obtain ⟨t,rfl⟩:=rx;exact SeqAt.EqAt.str_str a t' b t
    | _=>exact absurd (show false = true from fx) Bool.false_ne_true
  | _=>exact absurd (show false = true from fy) Bool.false_ne_true
def eqU (x:V) (u:Value):Bool:=match u with
  | .none=>eqV .non x
  | .bool b=>eqV (.bl b) x
  | .int i _=>eqV (.int i) x
  | .str z _=>eqV (.str z) x
  | _=>false
theorem eqU_of {x y:V} {u:Value} (r:RelV y u) (f:flatV y = true):eqU x u = eqV y x:=by
  cases y with
  | non=>cases r;rfl
  | bl b=>cases r;rfl
  | int i=>obtain ⟨t,rfl⟩:=r;rfl
  | str z=>obtain ⟨t,rfl⟩:=r;rfl
  | _=>exact absurd (show false = true from f) Bool.false_ne_true
theorem any_eqU {x:V} : ∀ {xs:List V} {us:List Value},Vals xs us → xs.all flatV = true → us.any (eqU x) = xs.any fun y=>eqV y x
  | _,_, .nil,_=>rfl
  | y :: xs,u :: us, .cons r t,f=>by
    rw [List.all_cons,Bool.and_eq_true] at f
    rw [List.any_cons,List.any_cons,eqU_of r f.1,any_eqU t f.2]
theorem mem_eqAt {A:Around} {s:Shared} {x:V} {v:Value} (rx:RelV x v) (fx:flatV x = true):∀ {xs:List V} {us:List Value},Vals xs us → xs.all flatV = true → ∀ u ∈ us,SeqAt.EqAt A s u v (eqU x u)
  | _,_, .nil,_=>fun u hu=>by cases hu
  | y :: xs,u :: us, .cons r t,f=>fun u' hu=>by
    rw [List.all_cons,Bool.and_eq_true] at f
    rcases List.mem_cons.mp hu with rfl | hu
    · rw [eqU_of r f.1];exact eqAt_V r rx f.1 fx
    · exact mem_eqAt rx fx t f.2 u' hu
def inV (x:V) (xs:List V):Bool:=xs.any fun y=>eqV y x
def rIn (K:PySem.W.Frag) (neg:Bool):R2:=fun x y H Q => ∃ p xs,y = .ref p ∧ (SqL K H p xs ∨ SqT K H p xs) ∧ flatV x = true ∧ xs.all flatV = true ∧ Q (.bl (if neg then !inV x xs else inV x xs)) H
theorem op_in_seq:OpR X (compareOp .In) (rIn X.K false):=by
  intro pins s σ H x y v u Q I rx ry h
  obtain ⟨p,xs,rfl,hq,fx,fs,q⟩:=h
  cases ry
  rcases hq with hq | hq
  · obtain ⟨its,r,pl,hz⟩:=I.list hq
    refine SeqAt.in_listAt (eqU x) pl.isList (fun w hw=>mem_eqAt rx fx r fs w (by simpa using hw)) ⟨.bl _,H,I,rfl, ?_⟩
    rw [show its.toArray.any (eqU x) = its.any (eqU x) by simp,any_eqU r fs]
    exact q
  · obtain ⟨its,r,pl,hz⟩:=I.tuple hq
    refine SeqAt.in_tupleAt (eqU x) pl (fun w hw=>mem_eqAt rx fx r fs w (by simpa using hw)) ⟨.bl _,H,I,rfl, ?_⟩
    rw [show its.toArray.any (eqU x) = its.any (eqU x) by simp,any_eqU r fs]
    exact q
theorem op_notIn_seq:OpR X (compareOp .NotIn) (rIn X.K true):=by
  intro pins s σ H x y v u Q I rx ry h
  obtain ⟨p,xs,rfl,hq,fx,fs,q⟩:=h
  cases ry
  rcases hq with hq | hq
  · obtain ⟨its,r,pl,hz⟩:=I.list hq
    refine SeqAt.notIn_listAt (eqU x) pl.isList (fun w hw=>mem_eqAt rx fx r fs w (by simpa using hw)) ⟨.bl _,H,I,rfl, ?_⟩
    rw [show its.toArray.any (eqU x) = its.any (eqU x) by simp,any_eqU r fs]
    exact q
  · obtain ⟨its,r,pl,hz⟩:=I.tuple hq
    refine SeqAt.notIn_tupleAt (eqU x) pl (fun w hw=>mem_eqAt rx fx r fs w (by simpa using hw)) ⟨.bl _,H,I,rfl, ?_⟩
    rw [show its.toArray.any (eqU x) = its.any (eqU x) by simp,any_eqU r fs]
    exact q
theorem call_len_seq:CallR X (.builtin "len") (fun xs H Q => ∃ p ys,xs = [.ref p] ∧ (SqL X.K H p ys ∨ SqT X.K H p ys) ∧ Q (.int ys.length) H):=by
  intro pins s σ H xs us Q I r h
  obtain ⟨p,ys,rfl,hq,q⟩:=h
  obtain ⟨u,rfl,rx⟩:=vals1 r
  cases rx
  have hn:=line63
  rcases hq with hq | hq
  · obtain ⟨its,r',pl,hz⟩:=I.list hq
    have hlen:=r'.length
    exact Calls.call_len_list pl.isList (by simp only [List.size_toArray] <;> omega) ⟨.int ys.length,H,I.tok _,⟨s.toks + 1,by rw [List.size_toArray,hlen]⟩,q⟩
  · obtain ⟨its,r',pl,hz⟩:=I.tuple hq
    have hlen:=r'.length
    exact len_tuple pl (by simp only [List.size_toArray] <;> omega) ⟨.int ys.length,H,I.tok _,⟨s.toks + 1,by rw [List.size_toArray,hlen]⟩,q⟩
theorem call_list_of:CallR X (.type "list") (fun xs H Q => ∃ p ys,xs = [.ref p] ∧ (SqL X.K H p ys ∨ SqT X.K H p ys) ∧ ∀ l,H l = none → Q (.ref l) (upd H l (.lst ys))):=by
  intro pins s σ H xs us Q I r h
  obtain ⟨p,ys,rfl,hq,q⟩:=h
  obtain ⟨u,rfl,rx⟩:=vals1 r
  cases rx
  have fin:∀ (its:List Value),Vals ys its → ys.length ≤ sizeLine → ∀ (h':Heap) (c':Nat),(∀ b o',s.heap.get? b = some o' → h'.get? b = some o') →
      h'.get? s.heap.objs.size = some { cls := .type "list",dict:=none,data := .seq its.toArray c',slots := #[] } → EP X pins σ Q (.ref s.heap.objs.size) { s with heap:=h' }:=fun its r' hz h' c' kp e =>
    ⟨.ref s.heap.objs.size,_,I.laid (t':=s.toks) kp (Nat.le_refl _) (show ObjOk X.prog X.w _ h' _ (.lst ys) from ⟨hz,its,c',r',e⟩),rfl,q _ (I.hok.fresh (Nat.le_refl _))⟩
  rcases hq with hq | hq
  · obtain ⟨its,r',pl,hz⟩:=I.list hq
    have hlen:=r'.length
    obtain ⟨o,ho,hc,n,hd⟩:=pl.isList
    exact call_list_seq p (.inl rfl) ho hc hd (fun h' c' kp e=>fin its r' hz h' c' kp e) (by simp only [List.size_toArray] <;> omega)
  · obtain ⟨its,r',pl,hz⟩:=I.tuple hq
    have hlen:=r'.length
    obtain ⟨o,ho,hc,n,hd⟩:=pl
    exact call_list_seq p (.inr rfl) ho hc hd (fun h' c' kp e=>fin its r' hz h' c' kp e) (by simp only [List.size_toArray] <;> omega)
def tyV (K:PySem.W.Frag) (T:String) (x:V) (H:Hp):Prop:=match x with
  | .str _=>T = "str"
  | .int _=>T = "int"
  | .ref p=>(T = "list" ∧ ∃ xs,SqL K H p xs) ∨ (T = "tuple" ∧ ∃ o,K.lookup p = some o ∧ o.cls = .type "tuple" ∧ o.dict = none) ∨
      (T = "dict" ∧ ((∃ kvs,H p = some (.dK kvs)) ∨ ∃ kvs,H p = some (.dT kvs))) ∨ (T = "set" ∧ ∃ S n,H p = some (.set S n))
  | _=>False
theorem tyV_is {pins:List (Addr × Obj)} {σ : St} {H:Hp} {s:Shared} {T:String} {x:V} {v:Value} (I:Inv X pins σ H s) (r:RelV x v) (ty:tyV X.K T x H) :
    s.TypeIs v T ∧ ∀ a,v = .ref a → ∃ ob,s.heap.get? a = some ob ∧ ob.dict = none:=by
  cases x with
  | str z =>
    obtain ⟨t,rfl⟩:=r
    cases (show T = "str" from ty)
    exact ⟨typeIs_str s z t,fun _ e=>nomatch e⟩
  | int i =>
    obtain ⟨t,rfl⟩:=r
    cases (show T = "int" from ty)
    exact ⟨typeIs_int s i t,fun _ e=>nomatch e⟩
  | ref p =>
    cases r
    rcases ty with ⟨rfl,xs,hq⟩ | ⟨rfl,o,hk,hc,hd⟩ | ⟨rfl,hk⟩ | ⟨rfl,S,n,hk⟩
    · obtain ⟨its,_,pl,_⟩:=I.list hq
      refine ⟨pl.isList.typeIs,fun a e => ?_⟩
      cases e
      obtain ⟨o,n,e,c,hd,_⟩:=pl
      exact ⟨o,e,hd⟩
    · refine ⟨⟨o,I.kIn p o hk,hc⟩,fun a e => ?_⟩
      cases e
      exact ⟨o,I.kIn _ o hk,hd⟩
    · have z:∃ o,s.heap.get? p = some o ∧ o.ExactDict:=by
        rcases hk with ⟨kvs,hk⟩ | ⟨kvs,hk⟩
        · obtain ⟨_,_,_,_,o,_,_,e,ex,_⟩:=I.hok p _ hk
          exact ⟨o,e,ex⟩
        · obtain ⟨_,_,_,_,o,_,_,e,ex,_⟩:=I.hok p _ hk
          exact ⟨o,e,ex⟩
      obtain ⟨o,e,ex⟩:=z
      refine ⟨⟨o,e,ex.1⟩,fun a e2 => ?_⟩
      cases e2
      exact ⟨o,e,ex.2.1⟩
    · obtain ⟨o,_,_,_,e,ex,_⟩:=I.hok p _ hk
      refine ⟨⟨o,e,ex.1⟩,fun a e2 => ?_⟩
      cases e2
      exact ⟨o,e,ex.2.1⟩
  | _=>exact False.elim ty
def tBM (K:PySem.W.Frag) (T:String) (r:V → List V → Hp → VK → Prop) (to:TE) (t:TA):TE:=fun σ H Q=>to σ H fun x H1=>tyV K T x H1 ∧ t σ H1 fun xs H2=>r x xs H2 Q
variable {o e:Expr} {es:List Expr} {to:TE} {t:TA} {name:Str} {apos cpos:Pos} {T id:String} {r:V → List V → Hp → VK → Prop}
theorem pe_bm (pa:PlainAttrs T) (slot:Slot T name id) (hty:typeOf (.builtin id) = pure (.type "method_descriptor")) (hm:MtR X id r) (ho:PE X o to) (ha:PA X (e :: es) t)
    (hbase:attributeBase o name X.env (eval o X.env) = eval o X.env:=by rfl)
    (hfew:((backTo cpos (starEach (e :: es) X.env)).all (fun x => !x.1) && (backToKw cpos (keywordEach [] X.env)).all (fun x=>x.1.isSome)
      && decide ((e :: es).length + ([] : List Keyword).length + (if ([] : List Keyword).isEmpty then 0 else 1) < 30)) = true:=by rfl)
    (hline:(apos.endLine == cpos.line) = true:=by rfl) (hs:starEach (e :: es) X.env = (false,eval e X.env) :: starEach es X.env:=by rfl) (hplain:(backTo cpos (starEach es X.env)).any (·.1) = false:=by rfl) :
    PE X (.Call (.Attribute o name apos) (e :: es) [] cpos) (tBM X.K T r to t):=by
  intro pins s σ H Q I h
  refine wpAny_Call_method_late hbase hfew hline rfl (thn (ho pins s σ H _ I h) fun v s1 ⟨x,H1,I1,r1,ty,q1⟩ => ?_)
  obtain ⟨h1,h2⟩:=tyV_is I1 r1 ty
  refine ⟨T,id,pa,slot,hty,h1,h2, ?_⟩
  have hA:=ha cpos pins s1 σ H1 _ I1 q1
  rw [hs] at hA ⊢
  refine Calls.callWith_builtin (by show (false || (backTo cpos (starEach es X.env)).any (·.1)) = false;rw [hplain] <;> rfl) (Calls.evalArgs_plain ?_)
  exact thn hA fun us s2 ⟨vs,H2,I2,r2,q2⟩=>hm pins s2 σ H2 x vs v us Q I2 r1 r2 q2
end
end L2
namespace L2
open PySem PySem.Spec PyProof.Rows
def MtM (X:Cx) (id:String) (r:V → List V → Hp → VK → Prop):Prop :=
  ∀ (pins:List (Addr × Obj)) (s:Shared) (σ : St) (H:Hp) (x:V) (xs:List V) (v:Value) (us:List Value) (Q:VK),Inv X pins σ H s → RelV x v → Vals xs us → r x xs H Q →
    wpAny (model X.prog X.w) X.A (call (.builtin id) (v :: us)) (EP X pins σ Q) X.xe s
theorem Vals.one:∀ {x:V} {us:List Value},Vals [x] us → ∃ u,us = [u] ∧ RelV x u
  | _,_, .cons r .nil=>⟨_,rfl,r⟩
theorem Vals.rep {xs:List V} {us:List Value} (h:Vals xs us):∀ k:Nat,Vals (List.replicate k xs).flatten (List.replicate k us).flatten
  | 0 => .nil
  | k + 1=>by
    rw [List.replicate_succ,List.replicate_succ,List.flatten_cons,List.flatten_cons]
    exact Vals.append h (Vals.rep h k)
theorem foldl_rep (its:List Value):∀ (k:Nat) (acc:List Value),
    List.foldl (fun x1 x2=>x1 ++ x2) acc.toArray (List.replicate k its.toArray) = (acc ++ (List.replicate k its).flatten).toArray
  | 0,acc=>by simp
  | k + 1,acc=>by
    have e:acc.toArray ++ its.toArray = (acc ++ its).toArray:=by simp
    have e2:(acc ++ its) ++ (List.replicate k its).flatten = acc ++ (List.replicate (k + 1) its).flatten:=by
      rw [List.replicate_succ,List.flatten_cons,List.append_assoc]
    rw [← e2, ← foldl_rep its k (acc ++ its), ← e,List.replicate_succ,List.foldl_cons]
section
variable {X:Cx} {pins:List (Addr × Obj)} {σ : St} {H:Hp} {s:Shared} {l b:Addr} {xs ys zs:List V}
theorem Inv.lset {its its':List Value} {n:Nat} {f:Array Value → Array Value} {t':Nat} (I:Inv X pins σ H s) (hH:H l = some (.lst xs))
    (e:s.heap.get? l = some { cls := .type "list",data := .seq its.toArray n }) (hf:f its.toArray = its'.toArray) (hv:Vals ys its') (hz:ys.length ≤ sizeLine) :
    Inv X pins σ (upd H l (.lst ys)) { s with heap:=s.heap.update l (Obj.mapSeq f),toks:=t' }:=by
  have q:=PySem.IsL.update e f
  rw [hf] at q
  refine I.write (x:=l) (e:=l) (by rw [hH];exact trivial) (.inl rfl) (fun b' u hb hu=>(Heap.get?_update_other s.heap (Obj.mapSeq f) (Ne.symm hb)).trans hu) ⟨_,q⟩ ?_
  exact ⟨hz,its',_,hv,q⟩
theorem Inv.lnew {its:List Value} {t':Nat} (I:Inv X pins σ H s) (hv:Vals ys its) (hz:ys.length ≤ sizeLine) :
    Inv X pins σ (upd H s.heap.objs.size (.lst ys)) { s with heap:=s.heap.push { cls := .type "list",data := .seq its.toArray },toks:=t' } :=
  I.laid (fun _ _ q=>Heap.get?_push_of_some _ q) (Nat.le_refl _) ⟨hz,its,0,hv,Heap.get?_push_size _ rfl⟩
theorem Inv.fresh (I:Inv X pins σ H s):H s.heap.objs.size = none:=I.hok.fresh (Nat.le_refl _)
theorem Inv.lstM (I:Inv X pins σ H s) (hH:H l = some (.lst xs)):xs.length ≤ sizeLine ∧ ∃ (its:List Value) (n:Nat),Vals xs its ∧ xs.length = its.length ∧ s.heap.get? l = some { cls := .type "list",data := .seq its.toArray n }:=by
  obtain ⟨z,its,n,r,e⟩:=I.hok l _ hH
  exact ⟨z,its,n,r,r.length,e⟩
theorem notLongL {n:Nat} (h:n ≤ sizeLine):Builtin.List.listTooLong n = false:=by
  unfold Builtin.List.listTooLong
  exact decide_eq_false (by omega)
end
section
variable {X:Cx}
def rAppend:V → List V → Hp → VK → Prop:=fun x vs H Q => ∃ l xs y,x = .ref l ∧ vs = [y] ∧ H l = some (.lst xs) ∧ xs.length < sizeLine ∧ Q .non (upd H l (.lst (xs ++ [y])))
theorem mt_append:MtM X "list.append" rAppend:=by
  intro pins s σ H x vs v us Q I rx rv h
  obtain ⟨l,xs,y,rfl,rfl,hH,hz,q⟩:=h
  cases rx
  obtain ⟨u,rfl,ru⟩:=rv.one
  obtain ⟨z,its,n,r,hl,e⟩:=I.lstM hH
  refine call_meets F.slot_list_append ⟨_,e,rfl⟩ F.entry_list_append (F.args_list_append_2 _ _) (PySem.list_append l its.toArray n u (by rw [List.size_toArray];omega)) ⟨e, ?_⟩
  refine ⟨.non,_,I.lset (its':=its ++ [u]) hH e (by simp) (r.append (.cons ru .nil)) ?_,rfl,q⟩
  rw [List.length_append,List.length_singleton]
  omega
def rExtend:V → List V → Hp → VK → Prop:=fun x vs H Q => ∃ l b xs zs,x = .ref l ∧ vs = [.ref b] ∧ H l = some (.lst xs) ∧ H b = some (.lst zs) ∧ xs.length + zs.length ≤ sizeLine ∧ Q .non (upd H l (.lst (xs ++ zs)))
theorem mt_extend:MtM X "list.extend" rExtend:=by
  intro pins s σ H x vs v us Q I rx rv h
  obtain ⟨l,b,xs,zs,rfl,rfl,hH,hB,hz,q⟩:=h
  cases rx
  obtain ⟨u,rfl,ru⟩:=rv.one
  cases ru
  obtain ⟨z,its,n,r,hl,e⟩:=I.lstM hH
  obtain ⟨z2,its2,n2,r2,hl2,e2⟩:=I.lstM hB
  have hsz:its.toArray.size + its2.toArray.size ≤ sizeLine:=by rw [List.size_toArray,List.size_toArray];omega
  have hlong:¬ (!its.toArray.isEmpty && Builtin.List.listTooLong (its.toArray.size + its2.toArray.size)) = true:=by
    rw [notLongL hsz,Bool.and_false]
    exact Bool.false_ne_true
  refine call_meets F.slot_list_extend ⟨_,e,rfl⟩ F.entry_list_extend (F.args_list_extend_2 _ _)
    (AutoSeq1.list_extend_list_list_0 l its.toArray n b its2.toArray n2 hlong (by rw [List.size_toArray];omega) (by omega)) ⟨e,e2, ?_⟩
  refine ⟨.non,_,I.lset (its':=its ++ its2) hH e (by simp) (r.append r2) ?_,rfl,q⟩
  rw [List.length_append]
  omega
def rCat:R2:=fun x y H Q => ∃ l b xs zs,x = .ref l ∧ y = .ref b ∧ H l = some (.lst xs) ∧ H b = some (.lst zs) ∧ xs.length + zs.length ≤ sizeLine ∧ ∀ p,H p = none → Q (.ref p) (upd H p (.lst (xs ++ zs)))
theorem op_cat:OpR X (binaryOp .Add) rCat:=by
  intro pins s σ H x y v u Q I rx ry h
  obtain ⟨l,b,xs,zs,rfl,rfl,hH,hB,hz,q⟩:=h
  cases rx
  cases ry
  obtain ⟨z,its,n,r,hl,e⟩:=I.lstM hH
  obtain ⟨z2,its2,n2,r2,hl2,e2⟩:=I.lstM hB
  refine PySem.P.add_list e e2 ?_ (by rw [List.size_toArray,List.size_toArray];omega)
  have ea:its.toArray ++ its2.toArray = (its ++ its2).toArray:=by simp
  rw [ea]
  exact ⟨.ref _,_,I.lnew (t':=s.toks) (r.append r2) (by rw [List.length_append];omega),rfl,q _ I.fresh⟩
def rRep:R2:=fun x y H Q => ∃ l k xs,x = .ref l ∧ y = .int k ∧ H l = some (.lst xs) ∧ -(2 ^ 63) ≤ k ∧ k < 2 ^ 63 ∧ xs.length * k.toNat ≤ sizeLine ∧
  ∀ p,H p = none → Q (.ref p) (upd H p (.lst (List.replicate k.toNat xs).flatten))
theorem len_rep {α : Type} (xs:List α) (k:Nat):(List.replicate k xs).flatten.length = k * xs.length:=by
  induction k with
  | zero=>simp
  | succ k ih=>rw [List.replicate_succ,List.flatten_cons,List.length_append,ih,Nat.succ_mul,Nat.add_comm]
theorem op_rep:OpR X (binaryOp .Mult) rRep:=by
  intro pins s σ H x y v u Q I rx ry h
  obtain ⟨l,k,xs,rfl,rfl,hH,h1,h2,hz,q⟩:=h
  cases rx
  obtain ⟨t,rfl⟩:=ry
  obtain ⟨z,its,n,r,hl,e⟩:=I.lstM hH
  have hlen:its.toArray.size * k.toNat ≤ sizeLine:=by rw [List.size_toArray, ← hl];exact hz
  have hcap:¬ its.toArray.size * k.toNat > (2 ^ 63 - 1) / 8:=by
    have:(sizeLine:Nat) ≤ (2 ^ 63 - 1) / 8:=by decide
    omega
  have hfit:¬ (!Builtin.List.listFitsIndex k) = true:=by
    rw [fitsIndex_both h1 h2]
    exact Bool.false_ne_true
  have hlong:¬ Builtin.List.listTooLong (its.toArray.size * k.toNat) = true:=by
    rw [notLongL hlen]
    exact Bool.false_ne_true
  have hnew:List.foldl (fun x1 x2=>x1 ++ x2) #[] (List.replicate (if its.toArray.isEmpty = true then 0 else k.toNat) its.toArray) = (List.replicate k.toNat its).flatten.toArray:=by
    have f0:∀ m:Nat,List.foldl (fun x1 x2=>x1 ++ x2) #[] (List.replicate m its.toArray) = (List.replicate m its).flatten.toArray:=fun m=>by
      have:=foldl_rep its m []
      rw [List.nil_append] at this
      exact this
    rw [f0]
    cases its with
    | nil=>simp
    | cons a r'=>rw [if_neg (by simp)]
  refine wpAny_binaryOp_repeat_ref (T := "list") (U := "int") (by decide) ⟨_,e,rfl⟩ (fun s'=>typeIs_int s' k t) noFill_list_mul F.fills_int_mul F.slot_int_rmul repeat_list F.slot_int_index.lookup
    (call_meets F.slot_int_rmul (typeIs_int s k t) F.entry_int_rmul (F.args_int_rmul_2 _ _) (int___rmul___int_list k t l its.toArray n)
      ⟨e,rfl,⟨_,e,rfl⟩,call_meets F.slot_list_mul ⟨_,e,rfl⟩ F.entry_list_mul (F.args_list_mul_2 _ _) (AutoListH.list___mul___list_int_3 l its.toArray n k t hfit hcap hlong) ⟨e, ?_⟩⟩)
  rw [hnew]
  exact ⟨.ref _,_,I.lnew (t':=s.toks) (r.rep k.toNat) (by rw [len_rep,Nat.mul_comm];exact hz),rfl,q _ I.fresh⟩
end
end L2
namespace L2
open PySem PySem.Spec PyProof.Rows
theorem Vals.ints:∀ {ns:List Int} {us:List Value},Vals (ns.map V.int) us → IntsAre us ns
  | [],us,h=>by
    rw [List.map_nil] at h
    cases h
    exact IntsAre.nil
  | n :: ns,us,h=>by
    rw [List.map_cons] at h
    cases h with
    | cons r t =>
      obtain ⟨k,rfl⟩:=r
      exact IntsAre.cons n k (Vals.ints t)
theorem vals_of_ints:∀ {us:List Value} {ns:List Int},IntsAre us ns → Vals (ns.map V.int) us
  | _,_, .nil=>by rw [List.map_nil];exact Paired.nil
  | _,_, .cons n t h=>by rw [List.map_cons];exact Paired.cons (show RelV (V.int n) (Value.int n t) from ⟨t,rfl⟩) (vals_of_ints h)
theorem Vals.bls:∀ {bs:List Bool} {us:List Value},Vals (bs.map V.bl) us → us = bs.map Value.bool
  | [],us,h=>by
    rw [List.map_nil] at h
    cases h
    rfl
  | b :: bs,us,h=>by
    rw [List.map_cons] at h
    cases h with
    | cons r t =>
      cases r
      rw [Vals.bls t,List.map_cons]
theorem Vals.ref1 {a:Addr} {us:List Value} (r:Vals [V.ref a] us):us = [Value.ref a]:=by
  cases r with
  | cons r t =>
    cases t
    cases r
    rfl
section
variable {prog:Program} {w:World} {A:Around} {E:Value → Shared → Prop} {s:Shared} {l:Addr} {its:List Value} {ns:List Int} {Q:Value → Shared → Prop}
theorem sum_raw (hh:A.handled = none) (hl:s.heap.IsList l its.toArray) (hi:IntsAre its ns)
    (h:∀ h' tk t',(∀ b o,s.heap.get? b = some o → h'.get? b = some o) → Q (.int ns.sum t') { s with heap:=h',toks:=tk }):wpAny (model prog w) A (call (.builtin "sum") [.ref l]) Q E s:=by
  obtain ⟨xs,e⟩:=hi.allInts.items
  have hn:numsOf (intItems xs).toList = ns:=by rw [← e];exact hi.numsOf
  rw [nums_intItems] at hn
  rw [e] at hl
  refine PySem.sum_intListG hh hl fun h' tk t' hk => ?_
  have:=h h' tk t' hk
  rw [preSum_eq,List.take_of_length_le (by simp),hn];exact this
end
section
variable {X:Cx}
def rSum (K:PySem.W.Frag):List V → Hp → VK → Prop:=fun vs H Q => ∃ (a:Addr) (ns:List Int),vs = [V.ref a] ∧ SqL K H a (ns.map V.int) ∧ Q (.int ns.sum) H
theorem cr_sum (hc:X.calm = true):CallR X (.builtin "sum") (rSum X.K):=by
  intro pins s σ H vs us Q I r h
  obtain ⟨a,ns,rfl,hs,q⟩:=h
  obtain ⟨its,rv,hl,_⟩:=I.list hs
  rw [Vals.ref1 r]
  exact sum_raw (I.ok.hd hc) hl.isList rv.ints fun h' tk t' hk=>⟨.int _,H,I.kept hk,⟨_,rfl⟩,q⟩
def rSorted (K:PySem.W.Frag):List V → Hp → VK → Prop:=fun vs H Q => ∃ (a:Addr) (ns:List Int),vs = [V.ref a] ∧ SqL K H a (ns.map V.int) ∧ ns.length < 64 ∧
  ∀ (ns':List Int) (p:Addr),ns'.Perm ns → ns'.Pairwise (· ≤ ·) → H p = none → Q (.ref p) (upd H p (.lst (ns'.map V.int)))
theorem small64 {n:Nat} (h:n < 64):n ≤ sizeLine:=by rw [sizeLine_eq];omega
theorem cr_sorted:CallR X (.builtin "sorted") (rSorted X.K):=by
  intro pins s σ H vs us Q I r h
  obtain ⟨a,ns,rfl,hs,h64,q⟩:=h
  obtain ⟨its,rv,hl,_⟩:=I.list hs
  rw [Vals.ref1 r]
  have hi:=rv.ints
  refine PyProof.Rows.sorted_ints hl.isList hi (by rw [hi.length];exact h64) fun out ns' h1 h2 h3 => ?_
  obtain ⟨ep,he'⟩:=PyProof.Rows.sortedAll_at s.heap its out
  have hlen:(ns'.map V.int).length ≤ sizeLine:=by rw [List.length_map,h2.length_eq];exact small64 h64
  exact ⟨.ref _,upd H (s.heap.objs.size + 1) (.lst (ns'.map V.int)),I.laid (t':=s.toks) (fun _ _=>PyProof.Rows.sortedAll_old) (Nat.le_succ _) ⟨hlen,out.toList,ep,vals_of_ints h1,he'⟩,rfl,q ns' _ h2 h3 (I.hok.fresh (Nat.le_succ _))⟩
end
theorem iter_any {prog:Program} {w:World} {A:Around} {E:Value → Shared → Prop} {s:Shared} {l:Addr} {items:Array Value} {Q:Value → Shared → Prop} (hl:s.heap.IsList l items)
    (h:∀ s₂ : Shared,s₂ = { s with heap:=s.heap.push { cls := .type "list_iterator",data := .fields #[.ref l, .int 0 0] } } →
      (s₂.heap.IsListIter s.heap.objs.size l 0 ∧ s₂.heap.IsList l items) → l ≠ s.heap.objs.size → Q (.ref s.heap.objs.size) s₂):wpAny (model prog w) A (pyIter (.ref l)) Q E s:=by
  have hlt:l < s.heap.objs.size:=by obtain ⟨_,e,_⟩:=hl;exact Heap.lt_size e
  exact wpAny_pyIter_list hl (h _ rfl ⟨⟨_,Heap.get?_push_size _ rfl,rfl,rfl⟩,hl.push _⟩ (Nat.ne_of_lt hlt))
theorem truth_bools {prog:Program} {w:World} {A:Around} {bs:List Bool} {its:List Value} (e:its = bs.map Value.bool) :
    TruthOf prog w A (fun i v=>its.toArray[i]? = some v) (fun i=>bs.getD i false):=fun i v s Q E hv hq=>by
  have hv':its[i]? = some v:=by simpa using hv
  rw [e,List.getElem?_map] at hv'
  obtain ⟨b,hb,rfl⟩:=Option.map_eq_some_iff.mp hv'
  have hg:bs.getD i false = b:=by rw [List.getD_eq_getElem?_getD,hb] <;> rfl
  have hq':Q (bs.getD i false) s:=hq
  rw [hg] at hq'
  exact wpAny_truthy_bool hq'
theorem any_range:∀ bs:List Bool,(List.range bs.length).any (fun i=>bs.getD i false) = bs.any id
  | [] => rfl
  | b :: bs=>by
    rw [List.length_cons,List.range_succ_eq_map,List.any_cons,List.any_map,List.any_cons, ← any_range bs]
    all_goals rfl
theorem all_range:∀ bs:List Bool,(List.range bs.length).all (fun i=>bs.getD i false) = bs.all id
  | [] => rfl
  | b :: bs=>by
    rw [List.length_cons,List.range_succ_eq_map,List.all_cons,List.all_map,List.all_cons, ← all_range bs]
    all_goals rfl
section
variable {X:Cx}
def rAny (K:PySem.W.Frag):List V → Hp → VK → Prop:=fun vs H Q => ∃ (a:Addr) (bs:List Bool),vs = [V.ref a] ∧ SqL K H a (bs.map V.bl) ∧ Q (.bl (bs.any id)) H
def rAll (K:PySem.W.Frag):List V → Hp → VK → Prop:=fun vs H Q => ∃ (a:Addr) (bs:List Bool),vs = [V.ref a] ∧ SqL K H a (bs.map V.bl) ∧ Q (.bl (bs.all id)) H
theorem cr_any (hc:X.calm = true):CallR X (.builtin "any") (rAny X.K):=by
  intro pins s σ H vs us Q I r h
  obtain ⟨a,bs,rfl,hs,q⟩:=h
  obtain ⟨its,rv,hl,_⟩:=I.list hs
  rw [Vals.ref1 r]
  have hb:=rv.bls
  refine call_any_walk (iter_any hl.isList fun s₂ e2 st hne => ?_)
  subst e2
  refine ⟨_,_,_,_,_,_,_,rfl,Walks.list (A:=X.A.in1) (I.ok.hd hc) _ a hne its.toArray,st,truth_bools hb,fun h' tk hk => ?_⟩
  refine ⟨.bl _,H,I.kept fun b o eo=>hk b o (fun hmem => ?_) (Heap.get?_push_of_some _ eo), ?_,q⟩
  · rcases List.mem_cons.mp hmem with e1 | hmem
    · exact absurd (e1 ▸ Heap.lt_size eo) (Nat.lt_irrefl _)
    · cases hmem
  · show Value.bool _ = Value.bool _
    rw [← any_range,hb,List.size_toArray,List.length_map]
theorem cr_all (hc:X.calm = true):CallR X (.builtin "all") (rAll X.K):=by
  intro pins s σ H vs us Q I r h
  obtain ⟨a,bs,rfl,hs,q⟩:=h
  obtain ⟨its,rv,hl,_⟩:=I.list hs
  rw [Vals.ref1 r]
  have hb:=rv.bls
  refine call_all_walk (iter_any hl.isList fun s₂ e2 st hne => ?_)
  subst e2
  refine ⟨_,_,_,_,_,_,_,rfl,Walks.list (A:=X.A.in1) (I.ok.hd hc) _ a hne its.toArray,st,truth_bools hb,fun h' tk hk => ?_⟩
  refine ⟨.bl _,H,I.kept fun b o eo=>hk b o (fun hmem => ?_) (Heap.get?_push_of_some _ eo), ?_,q⟩
  · rcases List.mem_cons.mp hmem with e1 | hmem
    · exact absurd (e1 ▸ Heap.lt_size eo) (Nat.lt_irrefl _)
    · cases hmem
  · show Value.bool _ = Value.bool _
    rw [← all_range,hb,List.size_toArray,List.length_map]
end
mutual
inductive Dp (K:PySem.W.Frag) (H:Hp):V → PyData → Prop
  | non:Dp K H .non .none
  | bl (b:Bool):Dp K H (.bl b) (.bool b)
  | int (i:Int):Dp K H (.int i) (.int i)
  | str (x:Str):Dp K H (.str x) (.str x)
  | lst {a:Addr} {xs:List V} {ds:List PyData} : SqL K H a xs → DpAll K H xs ds → Dp K H (.ref a) (.list ds)
  | tup {a:Addr} {xs:List V} {ds:List PyData} : SqT K H a xs → DpAll K H xs ds → Dp K H (.ref a) (.tuple ds)
inductive DpAll (K:PySem.W.Frag) (H:Hp):List V → List PyData → Prop
  | nil:DpAll K H [] []
  | cons {v:V} {vs:List V} {d:PyData} {ds:List PyData} : Dp K H v d → DpAll K H vs ds → DpAll K H (v :: vs) (d :: ds)
end
section
variable {X:Cx} {pins:List (Addr × Obj)} {σ : St} {H:Hp} {s:Shared}
mutual
theorem Dp.reads (I:Inv X pins σ H s):∀ (d:PyData) (v:V) (u:Value),Dp X.K H v d → RelV v u → ∃ as,Reads s.heap u d as
  | .none,_,_,h,r=>by
    cases h
    cases r
    exact ⟨_,Reads.none⟩
  | .bool b,_,_,h,r=>by
    cases h
    cases r
    exact ⟨_,Reads.bool b⟩
  | .int i,_,_,h,r=>by
    cases h
    obtain ⟨t,rfl⟩:=r
    exact ⟨_,Reads.int i t⟩
  | .str x,_,_,h,r=>by
    cases h
    obtain ⟨t,rfl⟩:=r
    exact ⟨_,Reads.str x t⟩
  | .list ds,_,_,h,r=>by
    cases h with
    | lst hs ha =>
      cases r
      obtain ⟨its,rv,⟨o,n,ho,hc,_,hd⟩,_⟩:=I.list hs
      obtain ⟨as,hr⟩:=Dp.readsAll I ds _ its ha rv
      exact ⟨_,Reads.list ho hc hd hr⟩
  | .tuple ds,_,_,h,r=>by
    cases h with
    | tup hs ha =>
      cases r
      obtain ⟨its,rv,⟨o,ho,hc,n,hd⟩,_⟩:=I.tuple hs
      obtain ⟨as,hr⟩:=Dp.readsAll I ds _ its ha rv
      exact ⟨_,Reads.tuple ho hc hd hr⟩
  | .dict _,_,_,h,_=>by cases h
theorem Dp.readsAll (I:Inv X pins σ H s):∀ (ds:List PyData) (vs:List V) (us:List Value),DpAll X.K H vs ds → Vals vs us → ∃ as,ReadsAll s.heap us ds as
  | [],_,_,h,r=>by
    cases h
    cases r
    exact ⟨_,ReadsAll.nil⟩
  | d :: ds,_,_,h,r=>by
    cases h with
    | cons h1 h2 =>
      cases r with
      | cons r1 r2 =>
        obtain ⟨as,q1⟩:=Dp.reads I d _ _ h1 r1
        obtain ⟨bs,q2⟩:=Dp.readsAll I ds _ _ h2 r2
        exact ⟨_,ReadsAll.cons q1 q2⟩
end
end
section
variable {X:Cx}
def rEqD (K:PySem.W.Frag):R2:=fun x y H Q => ∃ d e,Dp K H x d ∧ Dp K H y e ∧ SeqAt.shaped d = true ∧ SeqAt.shaped e = true ∧ Q (.bl (PyData.eqv d e)) H
theorem op_eqD (hu:X.A.units + 64 < cLine):OpR X (compareOp .Eq) (rEqD X.K):=by
  intro pins s σ H x y v u Q I rx ry h
  obtain ⟨d,e,hd,he,sd,se,q⟩:=h
  obtain ⟨as,r1⟩:=Dp.reads I d x v hd rx
  obtain ⟨bs,r2⟩:=Dp.reads I e y u he ry
  exact SeqAt.compareEq_shaped r1 r2 sd se hu ⟨.bl _,H,I,rfl,q⟩
end
end L2
namespace L2
open PySem PySem.Spec PyProof.Rows
abbrev CellAt (h:Heap) (c:Addr) (v:Option Value):Prop:=h.IsCell c v
def relS (scope sc:Scope):Scope :=
  { scope with names:=scope.names.map fun (n,k)=>if (k == .free && sc.kind == .function && sc.names.lookup n == some .cell) then (n, .cell) else (n,k) }
def cloFrom (cells:List (Str × Addr)):List (Str × NameKind) → List (Str × Addr) → List (Str × Addr)
  | [],acc=>acc
  | (n,k) :: r,acc=>if k == .free then cloFrom cells r ((n,(cells.lookup n).getD 0) :: acc) else cloFrom cells r acc
theorem closure_loop (env:Env) (f:Str × NameKind → List (Str × Addr) → Sem (ForInStep (List (Str × Addr))))
    (hf:∀ n k c,f (n,k) c = if k == .free then (do let a ← cellOf env n;pure (.yield ((n,a) :: c))) else pure (.yield c)) :
    ∀ (names:List (Str × NameKind)) (acc:List (Str × Addr)),(∀ y ∈ names,y.2 = .free → ∃ c,env.cells.lookup y.1 = some c) → forIn names acc f = pure (cloFrom env.cells names acc)
  | [],acc,_=>by rw [List.forIn_nil];rfl
  | (n,k) :: r,acc,h=>by
    rw [List.forIn_cons,hf]
    have ih:=fun acc=>closure_loop env f hf r acc fun y hy=>h y (List.mem_cons_of_mem _ hy)
    unfold cloFrom
    by_cases hk:(k == NameKind.free) = true
    · rw [if_pos hk,if_pos hk]
      obtain ⟨c,hc⟩:=h (n,k) List.mem_cons_self (by simpa using hk)
      have e:cellOf env n = pure c:=by unfold cellOf;rw [hc]
      rw [e]
      have e2:(env.cells.lookup n).getD 0 = c:=by rw [hc];rfl
      rw [e2]
      exact ih _
    · rw [if_neg hk,if_neg hk]
      exact ih _
theorem closure_ok {scope:Scope} {env:Env} (h:∀ y ∈ scope.names,y.2 = .free → ∃ c,env.cells.lookup y.1 = some c):closureFor scope env = pure (cloFrom env.cells scope.names []):=by
  simp only [closureFor]
  rw [closure_loop env _ (fun n k c=>rfl) scope.names [] h]
  rfl
theorem mem_lookup {α : Type} : ∀ {l:List (Str × α)} {n:Str} {c : α},(n,c) ∈ l → ∃ c',l.lookup n = some c'
  | (k,v) :: r,n,c,h=>by
    rw [List.lookup_cons]
    cases hb:n == k with
    | true=>exact ⟨_,rfl⟩
    | false =>
      rcases List.mem_cons.mp h with e | h
      · cases e;simp at hb
      · exact mem_lookup h
theorem cloFrom_mem {cells:List (Str × Addr)} : ∀ {names:List (Str × NameKind)} {acc:List (Str × Addr)} {n:Str} {c:Addr},(n,c) ∈ cloFrom cells names acc → (n,c) ∈ acc ∨ ((n, .free) ∈ names ∧ c = (cells.lookup n).getD 0)
  | [],_,_,_,h => .inl h
  | (m,k) :: r,acc,n,c,h=>by
    unfold cloFrom at h
    split at h
    · rename_i hk
      have hk:k = .free:=by simpa using hk
      rcases cloFrom_mem h with h | ⟨h1,h2⟩
      · rcases List.mem_cons.mp h with e | h
        · cases e;exact .inr ⟨hk ▸ List.mem_cons_self,rfl⟩
        · exact .inl h
      · exact .inr ⟨List.mem_cons_of_mem _ h1,h2⟩
    · rcases cloFrom_mem h with h | ⟨h1,h2⟩
      · exact .inl h
      · exact .inr ⟨List.mem_cons_of_mem _ h1,h2⟩
theorem cloFrom_acc {cells:List (Str × Addr)} : ∀ {names:List (Str × NameKind)} {acc:List (Str × Addr)} {p:Str × Addr},p ∈ acc → p ∈ cloFrom cells names acc
  | [],_,_,h=>h
  | (m,k) :: r,acc,p,h=>by
    unfold cloFrom
    split
    · exact cloFrom_acc (List.mem_cons_of_mem _ h)
    · exact cloFrom_acc h
theorem cloFrom_has {cells:List (Str × Addr)} : ∀ {names:List (Str × NameKind)} {acc:List (Str × Addr)} {n:Str},(n, .free) ∈ names → (n,(cells.lookup n).getD 0) ∈ cloFrom cells names acc
  | (m,k) :: r,acc,n,h=>by
    unfold cloFrom
    rcases List.mem_cons.mp h with e | h
    · cases e
      exact cloFrom_acc List.mem_cons_self
    · split
      · exact cloFrom_has h
      · exact cloFrom_has h
theorem cells_mem:∀ {names:List (Str × NameKind)} {h:Heap} {acc:List (Str × Addr)} {x:Str} {c:Addr},(x,c) ∈ cellsFrom h.objs.size names acc →
    (x,c) ∈ acc ∨ ((x, .cell) ∈ names ∧ h.objs.size ≤ c ∧ CellAt (pushCells h names) c none)
  | [],_,_,_,_,h => .inl h
  | (n,k) :: r,h,acc,x,c,hm=>by
    unfold cellsFrom at hm
    unfold pushCells
    split at hm
    · rename_i hk
      rw [if_pos hk]
      have hk:k = .cell:=by simpa using hk
      rw [← Heap.size_push h { cls := .type "cell",data := .cell none }] at hm
      rcases cells_mem hm with hm | ⟨h1,h2,h3⟩
      · rcases List.mem_cons.mp hm with e | hm
        · cases e
          exact .inr ⟨hk ▸ List.mem_cons_self,Nat.le_refl _,_,pushCells_keeps r _ _ _ (Heap.get?_push_size _ rfl),rfl⟩
        · exact .inl hm
      · rw [Heap.size_push] at h2
        exact .inr ⟨List.mem_cons_of_mem _ h1,Nat.le_of_succ_le h2,h3⟩
    · rename_i hk
      rw [if_neg hk]
      rcases cells_mem hm with hm | ⟨h1,h2,h3⟩
      · exact .inl hm
      · exact .inr ⟨List.mem_cons_of_mem _ h1,h2,h3⟩
theorem cells_acc:∀ {names:List (Str × NameKind)} {n:Nat} {acc:List (Str × Addr)} {p:Str × Addr},p ∈ acc → p ∈ cellsFrom n names acc
  | [],_,_,_,h=>h
  | (m,k) :: r,n,acc,p,h=>by
    unfold cellsFrom
    split
    · exact cells_acc (List.mem_cons_of_mem _ h)
    · exact cells_acc h
theorem cells_has:∀ {names:List (Str × NameKind)} {n:Nat} {acc:List (Str × Addr)} {x:Str},(x, .cell) ∈ names → ∃ c,(x,c) ∈ cellsFrom n names acc
  | (m,k) :: r,n,acc,x,h=>by
    unfold cellsFrom
    rcases List.mem_cons.mp h with e | h
    · cases e
      exact ⟨n,cells_acc List.mem_cons_self⟩
    · split
      · exact cells_has h
      · exact cells_has h
theorem cells_inj:∀ {names:List (Str × NameKind)} {h:Heap} {acc:List (Str × Addr)} {x y:Str} {c:Addr},(∀ p ∈ acc,p.2 < h.objs.size) → (∀ x y c,(x,c) ∈ acc → (y,c) ∈ acc → x = y) →
    (x,c) ∈ cellsFrom h.objs.size names acc → (y,c) ∈ cellsFrom h.objs.size names acc → x = y
  | [],_,_,_,_,_,_,hi,h1,h2=>hi _ _ _ h1 h2
  | (n,k) :: r,h,acc,x,y,c,hl,hi,h1,h2=>by
    unfold cellsFrom at h1 h2
    split at h1
    · rename_i hk
      rw [if_pos hk] at h2
      rw [← Heap.size_push h { cls := .type "cell",data := .cell none }] at h1 h2
      refine cells_inj (h:=h.push _) (fun p hp => ?_) (fun x y c a b => ?_) h1 h2
      · rw [Heap.size_push]
        rcases List.mem_cons.mp hp with rfl | hp
        · exact Nat.lt_succ_self _
        · exact Nat.lt_succ_of_lt (hl p hp)
      · rcases List.mem_cons.mp a with e | a <;> rcases List.mem_cons.mp b with e' | b
        · cases e;cases e';rfl
        · cases e;exact absurd (hl _ b) (Nat.lt_irrefl _)
        · cases e';exact absurd (hl _ a) (Nat.lt_irrefl _)
        · exact hi _ _ _ a b
    · rename_i hk
      rw [if_neg hk] at h2
      exact cells_inj hl hi h1 h2
theorem newEnv_comp {M:Model} {A:Around} {E:Value → Shared → Prop} {s:Shared} {scope:Scope} {globals:Addr} {closure:List (Str × Addr)} {qual:Str} {func:Option Addr} {code:Value} {around:Env} {builtins:Addr} {Q:Env → Shared → Prop}
    (h:Q (newEnv scope s.heap.objs.size globals (cellsFrom (s.heap.objs.size + 1) scope.names closure) qual func code (some around) builtins)
      { s with heap:=pushCells (s.heap.push { cls := .type "dict",data := .dict #[] }) scope.names }) :
    wpAny M A (newFunctionEnv scope globals closure [] qual func code (some around) builtins) Q E s:=by
  simp only [newFunctionEnv,Option.isSome_some,if_true]
  refine wpAny_bind (wpAny_alloc ?_)
  refine wpAny_bind (wpAny_layCells _ (fun n k c=>rfl) scope.names closure _ _ ?_)
  rw [show ({ s with heap:=s.heap.push { cls := .type "dict",data := .dict #[] } } : Shared).heap.objs.size = s.heap.objs.size + 1 from Heap.size_push ..]
  rw [List.forIn_nil]
  exact wpAny_bind (wpAny_pure (wpAny_pure h))
theorem lookup_relS {sc:Scope} : ∀ {names:List (Str × NameKind)} {x:Str} {k:NameKind},
    (names.map fun (n,k)=>if (k == NameKind.free && sc.kind == .function && sc.names.lookup n == some .cell) then (n,NameKind.cell) else (n,k)).lookup x = some k →
    ∃ k',names.lookup x = some k' ∧ (k = k' ∨ (k' = .free ∧ k = .cell))
  | [],_,_,h=>by simp at h
  | (n,k₀) :: r,x,k,h=>by
    have ih := @lookup_relS sc r x k
    have h':List.lookup x ((if (k₀ == NameKind.free && sc.kind == .function && sc.names.lookup n == some .cell) = true then (n,NameKind.cell) else (n,k₀)) :: (r.map _)) = some k:=h
    cases hx:x == n with
    | true =>
      simp only [List.lookup_cons,hx]
      by_cases hc:(k₀ == NameKind.free && sc.kind == .function && sc.names.lookup n == some .cell) = true
      · rw [if_pos hc] at h'
        simp only [List.lookup_cons,hx] at h'
        cases h'
        simp only [Bool.and_eq_true,beq_iff_eq] at hc
        exact ⟨k₀,rfl, .inr ⟨hc.1.1,rfl⟩⟩
      · rw [if_neg hc] at h'
        simp only [List.lookup_cons,hx] at h'
        cases h'
        exact ⟨_,rfl, .inl rfl⟩
    | false =>
      simp only [List.lookup_cons,hx]
      by_cases hc:(k₀ == NameKind.free && sc.kind == .function && sc.names.lookup n == some .cell) = true
      · rw [if_pos hc] at h'
        simp only [List.lookup_cons,hx] at h'
        exact ih h'
      · rw [if_neg hc] at h'
        simp only [List.lookup_cons,hx] at h'
        exact ih h'
structure BlkOk (N:List Str) (sc scope:Scope) (own:List (Str × Nat)):Prop where
  kind:scope.kind = .function
  uniq:∀ y ∈ scope.names,scope.names.lookup y.1 = some y.2
  ix:∀ p ∈ own,N[p.2]? = some p.1
  free:∀ y ∈ scope.names,y.2 = .free → sc.names.lookup y.1 = some .cell ∨ sc.names.lookup y.1 = some .free
  own:∀ y ∈ scope.names,y.2 = .local ∨ y.2 = .cell → y.1 ∈ own.map (·.1) ∨ y.1 ∉ N
def wipe (σ : St):List Nat → St
  | [] => σ
  | v :: vs=>(wipe σ vs).set v none
theorem wipe_length (σ : St):∀ vs:List Nat,(wipe σ vs).length = σ.length
  | [] => rfl
  | v :: vs=>by unfold wipe;rw [List.length_set,wipe_length σ vs]
theorem wipe_some {σ : St} {i:Nat} {x:V} : ∀ {vs:List Nat},(wipe σ vs)[i]? = some (some x) → σ[i]? = some (some x) ∧ i ∉ vs
  | [],h=>⟨h,by simp⟩
  | v :: vs,h=>by
    unfold wipe at h
    by_cases hi:v = i
    · subst hi
      by_cases hv:v < (wipe σ vs).length
      · rw [List.getElem?_set_self hv] at h;cases h
      · rw [List.getElem?_eq_none (by simpa using hv)] at h;cases h
    · rw [List.getElem?_set_ne hi] at h
      obtain ⟨h1,h2⟩:=wipe_some h
      exact ⟨h1,by simp only [List.mem_cons,not_or];exact ⟨fun e=>hi e.symm,h2⟩⟩
abbrev Cx.blk (X:Cx) (s:Shared) (H:Hp) (scope:Scope) (cenv:Env) (fp:List Addr):Cx:={ X with s_0:=s,H_0:=H,env:=cenv,outer:=X.stack,ex:=fp,fn:=fun x=>scope.names.lookup x == some .cell,pn:=[],xe:=fun _ _=>False }
section
variable {X:Cx} {pins:List (Addr × Obj)} {σ : St} {H:Hp} {s:Shared}
theorem block_start {scope:Scope} {own:List (Str × Nat)} {fp:List Addr} (I:Inv X pins σ H s) (ok:BlkOk X.N X.env.scope scope own) (hN:X.N.Nodup) (hfp:∀ b ∈ fp,FpOk X pins H b ∧ b < s.heap.objs.size) :
    Inv (X.blk s H scope (compEnvC scope (cellsFrom (s.heap.objs.size + 1) scope.names (cloFrom X.env.cells scope.names [])) s.heap.objs.size X.env) fp) [] (wipe σ (own.map (·.2))) H { s with heap:=pushCells (s.heap.push { cls := .type "dict",data := .dict #[] }) scope.names }:=by
  have hfree:∀ y ∈ scope.names,y.2 = .free → ∃ c,X.env.cells.lookup y.1 = some c:=fun y hy e=>by
    rcases ok.free y hy e with k | k
    · exact I.ok.has _ (.inl k)
    · exact I.ok.has _ (.inr k)
  generalize hcenv:compEnvC scope (cellsFrom (s.heap.objs.size + 1) scope.names (cloFrom X.env.cells scope.names [])) s.heap.objs.size X.env = cenv
  have kp:∀ b o,s.heap.get? b = some o → (pushCells (s.heap.push { cls := .type "dict",data := .dict #[] }) scope.names).get? b = some o:=fun b o e=>pushCells_keeps _ _ _ _ (Heap.get?_push_of_some _ e)
  have hL:cenv.locals = s.heap.objs.size:=by rw [← hcenv];rfl
  have hcl:cenv.cells = cellsFrom (s.heap.objs.size + 1) scope.names (cloFrom X.env.cells scope.names []):=by rw [← hcenv];rfl
  have hsc:cenv.scope = relS scope X.env.scope:=by rw [← hcenv];rfl
  rw [← Heap.size_push s.heap { cls := .type "dict",data := .dict #[] }] at hcl
  have cm:∀ {y c},(y,c) ∈ cloFrom X.env.cells scope.names [] → X.env.cells.lookup y = some c ∧ c < s.heap.objs.size:=fun {y c} hm=>by
    rcases cloFrom_mem hm with hm | ⟨h1,rfl⟩
    · cases hm
    · obtain ⟨c,hc⟩:=hfree _ h1 rfl
      rw [hc]
      obtain ⟨w,z⟩:=I.cell _ _ hc
      exact ⟨rfl,z.lt⟩
  have mem:∀ {y c},cenv.cells.lookup y = some c → (X.env.cells.lookup y = some c ∧ c < s.heap.objs.size) ∨ (s.heap.objs.size + 1 ≤ c ∧ CellAt (pushCells (s.heap.push { cls := .type "dict",data := .dict #[] }) scope.names) c none):=fun {y c} e=>by
    rw [hcl] at e
    rcases cells_mem (PySem.mem_of_lookup e) with hm | ⟨_,h2,h3⟩
    · exact .inl (cm hm)
    · rw [Heap.size_push] at h2;exact .inr ⟨h2,h3⟩
  have look:∀ {y},scope.names.lookup y = some .free → ∃ c,cenv.cells.lookup y = some c ∧ X.env.cells.lookup y = some c:=fun {y} hl=>by
    have hy:(y,NameKind.free) ∈ scope.names:=PySem.mem_of_lookup hl
    obtain ⟨c',e'⟩:=mem_lookup (cells_acc (names:=scope.names) (n:=(s.heap.push { cls := .type "dict",data := .dict #[] }).objs.size) (cloFrom_has (cells:=X.env.cells) (acc:=[]) hy))
    rw [← hcl] at e'
    refine ⟨c',e', ?_⟩
    rw [hcl] at e'
    rcases cells_mem (PySem.mem_of_lookup e') with hm | ⟨h1,_,_⟩
    · exact (cm hm).1
    · have:=ok.uniq _ h1
      rw [hl] at this;cases this
  have okB:(X.blk s H scope cenv fp).Ok:=by
    refine ⟨I.ok.mod,by show cenv.scope.kind = _;rw [hsc];exact ok.kind,by show cenv.globals = _;rw [← hcenv];exact I.ok.glob,by show cenv.builtins = _;rw [← hcenv];exact I.ok.blt,by show s.heap.objs.size ≤ cenv.locals;rw [hL];exact Nat.le_refl _,
      fun y z c e1 e2 => ?_,fun y hy => ?_,fun y c z e => ?_,I.ok.hd,I.ok.frames, .inl rfl,fun b hb=>⟨?_,fun y c e z => ?_⟩,I.bs,Nat.le_trans I.ok.bsz I.sz,fun b o e hb => ?_,fun b hb z => ?_,I.stack,I.stkFree⟩
    · have e1:cenv.cells.lookup y = some c:=e1
      have e2:cenv.cells.lookup z = some c:=e2
      rw [hcl] at e1 e2
      refine cells_inj (fun p hp => ?_) (fun y z c a b=>I.ok.inj y z c (cm a).1 (cm b).1) (PySem.mem_of_lookup e1) (PySem.mem_of_lookup e2)
      rw [Heap.size_push]
      exact Nat.lt_succ_of_lt (cm (y:=p.1) (c:=p.2) hp).2
    · show ∃ c,cenv.cells.lookup y = some c
      have key:∀ k,cenv.kindOf y = some k → (k = .cell ∨ k = .free) → ∃ c,cenv.cells.lookup y = some c:=fun k hk hk'=>by
        unfold Env.kindOf at hk
        rw [hsc] at hk
        obtain ⟨k',e,r⟩:=lookup_relS hk
        have:k' = .cell ∨ k' = .free:=by
          rcases r with rfl | ⟨rfl,_⟩
          · exact hk'
          · exact .inr rfl
        rcases this with rfl | rfl
        · obtain ⟨c,hm⟩:=cells_has (n:=(s.heap.push { cls := .type "dict",data := .dict #[] }).objs.size) (acc:=cloFrom X.env.cells scope.names []) (PySem.mem_of_lookup e)
          obtain ⟨c',e'⟩:=mem_lookup hm
          exact ⟨c',by rw [hcl];exact e'⟩
        · obtain ⟨c,h1,_⟩:=look e
          exact ⟨c,h1⟩
      rcases hy with hy | hy
      · exact key _ hy (.inl rfl)
      · exact key _ hy (.inr rfl)
    · have z:(scope.names.lookup y == some NameKind.cell) = true:=z
      have z:scope.names.lookup y = some .cell:=by simpa using z
      have e:cenv.cells.lookup y = some c:=e
      rw [hcl] at e
      rcases cells_mem (PySem.mem_of_lookup e) with hm | ⟨_,h2,_⟩
      · rcases cloFrom_mem hm with hm | ⟨h1,_⟩
        · cases hm
        · have q:=ok.uniq _ h1
          rw [z] at q;cases q
      · rw [Heap.size_push] at h2
        exact Nat.le_of_succ_le h2
    · show b ≠ cenv.locals
      rw [hL];exact Nat.ne_of_lt (hfp b hb).2
    · have e:cenv.cells.lookup y = some c:=e
      rcases mem e with ⟨h1,_⟩ | ⟨h1,_⟩
      · exact (hfp b hb).1.2.2.2.2.1 y c h1 z
      · have h2:s.heap.objs.size + 1 ≤ b:=by rw [← z];exact h1
        exact absurd (Nat.lt_of_lt_of_le (hfp b hb).2 (Nat.le_of_succ_le h2)) (Nat.lt_irrefl _)
    · rcases (hfp b hb).1.2.2.2.1 with z | z
      · exact I.ok.noex b o e z
      · exact absurd (Nat.lt_of_lt_of_le (Heap.lt_size e) (Nat.le_trans I.ok.bsz z)) (Nat.lt_irrefl _)
    · rcases List.mem_cons.mp (I.stkSub b z) with z | z
      · exact (hfp b hb).1.2.1 z
      · exact (hfp b hb).1.2.2.1 z
  refine ⟨okB,rfl,I.bare,Un.kept kp,⟨fun _=>none, ?_,fun i y av e1 e2 e3 => ?_⟩,fun y c e => ?_, ?_,fun y c e => ?_,fun p hp => ?_,I.hok.kept kp,by rw [wipe_length];exact I.len⟩
  · show Heap.Ns _ cenv.locals _
    rw [hL]
    exact Heap.Ns.keeps (Heap.Ns.new ..) fun b o e=>pushCells_keeps _ _ _ _ e
  · obtain ⟨e2,hne⟩:=wipe_some e2
    have hfr:scope.names.lookup y = some .free ∧ (cenv.kindOf y = some .cell ∨ cenv.kindOf y = some .free):=by
      have key:∀ k,cenv.scope.names.lookup y = some k → k = .local ∨ k = .cell ∨ k = .free → scope.names.lookup y = some .free ∧ (cenv.kindOf y = some .cell ∨ cenv.kindOf y = some .free):=fun k hk hk'=>by
        have hk0:=hk
        rw [hsc] at hk
        obtain ⟨k',e,r⟩:=lookup_relS hk
        have no:¬ (k' = .local ∨ k' = .cell):=fun hh=>by
          rcases ok.own _ (PySem.mem_of_lookup e) hh with e' | e'
          · obtain ⟨p,hp,hpy⟩:=List.mem_map.mp e'
            have e3:=ok.ix p hp
            have:p.1 = y:=hpy
            rw [this] at e3
            exact hne (List.mem_map.mpr ⟨p,hp,nodup_ix hN e3 e1⟩)
          · exact e' (List.mem_of_getElem? e1)
        rcases r with rfl | ⟨rfl,rfl⟩
        · rcases hk' with rfl | rfl | rfl
          · exact absurd (.inl rfl) no
          · exact absurd (.inr rfl) no
          · exact ⟨e, .inr hk0⟩
        · exact ⟨e, .inl hk0⟩
      have e3:Vis cenv.scope y:=e3
      rcases e3 with e3 | e3 | e3
      · exact key _ e3 (.inl rfl)
      · exact key _ e3 (.inr (.inl rfl))
      · exact key _ e3 (.inr (.inr rfl))
    obtain ⟨m,hn,hl⟩:=I.loc
    have hvis:Vis X.env.scope y:=(ok.free _ (PySem.mem_of_lookup hfr.1) rfl).elim (fun k => .inr (.inl k)) (fun k => .inr (.inr k))
    obtain ⟨w,r,q⟩:=hl i y av e1 e2 hvis
    refine ⟨w,r, .inr ⟨hfr.2, ?_⟩⟩
    obtain ⟨c,h1,h2⟩:=look hfr.1
    rcases q with ⟨k,_⟩ | ⟨_,c',e',z⟩
    · have k:X.env.scope.names.lookup y = some .local:=k
      rcases ok.free _ (PySem.mem_of_lookup hfr.1) rfl with k' | k' <;> rw [show X.env.scope.names.lookup y = _ from k'] at k <;> cases k
    · rw [h2] at e';cases e'
      exact ⟨c,h1,z.keeps kp⟩
  · have e:cenv.cells.lookup y = some c:=e
    rcases mem e with ⟨h1,_⟩ | ⟨_,z⟩
    · obtain ⟨w,z⟩:=I.cell y c h1
      exact ⟨w,z.keeps kp⟩
    · exact ⟨_,z⟩
  · show H cenv.locals = none
    rw [hL];exact I.hok.fresh (Nat.le_refl _)
  · have e:cenv.cells.lookup y = some c:=e
    rcases mem e with ⟨h1,_⟩ | ⟨h1,_⟩
    · exact I.freeC y c h1
    · exact I.hok.fresh (Nat.le_of_succ_le h1)
  · exact absurd (show p ∈ ([] : List (Addr × Obj)) ++ [] from hp) (by simp)
theorem app_ok {E:Value → Shared → Prop} {D:Addr} {xs:List V} {y:V} {v:Value} {Q:Value → Shared → Prop} (I:Inv X pins σ H s) (hD:H D = some (.lst xs)) (hz:xs.length < sizeLine) (r:RelV y v)
    (h:∀ s',Inv X pins σ (upd H D (.lst (xs ++ [y]))) s' → Q .none s'):wpAny (model X.prog X.w) X.A (call (.builtin "list.append") [.ref D,v]) Q E s:=by
  obtain ⟨hz',its,n,ri,e⟩:=I.hok D _ hD
  have hl:=ri.length
  refine append_at (hsz:=by rw [List.size_toArray];omega) e fun h' sb ho' => ?_
  refine h { s with heap:=h' } (I.write (t':=s.toks) (by rw [hD];trivial) (.inl rfl) (fun b u hb q=>(sb.2 b hb).trans q) ⟨_,ho'⟩ ⟨by rw [List.length_append];exact hz,its ++ [v],n + 1,ri.append (.cons r .nil), ?_⟩)
  rw [ho']
  simp
def PTs (X:Cx) (ifs:List Expr) (t:TT):Prop :=
  ∀ (pins:List (Addr × Obj)) (s:Shared) (σ : St) (H:Hp) (Q:Bool → Hp → Prop),Inv X pins σ H s → t σ H Q →
    wpAny (model X.prog X.w) X.A (forIn ifs true fun c r=>if r = true then do let ok ← isTrue c X.env (eval c X.env);pure (ForInStep.yield ok) else pure (ForInStep.yield r)) (TP X pins σ Q) X.xe s
def tYes:TT:=fun _ H Q=>Q true H
theorem pts_nil:PTs X [] tYes:=fun _ _ _ H _ I h=>wpAny_tests_nil ⟨H,I,h⟩
theorem pts_one {c:Expr} {t:TT} (h:PT X c t):PTs X [c] t:=fun pins s σ H Q I hw=>wpAny_tests_one (h pins s σ H Q I hw)
end
theorem thnF {α : Type} {t:Sem α} {Q Q' : α → Shared → Prop} {M:Model} {A:Around} {E:Value → Shared → Prop} {s:Shared} (h:wpAny M A t Q (fun _ _=>False) s) (hQ:∀ a s,Q a s → Q' a s):wpAny M A t Q' E s:=wpAny_mono h hQ fun _ _ z=>False.elim z
theorem compLoop_any {prog:Program} {w:World} {A:Around} {R:Result → Shared → Prop} {s:Shared} {elt target iter:Expr} {ifs:List Expr} {scope:Scope} {pos:Pos} {it acc:Value} {env:Env} (I:Nat → Shared → Prop)
    (turn:∀ n s,I n s → wpAny (model prog w) A (pyNext it) (fun r s₁ => match r with
      | none=>R (.ok .next) s₁
      | some v=>wpAny (model prog w) A (letOwnedTupleGo target it v) (fun _ s₁'=>wpAny (model prog w) A (assign target env v) (fun _ s₂ =>
          wpAny (model prog w) A (forIn ifs true fun c r=>if r = true then do let ok ← isTrue c env (eval c env);pure (ForInStep.yield ok) else pure (ForInStep.yield r)) (fun ok s₃ =>
            if ok = true then wpAny (model prog w) A (eval elt env) (fun x s₄ =>
              wpAny (model prog w) A (call (.builtin "list.append") [acc,x]) (fun _ s₅ => ∃ m,m < n ∧ I m s₅) (notedBy (model prog w) A env fun e s'=>R (.error e) s') s₄) (notedBy (model prog w) A env fun e s'=>R (.error e) s') s₃
            else ∃ m,m < n ∧ I m s₃) (notedBy (model prog w) A env fun e s'=>R (.error e) s') s₂) (notedBy (model prog w) A env fun e s'=>R (.error e) s') s₁') (notedBy (model prog w) A env fun e s'=>R (.error e) s') s₁) (notedBy (model prog w) A env fun e s'=>R (.error e) s') s)
    (n:Nat) (h:I n s) :
    codeAny (model prog w) A (.compLoop (.ListComp elt [⟨target,iter,ifs,0⟩] scope pos) 0 it acc env) R s:=by
  refine codeAny_loop rfl I (fun n s hI => ?_) n h
  show wpAny _ A ((compTurn (.ListComp elt [⟨target,iter,ifs,0⟩] scope pos) 0 it acc env).onRaise (fun x=>do noteFrame x env;theTreesLotGoes x)) _ _ s
  refine wpAny_noted ?_
  rw [compTurn_list]
  refine wpAny_bind (wpAny_standAt (wpAny_bind (wpAny_mono (turn n s hI) (fun r s₁ h₁ => ?_) fun _ _ h'=>h')))
  cases r with
  | none=>exact wpAny_pure h₁
  | some v =>
    refine wpAny_bind (wpAny_mono h₁ (fun _ s₁' h₁' => ?_) fun _ _ h'=>h')
    refine wpAny_bind (wpAny_mono h₁' (fun _ s₂ h₂ => wpAny_bind (wpAny_mono h₂ (fun ok s₃ h₃ => ?_) fun _ _ h'=>h')) fun _ _ h'=>h')
    cases ok with
    | false=>exact wpAny_pure ⟨rfl,h₃⟩
    | true =>
      exact wpAny_bind (wpAny_bind (wpAny_mono h₃ (fun x s₄ h₄ => wpAny_bind (wpAny_mono h₄ (fun _ s₅ h₅ => wpAny_pure (wpAny_pure ⟨rfl,h₅⟩)) fun _ _ h'=>h')) fun _ _ h'=>h'))
section
variable {X:Cx}
def tLc (wi:TI) (g:TG) (tt:TT) (te:TE) (vs:List Nat):TE:=fun σ H Q=>wi σ H fun J H1 => ∀ D,H1 D = none → ∃ W:Nat → Nat → Hp → Prop,(∃ m,W 0 m (upd H1 D (.lst []))) ∧ ∀ i m H,W i m H →
  (J.stop i H ∧ Q (.ref D) H) ∨ (J.go i H ∧ ∃ Nx:Hp → Prop,(∀ H',Nx H' → ∃ m',m' < m ∧ W (i + 1) m' H') ∧ ∀ x H',J.yld i H x H' → g x (wipe σ vs) H' fun σ2 H2=>wipe σ2 vs = wipe σ vs ∧ tt σ2 H2 fun b H3 =>
    if b = true then te σ2 H3 fun y H4 => ∃ acc,H4 D = some (.lst acc) ∧ acc.length < sizeLine ∧ Nx (upd H4 D (.lst (acc ++ [y]))) else Nx H3)
theorem lc_core {pins:List (Addr × Obj)} {s:Shared} {σ : St} {H:Hp} {Q:VK} {elt tg iter:Expr} {ifs:List Expr} {scope:Scope} {own:List (Str × Nat)} {pos pos':Pos} {wi:TI} {g:TG} {tt:TT} {te:TE} {use:Option (Value → Sem Unit)} {Qf:Value → Shared → Prop}
    (hc:X.calm = true) (hN:X.N.Nodup) (I:Inv X pins σ H s) (hi:PI X tg iter wi) (ok:BlkOk X.N X.env.scope scope own)
    (hg:∀ (s:Shared) (H:Hp) (C:Addr) (cl:List (Str × Addr)) (fp:List Addr),PG (X.blk s H scope (compEnvC scope cl C X.env) fp) tg g) (ht:∀ (s:Shared) (H:Hp) (C:Addr) (cl:List (Str × Addr)) (fp:List Addr),PTs (X.blk s H scope (compEnvC scope cl C X.env) fp) ifs tt)
    (he:∀ (s:Shared) (H:Hp) (C:Addr) (cl:List (Str × Addr)) (fp:List Addr),PE (X.blk s H scope (compEnvC scope cl C X.env) fp) elt te) (hs:∀ x,foldedSetIterable iter X.env x = pure x)
    (h:tLc wi g tt te (own.map (·.2)) σ H Q)
    (hRR:∀ D C s' m H',Inv X pins σ H' s' → Q (.ref D) H' → s'.heap.Ns C m → FpOk X pins H' C → compPost (model X.prog X.w) X.A X.xe use Qf (.ref D) C (.ok .next) s') :
    wpAny (model X.prog X.w) X.A (comprehension (.ListComp elt [⟨tg,iter,ifs,0⟩] scope pos) scope X.env pos' (newList []) false (eval iter X.env) use) Qf X.xe s:=by
  have hfree:∀ y ∈ scope.names,y.2 = .free → ∃ c,X.env.cells.lookup y.1 = some c:=fun y hy e=>by
    rcases ok.free y hy e with k | k
    · exact I.ok.has _ (.inl k)
    · exact I.ok.has _ (.inr k)
  refine wpAny_comprehension_free (use:=use) rfl hs (closure_ok hfree) ok.kind (fun y hy e=>by rw [ok.uniq y hy,e])
    (thn (hi pins s σ H _ I h) fun xv s1 hx=>thn hx fun itv s2 h2 => ?_)
  obtain ⟨it,fp,tn,J,H2,e,I2,T,st2,f2,q⟩:=h2
  subst e
  refine wpAny_newObj_type (newEnv_comp ?_) (by show 0 ≤ sizeLine;decide)
  generalize hD:s2.heap.objs.size = D
  have hDn:H2 D = none:=I2.hok.fresh (Nat.le_of_eq hD)
  obtain ⟨W,⟨m0,w0⟩,turn⟩:=q D hDn
  generalize hs3:({ s2 with heap:=s2.heap.push { cls := .type "list",data := .seq ([] : List Value).toArray } } : Shared) = s3
  have I3:Inv X pins σ (upd H2 D (.lst [])) s3:=by
    rw [← hs3]
    refine I2.laid (t':=s2.toks) (fun b o e=>Heap.get?_push_of_some _ e) (Nat.le_of_eq hD) ⟨Nat.zero_le _,[],0, .nil, ?_⟩
    rw [← hD]
    exact Heap.get?_push_size _ rfl
  have h3:s3.heap = s2.heap.push { cls := .type "list",data := .seq ([] : List Value).toArray }:=by rw [← hs3]
  have sz:∀ b ∈ fp,b < s2.heap.objs.size:=fun b hb=>by
    obtain ⟨o,e,_⟩:=T.obj _ _ st2 b hb
    exact Heap.lt_size e
  have f3:∀ b ∈ fp,FpOk X pins (upd H2 D (.lst [])) b ∧ b < s3.heap.objs.size:=fun b hb=>by
    have hlt:=sz b hb
    refine ⟨⟨?_,(f2 b hb).2⟩,by rw [h3,Heap.size_push];exact Nat.lt_succ_of_lt hlt⟩
    rw [upd_ne (by rw [← hD];exact Nat.ne_of_lt hlt)]
    exact (f2 b hb).1
  have st3:tn 0 s3.heap:=T.keep _ _ _ st2 fun b _ o e=>by rw [h3];exact Heap.get?_push_of_some _ e
  have I4:=block_start I3 ok hN f3
  have pg:=hg s3 (upd H2 D (.lst [])) s3.heap.objs.size (cellsFrom (s3.heap.objs.size + 1) scope.names (cloFrom X.env.cells scope.names [])) fp
  have pt:=ht s3 (upd H2 D (.lst [])) s3.heap.objs.size (cellsFrom (s3.heap.objs.size + 1) scope.names (cloFrom X.env.cells scope.names [])) fp
  have pe:=he s3 (upd H2 D (.lst [])) s3.heap.objs.size (cellsFrom (s3.heap.objs.size + 1) scope.names (cloFrom X.env.cells scope.names [])) fp
  show codeAny _ _ (.compStart (.ListComp elt [⟨tg,iter,ifs,0⟩] scope pos) 0 (.ref it) (.ref D) (compEnvC scope (cellsFrom (s3.heap.objs.size + 1) scope.names (cloFrom X.env.cells scope.names [])) s3.heap.objs.size X.env)) (compPost (model X.prog X.w) X.A X.xe use Qf (.ref D) s3.heap.objs.size) { s3 with heap:=pushCells (s3.heap.push { cls := .type "dict",data := .dict #[] }) scope.names }
  have nfp:∀ b ∈ fp,(upd H2 D (.lst [])) b = none:=fun b hb=>(f3 b hb).1.1
  generalize hce:compEnvC scope (cellsFrom (s3.heap.objs.size + 1) scope.names (cloFrom X.env.cells scope.names [])) s3.heap.objs.size X.env = ce at I4 pg pt pe ⊢
  have cL:ce.locals = s3.heap.objs.size:=by subst hce;rfl
  generalize hH3:upd H2 D (.lst []) = H3 at I3 I4 pg pt pe w0 nfp f3
  generalize hs4:({ s3 with heap:=pushCells (s3.heap.push { cls := .type "dict",data := .dict #[] }) scope.names } : Shared) = s4 at I4 ⊢
  have st4:tn 0 s4.heap:=T.keep _ _ _ st3 fun b _ o e=>by rw [← hs4];exact pushCells_keeps _ _ _ _ (Heap.get?_push_of_some _ e)
  have stat:∀ {σ':St} {H':Hp} {s':Shared},Inv (X.blk s3 H3 scope ce fp) [] σ' H' s' → (∀ b ∈ fp,H' b = none) → ∀ b ∈ fp,FpOk (X.blk s3 H3 scope ce fp) [] H' b:=fun {σ' H' s'} I' hn b hb =>
    ⟨hn b hb,(I'.ok.exf b hb).1,I'.ok.exfs b hb, .inl hb,fun x c e=>(I'.ok.exf b hb).2 x c e,fun p hp=>absurd (show p ∈ ([] : List (Addr × Obj)) ++ [] from hp) (by simp)⟩
  have loop:codeAny (model X.prog X.w) X.A (.compLoop (.ListComp elt [⟨tg,iter,ifs,0⟩] scope pos) 0 (.ref it) (.ref D) ce) (compPost (model X.prog X.w) X.A X.xe use Qf (.ref D) s3.heap.objs.size) s4:=by
    refine compLoop_any (fun n s' => ∃ i H',Inv (X.blk s3 H3 scope ce fp) [] (wipe σ (own.map (·.2))) H' s' ∧ tn i s'.heap ∧ (∀ b ∈ fp,H' b = none) ∧ W i n H') ?_ m0 ⟨0,H3,I4,st4,nfp,w0⟩
    rintro n s5 ⟨i,H5,I5,st5,n5,w5⟩
    rcases turn i n H5 w5 with ⟨stop,qq⟩ | ⟨go,Nx,hNx,step⟩
    · have td:=T.done (X.blk s3 H3 scope ce fp) rfl rfl rfl hc i [] s5 _ H5 (fun _ _=>False) I5 (stat I5 n5) st5 stop
      refine thnF td fun r s6 ⟨hr,I6⟩ => ?_
      subst hr
      have I7:Inv X pins σ H5 s6:=I3.call' (ch:=fp) I6.os I6.base I6.hok I6.bare fun b hb=>⟨(f3 b hb).1.2.2.2.1,(f3 b hb).1.2.1,(f3 b hb).1.2.2.2.2.1,(f3 b hb).1.2.2.2.2.2⟩
      have nC:H5 s3.heap.objs.size = none:=by
        have z:H5 ce.locals = none:=I6.free
        rw [cL] at z
        exact z
      obtain ⟨m,hn,_⟩:=I6.loc
      have hn:s6.heap.Ns ce.locals m:=hn
      rw [cL] at hn
      exact hRR D s3.heap.objs.size s6 m H5 I7 qq hn (I3.fpOk (Nat.le_refl _) nC)
    · have ti:=T.item (X.blk s3 H3 scope ce fp) rfl rfl rfl hc i [] s5 _ H5 (fun _ _=>False) I5 (stat I5 n5) st5 go
      refine thnF ti fun r s6 ⟨u,hr,h6⟩ => ?_
      subst hr
      refine thnF h6 fun _ s7 ⟨x,H7,I7,r7,y7,st7,n7⟩ => ?_
      have I7':=I7.pinned (stat I7 n7) (T.obj _ _ st7)
      refine thnF (pg _ s7 _ H7 x u _ I7' r7 (step x H7 y7)) fun _ s8 ⟨σ8,H8,I8,hw8,q8⟩ => ?_
      refine thnF (pt _ s8 σ8 H8 _ I8 q8) fun b s9 ⟨H9,I9,q9⟩ => ?_
      have fin:∀ {s':Shared} {H':Hp},Inv (X.blk s3 H3 scope ce fp) ([] ++ pinsAt fp s7.heap) σ8 H' s' → Nx H' → ∃ m,m < n ∧ ∃ i H',Inv (X.blk s3 H3 scope ce fp) [] (wipe σ (own.map (·.2))) H' s' ∧ tn i s'.heap ∧ (∀ b ∈ fp,H' b = none) ∧ W i m H':=fun {s' H'} I' nx=>by
        obtain ⟨m',hm,w'⟩:=hNx H' nx
        have pin':∀ b ∈ fp, ∀ o,s7.heap.get? b = some o → s'.heap.get? b = some o ∧ H' b = none:=fun b hb o e =>
          let z:=I'.pin (b,o) (List.mem_append_right _ (List.mem_append_right _ (mem_pinsAt hb e)))
          ⟨z.1,z.2.1⟩
        have hl:(wipe σ (own.map (·.2))).length = σ8.length:=by rw [← hw8,wipe_length]
        refine ⟨m',hm,i + 1,H',(I'.unpinned (pins:=[])).weak hl (fun j v e => ?_),T.keep _ _ _ st7 fun b hb o e=>(pin' b hb o e).1,fun b hb => ?_,w'⟩
        · rw [← hw8] at e
          exact (wipe_some e).1
        · obtain ⟨o,e,_⟩:=T.obj _ _ st7 b hb
          exact (pin' b hb o e).2
      cases b with
      | false =>
        simp only [Bool.false_eq_true,if_false] at q9 ⊢
        exact fin I9 q9
      | true =>
        simp only [if_true] at q9 ⊢
        refine thnF (pe _ s9 σ8 H9 _ I9 q9) fun z s10 ⟨yv,H10,I10,r10,acc,hD10,hz10,nx⟩ => ?_
        exact app_ok (X:=X.blk s3 H3 scope ce fp) I10 hD10 hz10 r10 fun s11 I11=>fin I11 nx
  exact codeAny_compStart_list loop (T.self X.A 0 _ _ _ st4 loop)
theorem pe_lc {elt tg iter:Expr} {ifs:List Expr} {scope:Scope} {own:List (Str × Nat)} {pos:Pos} {wi:TI} {g:TG} {tt:TT} {te:TE} (hc:X.calm = true) (hN:X.N.Nodup) (hi:PI X tg iter wi) (ok:BlkOk X.N X.env.scope scope own)
    (hg:∀ (s:Shared) (H:Hp) (C:Addr) (cl:List (Str × Addr)) (fp:List Addr),PG (X.blk s H scope (compEnvC scope cl C X.env) fp) tg g) (ht:∀ (s:Shared) (H:Hp) (C:Addr) (cl:List (Str × Addr)) (fp:List Addr),PTs (X.blk s H scope (compEnvC scope cl C X.env) fp) ifs tt)
    (he:∀ (s:Shared) (H:Hp) (C:Addr) (cl:List (Str × Addr)) (fp:List Addr),PE (X.blk s H scope (compEnvC scope cl C X.env) fp) elt te) (hs:∀ x,foldedSetIterable iter X.env x = pure x:=by intro _;rfl) :
    PE X (.ListComp elt [⟨tg,iter,ifs,0⟩] scope pos) (tLc wi g tt te (own.map (·.2))):=by
  intro pins s σ H Q I h
  rw [eval_ListComp]
  refine lc_core hc hN I hi ok hg ht he hs h fun D C s' m H' I' q hn f=>⟨m,hn,fun h'' sb => ?_⟩
  obtain ⟨f0,f1,f2,f3,f4,f5⟩:=f
  exact ⟨.ref D,H',I'.turned (t':=s'.toks) (fun b o hb e=>(sb.2 b hb).trans e) f0 f1 f3 f4 f5,rfl,q⟩
theorem ps_setLc {i:Nat} {y:Str} {py:Pos} {elt tg iter:Expr} {ifs:List Expr} {scope:Scope} {own:List (Str × Nat)} {pos spos:Pos} {wi:TI} {g:TG} {tt:TT} {te:TE} (hc:X.calm = true) (hN:X.N.Nodup) (hy:X.N[i]? = some y) (hyl:X.env.scope.names.lookup y = some .local)
    (hsw:swapsWith (.ListComp elt [⟨tg,iter,ifs,0⟩] scope pos) (some (.Name y py)) spos.line X.env = pure true) (hi:PI X tg iter wi) (ok:BlkOk X.N X.env.scope scope own)
    (hg:∀ (s:Shared) (H:Hp) (C:Addr) (cl:List (Str × Addr)) (fp:List Addr),PG (X.blk s H scope (compEnvC scope cl C X.env) fp) tg g) (ht:∀ (s:Shared) (H:Hp) (C:Addr) (cl:List (Str × Addr)) (fp:List Addr),PTs (X.blk s H scope (compEnvC scope cl C X.env) fp) ifs tt)
    (he:∀ (s:Shared) (H:Hp) (C:Addr) (cl:List (Str × Addr)) (fp:List Addr),PE (X.blk s H scope (compEnvC scope cl C X.env) fp) elt te) (hs:∀ x,foldedSetIterable iter X.env x = pure x:=by intro _;rfl) :
    PS X (.Assign [.Name y py] (.ListComp elt [⟨tg,iter,ifs,0⟩] scope pos) spos) (tAsg (tLc wi g tt te (own.map (·.2))) (gName i)):=by
  intro pins s σ H D I h
  rw [exec_Assign_Name_used _ _ _ _ hsw]
  refine wpAny_bind (wpAny_standAt (wpAny_bind ?_))
  show wpAny _ X.A (do let _ ← comprehension (.ListComp elt [⟨tg,iter,ifs,0⟩] scope pos) scope X.env (firstIterPos [⟨tg,iter,ifs,0⟩] pos) (newList []) false (eval iter X.env) (some (assign (.Name y py) X.env))) _ _ s
  have h:tLc wi g tt te (own.map (·.2)) σ H (fun x H1=>gName i x σ H1 D.nx):=h
  refine wpAny_bind (thn (lc_core (Qf:=fun _ s'=>SP X pins D .next s') hc hN I hi ok hg ht he hs h fun L C s' m H' I' q hn f => ?_) fun _ s' hq=>wpAny_pure (wpAny_pure hq))
  show wpAny _ _ (assign (.Name y py) X.env (.ref L)) _ _ _
  refine wpAny_assign_Name (store_ok2 (v:=V.ref L) I' hN hy (.inl hyl) rfl (fun s2 I2 ⟨a,sb,ha⟩ => ?_) (.inr hyl))
  obtain ⟨f0,f1,f2,f3,f4,f5⟩:=f
  have haC:C ≠ a:=by
    rcases ha with z | z
    · rw [z];exact f1
    · exact fun e=>f4 y a z e.symm
  refine ⟨m,hn.sameBut sb haC,fun h3 sb3 => ?_⟩
  exact ⟨_,H',I2.turned (t':=s2.toks) (fun b o hb e=>(sb3.2 b hb).trans e) f0 f1 f3 f4 f5,q⟩
theorem sw_true {elt:Expr} {gs:List Comprehension} {scope:Scope} {pos py:Pos} {y:Str} {l:Nat} {env:Env} (hk:env.scope.kind = .function) (hy:env.scope.names.lookup y = some .local) (hl:(py.line == pos.line) = true)
    (ha:(scope.names.any fun (n,k)=>n == y && (k == .local || k == .cell)) = false):swapsWith (.ListComp elt gs scope pos) (some (.Name y py)) l env = pure true:=by
  have ky:env.kindOf y = some .local:=hy
  have hb:env.blockKind = .function:=by unfold Env.blockKind;rw [hk];rfl
  unfold swapsWith
  simp only [hb,ky,ha,Expr.pos,hl]
  rfl
end
theorem lc_range {lo:Int} {n:Nat} {g:TG} {tt:TT} {te:TE} {vs:List Nat} {σ : St} {H1:Hp} {D:Addr} {Qd:Hp → Prop} (Pv:Nat → Hp → Prop) (h0:Pv 0 (upd H1 D (.lst [])))
    (hs:∀ i H,i < n → Pv i H → g (.int (lo + i)) (wipe σ vs) H fun σ2 H2=>wipe σ2 vs = wipe σ vs ∧ tt σ2 H2 fun b H3 =>
      if b = true then te σ2 H3 fun y H4 => ∃ acc,H4 D = some (.lst acc) ∧ acc.length < sizeLine ∧ Pv (i + 1) (upd H4 D (.lst (acc ++ [y]))) else Pv (i + 1) H3) (hd:∀ H,Pv n H → Qd H) :
    ∃ W:Nat → Nat → Hp → Prop,(∃ m,W 0 m (upd H1 D (.lst []))) ∧ ∀ i m H,W i m H →
      ((Itr lo n).stop i H ∧ Qd H) ∨ ((Itr lo n).go i H ∧ ∃ Nx:Hp → Prop,(∀ H',Nx H' → ∃ m',m' < m ∧ W (i + 1) m' H') ∧ ∀ x H',(Itr lo n).yld i H x H' → g x (wipe σ vs) H' fun σ2 H2=>wipe σ2 vs = wipe σ vs ∧ tt σ2 H2 fun b H3 =>
        if b = true then te σ2 H3 fun y H4 => ∃ acc,H4 D = some (.lst acc) ∧ acc.length < sizeLine ∧ Nx (upd H4 D (.lst (acc ++ [y]))) else Nx H3):=by
  refine ⟨fun i m H=>m = n - i ∧ i ≤ n ∧ Pv i H,⟨n,by simp,Nat.zero_le _,h0⟩, ?_⟩
  rintro i m H ⟨rfl,hi,p⟩
  by_cases hlt:i < n
  · refine .inr ⟨hlt,Pv (i + 1),fun H' p'=>⟨n - (i + 1),by omega,rfl,hlt,p'⟩,fun x H' y => ?_⟩
    obtain ⟨e,y⟩:=y
    subst e y
    exact hs i _ hlt p
  · have e:i = n:=by omega
    subst e
    exact .inl ⟨Nat.le_refl _,hd H p⟩
def blkC (N:List Str) (sc scope:Scope) (own:List (Str × Nat)):Bool :=
  (match scope.kind with | .function=>true | _=>false) && (scope.names.all fun y=>decide (scope.names.lookup y.1 = some y.2)) && (own.all fun p=>decide (N[p.2]? = some p.1)) &&
    (scope.names.all fun y=>match y.2 with
      | .free=>(match sc.names.lookup y.1 with | some .cell=>true | some .free=>true | _=>false)
      | .local=>decide (y.1 ∈ own.map (·.1)) || decide (y.1 ∉ N)
      | .cell=>decide (y.1 ∈ own.map (·.1)) || decide (y.1 ∉ N)
      | _=>true)
theorem blkOk_by {N:List Str} {sc scope:Scope} {own:List (Str × Nat)} (h:blkC N sc scope own = true):BlkOk N sc scope own:=by
  unfold blkC at h
  simp only [Bool.and_eq_true,List.all_eq_true,decide_eq_true_eq] at h
  obtain ⟨⟨⟨h1,h2⟩,h3⟩,h4⟩:=h
  refine ⟨?_,h2,h3,fun y hy e => ?_,fun y hy e => ?_⟩
  · split at h1
    · assumption
    · cases h1
  · have q:=h4 y hy
    simp only [e] at q
    split at q <;> first | exact .inl (by assumption) | exact .inr (by assumption) | cases q
  · have q:=h4 y hy
    rcases e with e | e <;> (simp only [e,Bool.or_eq_true,decide_eq_true_eq] at q;exact q)
end L2
namespace L2
open PySem PySem.Spec PyProof.Rows
end L2
namespace L2
open PySem PySem.Spec PyProof.Rows
end L2
namespace L2
open PySem PySem.Spec PyProof.Rows
end L2
namespace L2
open PySem PySem.Spec PyProof.Rows
section
variable {X:Cx} {pins:List (Addr × Obj)} {σ : St} {H:Hp} {s:Shared} {h':Heap}
theorem Inv.turnedL {t':Nat} {ch:List Addr} (I:Inv X pins σ H s) (k:∀ b o,b ∉ ch → s.heap.get? b = some o → h'.get? b = some o) (hf:∀ b ∈ ch,FpOk X pins H b):Inv X pins σ H { s with heap:=h',toks:=t' }:=by
  have nit:∀ b u,H b = some u → b ∉ ch:=fun b u e z=>by
    have q:=(hf b z).1
    rw [q] at e;cases e
  refine I.step (g':=s.gens) (d':=s.drawn) (ch:=ch) (fun b hb=>⟨(hf b hb).2.2.2.1,(hf b hb).2.1,(hf b hb).2.2.2.2.1,(hf b hb).2.2.2.2.2⟩) (fun b o _ _ hc e _=>k b o hc e) (fun b o _ _ hc e _=>⟨o.slots,k b o hc e⟩)
    (fun _ _ _ _ n=>n) (fun b o hc e=>⟨o,k b o hc e⟩) (fun _ _ e=>e) (fun _ _ _ e=>e) (fun b ps e=>⟨#[],by rw [e];simp⟩) (fun m hm => ?_) (fun b u e => ?_) I.bare
  · obtain ⟨o,es,ep,ho,r⟩:=hm
    exact ⟨o,es,ep,k _ o (fun z=>(hf _ z).2.1 rfl) ho,r⟩
  · refine (I.hok b u e).stay (fun c v hc q=>k c v ?_ q) (fun _ q=>q) fun _ _ q=>q
    rcases hc with z | z
    · rw [z];exact nit b u e
    · exact nit c _ z
theorem Inv.turnedNew {t':Nat} {ch:List Addr} {T:Addr} {ob:HO} (I:Inv X pins σ H s) (k:∀ b o,b ∉ ch → s.heap.get? b = some o → h'.get? b = some o) (hf:∀ b ∈ ch,FpOk X pins H b) (hT:s.heap.objs.size ≤ T)
    (new:ObjOk X.prog X.w (upd H T ob) h' T ob):Inv X pins σ (upd H T ob) { s with heap:=h',toks:=t' }:=by
  have hn:H T = none:=I.hok.fresh hT
  have nit:∀ b u,H b = some u → b ∉ ch:=fun b u e z=>by
    have q:=(hf b z).1
    rw [q] at e;cases e
  refine I.step (g':=s.gens) (d':=s.drawn) (ch:=ch) (fun b hb=>⟨(hf b hb).2.2.2.1,(hf b hb).2.1,(hf b hb).2.2.2.2.1,(hf b hb).2.2.2.2.2⟩) (fun b o _ _ hc e _=>k b o hc e) (fun b o _ _ hc e _=>⟨o.slots,k b o hc e⟩)
    (fun b o _ e n => ?_) (fun b o hc e=>⟨o,k b o hc e⟩) (fun b xs e => ?_) (fun b o u e => ?_) (fun b ps e=>⟨#[], ?_⟩) (fun m hm => ?_) (fun b u e => ?_) I.bare
  · rw [upd_ne (Nat.ne_of_lt (Nat.lt_of_lt_of_le (Heap.lt_size e) hT))];exact n
  · rw [upd_ne (ne_of_none e hn)];exact e
  · rw [upd_ne (ne_of_none e hn)];exact e
  · rw [upd_ne (ne_of_none e hn),e];simp
  · obtain ⟨o,es,ep,ho,r⟩:=hm
    exact ⟨o,es,ep,k _ o (fun z=>(hf _ z).2.1 rfl) ho,r⟩
  · by_cases hb:b = T
    · subst hb
      rw [upd_same] at e
      cases e
      exact new
    · rw [upd_ne hb] at e
      refine (I.hok b u e).stay (fun c v hc q=>k c v ?_ q) (fun c q=>by rw [upd_ne (ne_of_none q hn)];exact q) fun c xs q=>by rw [upd_ne (ne_of_none q hn)];exact q
      rcases hc with z | z
      · rw [z];exact nit b u e
      · exact nit c _ z
end
section
variable {X:Cx}
theorem pi_one {tg:Expr} {pins:List (Addr × Obj)} {σ : St} {H:Hp} {s:Shared} {R:It → Hp → Prop} {J:It} {tn:Nat → Heap → Prop} {tk:Nat} (I:Inv X pins σ H s) (o:Obj)
    (T:Turn X.prog X.w X.K tg J [s.heap.objs.size] s.heap.objs.size tn) (st:tn 0 (s.heap.push o)) (q:R J H):PIE X pins σ tg R (.ref s.heap.objs.size) { s with heap:=s.heap.push o,toks:=tk }:=by
  refine ⟨s.heap.objs.size,[s.heap.objs.size],tn,J,H,rfl,I.kept fun b ob e=>Heap.get?_push_of_some _ e,T,st,fun b hb => ?_,q⟩
  have e:b = s.heap.objs.size:=by simpa using hb
  subst e
  exact I.fpOk (Nat.le_refl _) (I.hok.fresh (Nat.le_refl _))
end
def Itc (lo c:Int) (n:Nat):It:=⟨fun i _=>i < n,fun i H x H'=>H' = H ∧ x = .int (lo + (i:Nat) * c),fun i _=>n ≤ i⟩
theorem turn_rangeC {P:Program} {w:World} {K:PySem.W.Frag} {tg:Expr} (it:Addr) (lo c:Int) (n:Nat):Turn P w K tg (Itc lo c n) [it] it (fun i h=>IsRangeIter h it (lo + (i:Nat) * c) ((n:Int) - (i:Nat)) c) where
  mem:=by simp
  obj:=fun i h st b hb=>by
    have e:b = it:=by simpa using hb
    subst e
    exact ⟨_,st,fun v z=>nomatch z⟩
  keep:=fun i h h' st k=>k it (by simp) _ st
  item:=by
    intro X hP hw hK hc i pins s σ H E I hf st hg
    subst hP hw hK
    obtain ⟨f0,f1,f2,f3,f4,f5⟩:=hf it (by simp)
    have W:=Walks.range (prog:=X.prog) (w:=X.w) (I.ok.hd hc) it lo c n
    refine W.item i s _ _ hg st fun v h' tk hv st' kk => ?_
    obtain ⟨t,rfl⟩:=hv
    have I1:Inv X pins σ H { s with heap:=h',toks:=tk }:=I.turned (fun b o hb e=>kk b o (by simpa using hb) e) f0 f1 f3 f4 f5
    exact ⟨_,rfl,go_of (s:={ s with heap:=h',toks:=tk }) (n := "range_iterator") st' rfl rfl (by decide) ⟨.int (lo + (i:Nat) * c),H,I1,⟨t,rfl⟩,⟨rfl,rfl⟩,st',fun b hb=>(hf b hb).1⟩⟩
  done:=by
    intro X hP hw hK hc i pins s σ H E I hf st hg
    subst hP hw hK
    obtain ⟨f0,f1,f2,f3,f4,f5⟩:=hf it (by simp)
    exact wpAny_pyNext_range_end (I.ok.hd hc) st (by have:n ≤ i:=hg;omega) fun h' eb=>⟨rfl,I.turned (t':=s.toks) (fun b o hb e=>eb b o hb e) f0 f1 f3 f4 f5⟩
  self:=fun A i s Q E st h=>wpAny_pyIter_rangeiter st h
def RgC (i j c:Int) (n:Nat):Prop:=c ≠ 0 ∧ c.natAbs < 1073741824 ∧ Builtin.Range.small i j c = true ∧ Builtin.Range.rangeSize i j c = n
def iRng3 (ta:TA):TI:=fun σ H R=>ta σ H fun vs H1 => ∃ (i j c:Int) (n:Nat),vs = [.int i, .int j, .int c] ∧ RgC i j c n ∧ R (Itc i c n) H1
section
variable {X:Cx} {tg:Expr}
theorem pi_range3 {a b c:Expr} {ta:TA} {p pos:Pos} (hg:Gl X "range") (hm:X.mg "range" = none) (ha:PA X [a,b,c] ta)
    (hs:starEach [a,b,c] X.env = (false,eval a X.env) :: starEach [b,c] X.env:=by rfl) (hpl:(backTo pos (starEach [b,c] X.env)).any (·.1) = false:=by rfl) :
    PI X tg (.Call (.Name "range" p) [a,b,c] [] pos) (iRng3 ta):=by
  intro pins s σ H R I h
  refine Call_ (ld_blt I hg hm boot_range (PyProof.Rows.callWith_type1 (thn (ha pos pins s σ H _ I h) fun us s1 ⟨vs,H1,I1,r1,q1⟩ => ?_) hs hpl))
  obtain ⟨i,j,k,n,e,⟨c0,c1,c2,c3⟩,q⟩:=q1
  subst e
  cases r1 with
  | cons r rr =>
    cases rr with
    | cons r' rr =>
      cases rr with
      | cons r'' rr =>
        cases rr
        obtain ⟨t,rfl⟩:=r
        obtain ⟨t',rfl⟩:=r'
        obtain ⟨t'',rfl⟩:=r''
        refine call_range_3 c0 ?_ (.inl (PyProof.noPylong_small c1))
        refine wpAny_pyIter_range (IsRange.new ..) c2 ?_
        have I2:Inv X pins σ H1 { s1 with heap:=s1.heap.push { cls := .type "range",data := .fields #[.int i t, .int j t', .int k t''] } }:=I1.kept (t':=s1.toks) fun b o e=>Heap.get?_push_of_some _ e
        refine pi_one (tk:=s1.toks) I2 _ (turn_rangeC _ i k n) ?_ q
        have e1:i + ((0:Nat):Int) * k = i:=by simp
        have e2:(n:Int) - ((0:Nat):Int) = Builtin.Range.rangeSize i j k:=by rw [c3];simp
        show IsRangeIter _ _ (i + ((0:Nat):Int) * k) ((n:Int) - ((0:Nat):Int)) k
        rw [e1,e2]
        exact Heap.get?_push_size _ rfl
end
theorem paired_get {α β : Type} {G : α → β → Prop} {l₁ : List α} {l₂ : List β} (h:Paired G l₁ l₂):∀ {i:Nat} {a : α},l₁[i]? = some a → ∃ b,l₂[i]? = some b ∧ G a b:=by
  induction h with
  | nil=>intro i a e;simp at e
  | @cons a b l₁ l₂ r t ih =>
    intro i a' e
    cases i with
    | zero =>
      simp only [List.getElem?_cons_zero,Option.some.injEq] at e
      subst e
      exact ⟨b,rfl,r⟩
    | succ j =>
      simp only [List.getElem?_cons_succ] at e ⊢
      exact ih e
def Ite (K:PySem.W.Frag) (a:Addr):It :=
  ⟨fun i H => ∃ (xs:List V) (x:V),SqL K H a xs ∧ xs[i]? = some x,fun i H v H' => ∃ T x,v = .ref T ∧ H T = none ∧ H' = upd H T (.tup [.int (i:Nat),x]) ∧ ∀ xs,SqL K H a xs → xs[i]? = some x,fun i H => ∃ xs:List V,SqL K H a xs ∧ xs.length ≤ i⟩
theorem turn_enum {P:Program} {w:World} {K:PySem.W.Frag} {elts:List Expr} {kk:Nat} {tpos:Pos} (a e it:Addr) :
    Turn P w K (.Tuple elts kk tpos) (Ite K a) [e,it] e (fun i h=>(∃ old,IsEnum h e it ((i:Nat):Int) old) ∧ h.IsListIter it a i ∧ e ≠ it) where
  mem:=by simp
  obj:=fun i h st b hb=>by
    obtain ⟨⟨old,he⟩,⟨o,ho,hc,hd⟩,_⟩:=st
    have e':b = e ∨ b = it:=by simpa using hb
    rcases e' with z | z
    · rw [z];exact ⟨_,he,fun v q=>nomatch q⟩
    · rw [z];exact ⟨o,ho,fun v q=>by rw [hd] at q;cases q⟩
  keep:=fun i h h' st k=>let ⟨⟨old,he⟩,hi,hne⟩:=st;⟨⟨old,k e (by simp) _ he⟩,hi.at fun o q=>k it (by simp) o q,hne⟩
  item:=by
    intro X hP hw hK hc i pins s σ H E I hf st hg
    subst hP hw hK
    obtain ⟨⟨old,he⟩,hit,hne⟩:=st
    obtain ⟨xs,x,hq,hx⟩:=hg
    obtain ⟨its,rv,p,hz⟩:=I.list hq
    obtain ⟨u,hu,ru⟩:=rv.get hx
    have hel:e < s.heap.objs.size:=Heap.lt_size he
    have hil:it < s.heap.objs.size:=by obtain ⟨_,q,_⟩:=hit;exact Heap.lt_size q
    refine wpAny_pyNext_enum_item he hit p.isList (x:=u) (by simpa using hu) hne fun h' ho hit' hT hsz hk => ?_
    refine ⟨_,rfl,wpAny_letOwnedTupleGo_enum (s:={ s with heap:=h',toks:=s.toks + 1 }) ho fun h'' he' sb => ?_⟩
    have hT2:h''.get? s.heap.objs.size = some { cls := .type "tuple",data := .seq #[.int i s.toks,u] }:=(sb.2 _ (Nat.ne_of_gt hel)).trans hT
    have new:ObjOk X.prog X.w (upd H s.heap.objs.size (.tup [.int (i:Nat),x])) h'' s.heap.objs.size (.tup [.int (i:Nat),x]) :=
      ⟨by show 2 ≤ sizeLine;decide,[.int i s.toks,u], .cons ⟨_,rfl⟩ (.cons ru .nil),⟨_,hT2,rfl,_,rfl⟩⟩
    have I1:Inv X pins σ (upd H s.heap.objs.size (.tup [.int (i:Nat),x])) { s with heap:=h'',toks:=s.toks + 1 } :=
      I.turnedNew (ch:=[e,it]) (fun b ob hb q=>(sb.2 b (fun z=>hb (by simp [z]))).trans (hk b ob (fun z=>hb (by simp [z])) (fun z=>hb (by simp [z])) q)) hf (Nat.le_refl _) new
    refine ⟨.ref s.heap.objs.size,_,I1,rfl,⟨_,x,rfl,I.hok.fresh (Nat.le_refl _),rfl,fun ys hy=>by rw [I.list_inj hy hq];exact hx⟩,⟨⟨u, ?_⟩,hit'.at fun o q=>(sb.2 it (Ne.symm hne)).trans q,hne⟩,fun b hb => ?_⟩
    · have e1:((i + 1:Nat):Int) = (i:Int) + 1:=by omega
      rw [e1];exact he'
    · have hb':b < s.heap.objs.size:=by
        have e':b = e ∨ b = it:=by simpa using hb
        rcases e' with z | z
        · rw [z];exact hel
        · rw [z];exact hil
      rw [upd_ne (Nat.ne_of_lt hb')]
      exact (hf b hb).1
  done:=by
    intro X hP hw hK hc i pins s σ H E I hf st hg
    subst hP hw hK
    obtain ⟨⟨old,he⟩,hit,hne⟩:=st
    obtain ⟨xs,hq,hx⟩:=hg
    obtain ⟨its,rv,p,hz⟩:=I.list hq
    obtain ⟨f0,f1,f2,f3,f4,f5⟩:=hf it (by simp)
    have hl:=rv.length
    exact wpAny_pyNext_enum_end (I.ok.hd hc) he hit p.isList (by simp;omega) fun h' eb=>⟨rfl,I.turned (t':=s.toks) (fun b o hb q=>eb b o hb q) f0 f1 f3 f4 f5⟩
  self:=fun A i s Q E st h=>let ⟨⟨_,he⟩,_⟩:=st;wpAny_pyIter_enum he h
def iEnum (K:PySem.W.Frag) (ta:TA):TI:=fun σ H R=>ta σ H fun vs H1 => ∃ a xs,vs = [.ref a] ∧ SqL K H1 a xs ∧ R (Ite K a) H1
theorem pi_enum {X:Cx} {e:Expr} {ta:TA} {p pos tpos:Pos} {elts:List Expr} {kk:Nat} (hg:Gl X "enumerate") (hm:X.mg "enumerate" = none) (ha:PA X [e] ta) (hs:starEach [e] X.env = [(false,eval e X.env)]:=by rfl) :
    PI X (.Tuple elts kk tpos) (.Call (.Name "enumerate" p) [e] [] pos) (iEnum X.K ta):=by
  intro pins s σ H R I h
  refine Call_ (ld_blt I hg hm boot_enumerate (PyProof.Rows.callWith_type1 (thn (ha pos pins s σ H _ I h) fun us s1 ⟨vs,H1,I1,r1,q1⟩ => ?_) hs rfl))
  obtain ⟨a,xs,ex,hq,q⟩:=q1
  subst ex
  cases r1 with
  | cons r rr =>
    cases rr
    cases r
    obtain ⟨its,rv,p',hz⟩:=I1.list hq
    refine call_enumerate_list p'.isList fun h' he hit hsz hk=>wpAny_pyIter_enum he ?_
    have I2:Inv X pins σ H1 { s1 with heap:=h' }:=I1.kept (t':=s1.toks) hk
    refine ⟨s1.heap.objs.size + 1,[s1.heap.objs.size + 1,s1.heap.objs.size],_,_,H1,rfl,I2,turn_enum a (s1.heap.objs.size + 1) s1.heap.objs.size,⟨⟨.none,he⟩,hit,Nat.succ_ne_self _⟩,fun b hb => ?_,q⟩
    have e':b = s1.heap.objs.size + 1 ∨ b = s1.heap.objs.size:=by simpa using hb
    have hle:s1.heap.objs.size ≤ b:=by
      rcases e' with z | z
      · rw [z];exact Nat.le_add_right _ _
      · rw [z];exact Nat.le_refl _
    exact I1.fpOk hle (I1.hok.fresh hle)
theorem boot_zip5:bootBuiltins "zip" = some (.type "zip"):=by decide +kernel
def Itz (K:PySem.W.Frag) (a b:Addr):It :=
  ⟨fun i H => ∃ (xs ys:List V) (x y:V),SqL K H a xs ∧ SqL K H b ys ∧ xs[i]? = some x ∧ ys[i]? = some y,
    fun i H v H' => ∃ T x y,v = .ref T ∧ H T = none ∧ H' = upd H T (.tup [x,y]) ∧ (∀ xs,SqL K H a xs → xs[i]? = some x) ∧ ∀ ys,SqL K H b ys → ys[i]? = some y,
    fun i H => ∃ xs ys:List V,SqL K H a xs ∧ SqL K H b ys ∧ (xs.length ≤ i ∨ ys.length ≤ i)⟩
theorem turn_zip {P:Program} {w:World} {K:PySem.W.Frag} {elts:List Expr} {kk:Nat} {tpos:Pos} {a b z TI TO i1 i2:Addr} (D:ZipApart z TI TO i1 i2 a b) :
    Turn P w K (.Tuple elts kk tpos) (Itz K a b) [z,TI,TO,i1,i2] z (fun i h=>IsZip h z TI TO .none ∧ IsPair h TI (.ref i1) (.ref i2) ∧ (∃ x y,IsPair h TO x y) ∧ h.IsListIter i1 a i ∧ h.IsListIter i2 b i) where
  mem:=by simp
  obj:=fun i h st c hc=>by
    obtain ⟨hz,hTI,⟨x,y,hTO⟩,⟨o1,e1,_,d1⟩,⟨o2,e2,_,d2⟩⟩:=st
    have e':c = z ∨ c = TI ∨ c = TO ∨ c = i1 ∨ c = i2:=by simpa using hc
    rcases e' with q | q | q | q | q
    · rw [q];exact ⟨_,hz,fun v q=>nomatch q⟩
    · rw [q];exact ⟨_,hTI,fun v q=>nomatch q⟩
    · rw [q];exact ⟨_,hTO,fun v q=>nomatch q⟩
    · rw [q];exact ⟨o1,e1,fun v q=>by rw [d1] at q;cases q⟩
    · rw [q];exact ⟨o2,e2,fun v q=>by rw [d2] at q;cases q⟩
  keep:=fun i h h' st k=>by
    obtain ⟨hz,hTI,⟨x,y,hTO⟩,h1,h2⟩:=st
    exact ⟨k z (by simp) _ hz,k TI (by simp) _ hTI,⟨x,y,k TO (by simp) _ hTO⟩,h1.at fun o q=>k i1 (by simp) o q,h2.at fun o q=>k i2 (by simp) o q⟩
  item:=by
    intro X hP hw hK hc i pins s σ H E I hf st hg
    subst hP hw hK
    obtain ⟨hz,hTI,⟨x0,y0,hTO⟩,h1,h2⟩:=st
    obtain ⟨xs,ys,x,y,hqx,hqy,hx,hy⟩:=hg
    obtain ⟨its,rv,p,_⟩:=I.list hqx
    obtain ⟨its2,rv2,p2,_⟩:=I.list hqy
    obtain ⟨u,hu,ru⟩:=rv.get hx
    obtain ⟨u2,hu2,ru2⟩:=rv2.get hy
    have hzl:z < s.heap.objs.size:=Heap.lt_size hz
    refine wpAny_pyNext_zip_item D hz hTI hTO h1 h2 p.isList p2.isList (x:=u) (y:=u2) (by simpa using hu) (by simpa using hu2) fun h' z' TO' h1' h2' hT hsz hk => ?_
    refine ⟨_,rfl,wpAny_letOwnedTupleGo_zip (s:={ s with heap:=h' }) z' fun h'' z'' sb => ?_⟩
    have hT2:h''.get? s.heap.objs.size = some { cls := .type "tuple",data := .seq #[u,u2] }:=(sb.2 _ (Nat.ne_of_gt hzl)).trans hT
    have new:ObjOk X.prog X.w (upd H s.heap.objs.size (.tup [x,y])) h'' s.heap.objs.size (.tup [x,y]) :=
      ⟨by show 2 ≤ sizeLine;decide,[u,u2], .cons ru (.cons ru2 .nil),⟨_,hT2,rfl,_,rfl⟩⟩
    have I1:Inv X pins σ (upd H s.heap.objs.size (.tup [x,y])) { s with heap:=h'' } :=
      I.turnedNew (t':=s.toks) (ch:=[z,TI,TO,i1,i2]) (fun c o hb q=>(sb.2 c (fun q'=>hb (by simp [q']))).trans (hk c o (fun q'=>hb (by simp [q'])) (fun q'=>hb (by simp [q'])) (fun q'=>hb (by simp [q'])) (fun q'=>hb (by simp [q'])) q)) hf (Nat.le_refl _) new
    refine ⟨.ref s.heap.objs.size,_,I1,rfl,⟨_,x,y,rfl,I.hok.fresh (Nat.le_refl _),rfl,fun l hl=>by rw [I.list_inj hl hqx];exact hx,fun l hl=>by rw [I.list_inj hl hqy];exact hy⟩,⟨z'', ?_,⟨u,u2, ?_⟩, ?_, ?_⟩,fun c hcm => ?_⟩
    · exact (sb.2 _ D.TIz).trans (hk _ _ D.TIz D.TITO D.TIi1 D.TIi2 hTI)
    · exact (sb.2 _ D.TOz).trans TO'
    · exact h1'.at fun o q=>(sb.2 _ D.i1z).trans q
    · exact h2'.at fun o q=>(sb.2 _ D.i2z).trans q
    · have hlt:c < s.heap.objs.size:=by
        have e':c = z ∨ c = TI ∨ c = TO ∨ c = i1 ∨ c = i2:=by simpa using hcm
        rcases e' with q | q | q | q | q
        · rw [q];exact hzl
        · rw [q];exact Heap.lt_size hTI
        · rw [q];exact Heap.lt_size hTO
        · rw [q];obtain ⟨_,e1,_⟩:=h1;exact Heap.lt_size e1
        · rw [q];obtain ⟨_,e2,_⟩:=h2;exact Heap.lt_size e2
      rw [upd_ne (Nat.ne_of_lt hlt)]
      exact (hf c hcm).1
  done:=by
    intro X hP hw hK hc i pins s σ H E I hf st hg
    subst hP hw hK
    obtain ⟨hz,hTI,⟨x0,y0,hTO⟩,h1,h2⟩:=st
    obtain ⟨xs,ys,hqx,hqy,hend⟩:=hg
    obtain ⟨its,rv,p,_⟩:=I.list hqx
    obtain ⟨its2,rv2,p2,_⟩:=I.list hqy
    have l1:=rv.length
    have l2:=rv2.length
    have he:its.toArray[i]? = none ∨ its2.toArray[i]? = none:=by
      rcases hend with q | q
      · exact .inl (by simp;omega)
      · exact .inr (by simp;omega)
    exact wpAny_pyNext_zip_end (I.ok.hd hc) D hz hTI hTO h1 h2 p.isList p2.isList he fun h' hk=>⟨rfl,I.turnedL (t':=s.toks) (ch:=[z,TI,TO,i1,i2]) (fun c o hb q =>
      hk c o (fun q'=>hb (by simp [q'])) (fun q'=>hb (by simp [q'])) (fun q'=>hb (by simp [q'])) (fun q'=>hb (by simp [q'])) q) hf⟩
  self:=fun A i s Q E st h=>wpAny_pyIter_zip st.1 h
def iZip (K:PySem.W.Frag) (ta:TA):TI:=fun σ H R=>ta σ H fun vs H1 => ∃ a b xs ys,vs = [.ref a, .ref b] ∧ SqL K H1 a xs ∧ SqL K H1 b ys ∧ R (Itz K a b) H1
theorem pi_zip {X:Cx} {e e2:Expr} {ta:TA} {p pos tpos:Pos} {elts:List Expr} {kk:Nat} (hg:Gl X "zip") (hm:X.mg "zip" = none) (ha:PA X [e,e2] ta)
    (hs:starEach [e,e2] X.env = (false,eval e X.env) :: starEach [e2] X.env:=by rfl) (hpl:(backTo pos (starEach [e2] X.env)).any (·.1) = false:=by rfl) :
    PI X (.Tuple elts kk tpos) (.Call (.Name "zip" p) [e,e2] [] pos) (iZip X.K ta):=by
  intro pins s σ H R I h
  refine Call_ (ld_blt I hg hm boot_zip5 (PyProof.Rows.callWith_type1 (thn (ha pos pins s σ H _ I h) fun us s1 ⟨vs,H1,I1,r1,q1⟩ => ?_) hs hpl))
  obtain ⟨a,b,xs,ys,ex,hqx,hqy,q⟩:=q1
  subst ex
  cases r1 with
  | cons r rr =>
    cases rr with
    | cons r' rr =>
      cases rr
      cases r
      cases r'
      obtain ⟨its,rv,p1,_⟩:=I1.list hqx
      obtain ⟨its2,rv2,p2,_⟩:=I1.list hqy
      have la:a < s1.heap.objs.size:=p1.lt
      have lb:b < s1.heap.objs.size:=p2.lt
      refine call_zip_2 p1.isList p2.isList fun h' hz hTI hTO h1 h2 hsz hk=>wpAny_pyIter_zip hz ?_
      have I2:Inv X pins σ H1 { s1 with heap:=h' }:=I1.kept (t':=s1.toks) hk
      refine ⟨s1.heap.objs.size + 4,[s1.heap.objs.size + 4,s1.heap.objs.size + 2,s1.heap.objs.size + 3,s1.heap.objs.size,s1.heap.objs.size + 1],_,_,H1,rfl,I2,turn_zip (PySem.W.ktu_apart s1.heap.objs.size a b la lb),⟨hz,hTI,⟨_,_,hTO⟩,h1,h2⟩,fun c hcm => ?_,q⟩
      have e':c = s1.heap.objs.size + 4 ∨ c = s1.heap.objs.size + 2 ∨ c = s1.heap.objs.size + 3 ∨ c = s1.heap.objs.size ∨ c = s1.heap.objs.size + 1:=by simpa using hcm
      have hle:s1.heap.objs.size ≤ c:=by
        rcases e' with z | z | z | z | z
        · rw [z];exact Nat.le_add_right _ _
        · rw [z];exact Nat.le_add_right _ _
        · rw [z];exact Nat.le_add_right _ _
        · rw [z];exact Nat.le_refl _
        · rw [z];exact Nat.le_add_right _ _
      exact I1.fpOk hle (I1.hok.fresh hle)
end L2
namespace L2
open PySem PySem.Spec PyProof.Rows
end L2
namespace L2
open PySem PySem.Spec PyProof.Rows
end L2
namespace Att
open PySem PySem.W PySem.Calls PyProof.Rows
end Att
namespace L2
open PySem PySem.Spec PyProof.Rows
def inClass (s:Stmt) (j:Nat):Stmt:=match s with
  | .ClassDef _ _ _ body _ _ _ _ _ _ _=>body.getD j (.Pass ⟨0,0,0,0⟩)
  | _ => .Pass ⟨0,0,0,0⟩
def defArgs (s:Stmt):Arguments:=match s with
  | .FunctionDef _ a _ _ _ _ _ _ _ _=>a
  | _ => { posonlyargs:=[],args:=[],vararg:=none,kwonlyargs:=[],kw_defaults:=[],kwarg:=none,defaults:=[] }
def defBody (s:Stmt):List Stmt:=match s with
  | .FunctionDef _ _ b _ _ _ _ _ _ _=>b
  | _=>[]
def defScope (s:Stmt):Scope:=match s with
  | .FunctionDef _ _ _ _ _ _ sc _ _ _=>sc
  | _ => { kind := .function,names:=[],isGenerator:=false,isCoroutine:=false }
abbrev CX0:CXT:=fun _ _ _ _ _ _=>False
abbrev E0:XK:=fun _ _ _=>False
theorem pass0 {X:Cx} : Passes CX0 X E0:=fun _ _ _ _ _ _ _ h=>h.elim
structure Fun (K:PySem.W.Frag) (x qual:Str) (st:Stmt) (f:Addr) (fd:FuncData):Prop where
  ex:∃ (oc:Value) (od:Option Addr) (kV doc pm:Value) (an:Option Addr) (cdv ct:Value) (osl:Array (Option Value)),
    fd = PySem.W.fnOf x qual (defArgs st) (defBody st) (defScope st) .none kV doc pm an cdv ct ∧ K.lookup f = some ⟨oc,od, .func fd,osl⟩ ∧ PySem.W.codeIn K cdv qual = true
  kp:PySem.W.keepIn K (.ref f) = true
section
variable {P:Program} {w:World} {K:PySem.W.Frag} {mg:Str → Option Value} {base:Heap}
theorem Fun.ok {x qual:Str} {st:Stmt} {f:Addr} {fd:FuncData} {N ps:List Str} {k:Nat} {sp:Sp} (F:Fun K x qual st f fd) (S:FnScope N ps (defScope st)) (len:∀ vs H Q E,sp vs H Q E → vs.length = ps.length)
    (hbody:∀ (cdv:Value) (A:Around) (outer:List Env) (s:Shared) (H:Hp) (vs:List V) (Q:VK) (E:XK),Room k (A.deeper (envOfC qual (defScope st) s.heap.objs.size f cdv)) → sp vs H Q E →
      ∃ t,PSs (cxOf CX0 P w K mg base N qual (defScope st) f cdv A outer s H E).nox (defBody st) t ∧ t { nx:=fun _ H'=>Q .non H',rt:=Q } (start N vs) H):FnOk P w K mg base CX0 (k + 1) f fd ps sp:=by
  obtain ⟨oc,od,kV,doc,pm,an,cdv,ct,osl,rfl,lk,hcd⟩:=F.ex
  refine fn_of lk hcd S len fun A outer s H vs Q E hr hsp => ?_
  obtain ⟨t,h,q⟩:=hbody cdv A outer s H vs Q E hr hsp
  exact ⟨t,h.nox,q⟩
theorem Fun.binds {x qual:Str} {st:Stmt} {f:Addr} {fd:FuncData} {ps:List Str} (F:Fun K x qual st f fd)
    (h:∀ (kV doc pm:Value) (an:Option Addr) (cdv ct:Value) (us:List Value),us.length = ps.length → bindArgs (PySem.W.fnOf x qual (defArgs st) (defBody st) (defScope st) .none kV doc pm an cdv ct) ⟨us,[]⟩ = pure (ps.zip us)):Binds K fd ps []:=by
  obtain ⟨oc,od,kV,doc,pm,an,cdv,ct,osl,rfl,lk,hcd⟩:=F.ex
  exact .all (h kV doc pm an cdv ct)
theorem fun_mk {x qual:Str} {st:Stmt} {f:Addr} {oc:Value} {od an:Option Addr} {osl:Array (Option Value)} {kV doc pm cdv ct:Value} (l:K.lookup f = some ⟨oc,od, .func (PySem.W.fnOf x qual (defArgs st) (defBody st) (defScope st) .none kV doc pm an cdv ct),osl⟩)
    (c:PySem.W.codeIn K cdv qual = true) (k:PySem.W.keepIn K (.ref f) = true):Fun K x qual st f (PySem.W.fnOf x qual (defArgs st) (defBody st) (defScope st) .none kV doc pm an cdv ct):=⟨⟨oc,od,kV,doc,pm,an,cdv,ct,osl,rfl,l,c⟩,k⟩
end
theorem small1000 {n:Nat} (h:n ≤ 1000):n < sizeLine:=Nat.lt_of_le_of_lt h (by decide)
section
variable {X:Cx}
theorem pv (i:Nat) {x:Str} {pos:Pos} (hN:X.N[i]? = some x:=by rfl) (hv:Vis X.env.scope x:=by first | exact Or.inl rfl | exact Or.inr (Or.inl rfl) | exact Or.inr (Or.inr rfl)) (hd:(x == ("__debug__" : Str)) = false:=by decide)
    (hcd:(x == ("__classdict__" : Str)) = false:=by decide):PE X (.Name x pos) (tVar i):=pe_var hN hv hd hcd
end
theorem iteF {A B:Prop} (h:B):if false = true then A else B:=by
  rw [if_neg Bool.false_ne_true]
  exact h
theorem iteT {A B:Prop} (h:A):if true = true then A else B:=by
  rw [if_pos rfl]
  exact h
def Same (H H':Hp):Prop := ∀ b o,H b = some o → H' b = some o
theorem Same.refl (H:Hp):Same H H:=fun _ _ h=>h
theorem Same.trans {H H1 H2:Hp} (a:Same H H1) (b:Same H1 H2):Same H H2:=fun c o h=>b c o (a c o h)
theorem Same.free {H H':Hp} (e:Same H H') {l:Addr} (h:H' l = Option.none):H l = Option.none:=by
  cases q:H l with
  | none=>rfl
  | some o =>
    rw [e l o q] at h
    cases h
theorem Same.seq {K:PySem.W.Frag} {H H':Hp} {a:Addr} {xs:List V} (e:Same H H') (h:SqL K H a xs):SqL K H' a xs:=by
  rcases h with (h | ⟨o,h⟩) | h
  · exact .inl (.inl (e _ _ h))
  · exact .inl (.inr ⟨o,e _ _ h⟩)
  · exact .inr h
section
variable {κ : Type} [DecidableEq κ]
theorem nd_snoc:∀ {l:List κ} {k : κ},l.Nodup → ¬ k ∈ l → (l ++ [k]).Nodup
  | [],k,_,_=>by simp
  | a :: r,k,h,hk=>by
    obtain ⟨h1,h2⟩:=List.nodup_cons.mp h
    show (a :: (r ++ [k])).Nodup
    refine List.nodup_cons.mpr ⟨fun m => ?_,nd_snoc h2 fun m=>hk (List.mem_cons.mpr (Or.inr m))⟩
    rcases List.mem_append.mp m with q | q
    · exact h1 q
    · exact hk (List.mem_cons.mpr (Or.inl (List.mem_singleton.mp q).symm))
end
theorem at_of {xs:List V} {z:Int} {j:Nat} {v:V} (e:z = (j:Int)) (h:xs[j]? = some v):atI xs z = some v:=by
  rw [e]
  exact atI_nat h
theorem nd_ix {α : Type} {l:List α} (hN:l.Nodup) {i j:Nat} {x : α} (a:l[i]? = some x) (b:l[j]? = some x):i = j:=by
  obtain ⟨h1,e1⟩:=List.getElem?_eq_some_iff.mp a
  obtain ⟨h2,e2⟩:=List.getElem?_eq_some_iff.mp b
  exact (List.getElem_inj hN).mp (e1.trans e2.symm)
theorem Same.made {H H1:Hp} {x dx C:Addr} (nx:H x = Option.none) (nd:H dx = Option.none) (k:∀ b o,(upd (upd H dx (.own x)) x (.ins C dx [])) b = some o → b ≠ x → H1 b = some o):Same H H1:=fun b o e =>
  k b o (by rw [upd_ne (ne_of_none e nx),upd_ne (ne_of_none e nd)];exact e) (ne_of_none e nx)
end L2

section
set_option Elab.async false
set_option linter.all false
set_option maxRecDepth 100000
set_option maxHeartbeats 2000000
namespace L2
open PySem PySem.Spec PyProof.Rows
open PySem.W (WData Codec OpenSpec Well WellAll ReadsW ReadsAllW)
mutual
inductive Dw (K:PySem.W.Frag) (H:Hp):V → WData → Prop
  | non:Dw K H .non .none
  | bl (b:Bool):Dw K H (.bl b) (.bool b)
  | int (i:Int):Dw K H (.int i) (.int i)
  | str (x:Str):Dw K H (.str x) (.str x)
  | byt (b:Array UInt8):Dw K H (.byt b) (.bytes b.toList)
  | lst {a:Addr} {xs:List V} {ds:List WData} : SqL K H a xs → DwAll K H xs ds → Dw K H (.ref a) (.list ds)
  | tup {a:Addr} {xs:List V} {ds:List WData} : SqT K H a xs → DwAll K H xs ds → Dw K H (.ref a) (.tuple ds)
inductive DwAll (K:PySem.W.Frag) (H:Hp):List V → List WData → Prop
  | nil:DwAll K H [] []
  | cons {v:V} {vs:List V} {d:WData} {ds:List WData} : Dw K H v d → DwAll K H vs ds → DwAll K H (v :: vs) (d :: ds)
end
theorem dw_ints {K:PySem.W.Frag} {H:Hp} : ∀ ns:List Int,DwAll K H (ns.map V.int) (ns.map WData.int)
  | [] => .nil
  | n :: r => .cons (.int n) (dw_ints r)
theorem ints_dw {K:PySem.W.Frag} {H:Hp} : ∀ (ns:List Int) (xs:List V),DwAll K H xs (ns.map WData.int) → xs = ns.map V.int
  | [],xs,h=>by
    cases h
    rfl
  | n :: r,xs,h=>by
    cases h with
    | cons h1 h2 =>
      cases h1
      rw [ints_dw r _ h2] <;> rfl
section
variable {P:Program} {w:World} {K:PySem.W.Frag} {H:Hp} {h:Heap} {R:PySem.W.WRecords} {cl:Str → Option Addr}
theorem sqL_at {a:Addr} {xs:List V} (hok:HOk P w H h) (KX:K.In h) (q:SqL K H a xs):∃ (its:List Value) (o:Obj) (n:Nat),Vals xs its ∧ h.get? a = some o ∧ o.cls = .type "list" ∧ o.data = .seq its.toArray n:=by
  rcases q with q | ⟨o,its,n,e,hc,_,hd,_,hv⟩
  · obtain ⟨_,its,n,hv,e⟩:=(show ObjOk P w H h a (.lst xs) from q.ok hok)
    exact ⟨its,_,n,hv,e,rfl,rfl⟩
  · exact ⟨its.toList,o,n,hv,KX _ _ e,hc,by simp [hd]⟩
theorem sqT_at {a:Addr} {xs:List V} (hok:HOk P w H h) (KX:K.In h) (q:SqT K H a xs):∃ (its:List Value) (o:Obj) (n:Nat),Vals xs its ∧ h.get? a = some o ∧ o.cls = .type "tuple" ∧ o.data = .seq its.toArray n:=by
  rcases q with q | ⟨o,its,n,e,hc,hd,_,hv⟩
  · obtain ⟨_,its,hv,o,e,hc,n,hd⟩:=(show ObjOk P w H h a (.tup xs) from q.ok hok)
    exact ⟨its,o,n,hv,e,hc,hd⟩
  · exact ⟨its.toList,o,n,hv,KX _ _ e,hc,by simp [hd]⟩
mutual
theorem Dw.reads (hok:HOk P w H h) (KX:K.In h):∀ (d:WData) (v:V) (u:Value),Dw K H v d → RelV v u → ∃ as,ReadsW R cl h u d as
  | .none,_,_,x,r=>by
    cases x
    cases r
    exact ⟨_,ReadsW.none⟩
  | .bool b,_,_,x,r=>by
    cases x
    cases r
    exact ⟨_,ReadsW.bool b⟩
  | .int i,_,_,x,r=>by
    cases x
    obtain ⟨t,rfl⟩:=r
    exact ⟨_,ReadsW.int i t⟩
  | .str s,_,_,x,r=>by
    cases x
    obtain ⟨t,rfl⟩:=r
    exact ⟨_,ReadsW.str s t⟩
  | .bytes b,_,_,x,r=>by
    cases x
    obtain ⟨t,rfl⟩:=r
    exact ⟨_,ReadsW.bytes _ t⟩
  | .list ds,_,_,x,r=>by
    cases x with
    | lst hs ha =>
      cases r
      obtain ⟨its,o,n,rv,ho,hc,hd⟩:=sqL_at hok KX hs
      obtain ⟨as,hr⟩:=Dw.readsAll hok KX ds _ its ha rv
      exact ⟨_,ReadsW.list ho hc hd hr⟩
  | .tuple ds,_,_,x,r=>by
    cases x with
    | tup hs ha =>
      cases r
      obtain ⟨its,o,n,rv,ho,hc,hd⟩:=sqT_at hok KX hs
      obtain ⟨as,hr⟩:=Dw.readsAll hok KX ds _ its ha rv
      exact ⟨_,ReadsW.tuple ho hc hd hr⟩
  | .float _,_,_,x,_=>by cases x
  | .dict _,_,_,x,_=>by cases x
  | .bytearray _,_,_,x,_=>by cases x
  | .set _,_,_,x,_=>by cases x
  | .frozenset _,_,_,x,_=>by cases x
  | .obj _ _,_,_,x,_=>by cases x
theorem Dw.readsAll (hok:HOk P w H h) (KX:K.In h):∀ (ds:List WData) (vs:List V) (us:List Value),DwAll K H vs ds → Vals vs us → ∃ as,ReadsAllW R cl h us ds as
  | [],_,_,x,r=>by
    cases x
    cases r
    exact ⟨_,ReadsAllW.nil⟩
  | d :: ds,_,_,x,r=>by
    cases x with
    | cons h1 h2 =>
      cases r with
      | cons r1 r2 =>
        obtain ⟨as,q1⟩:=Dw.reads hok KX d _ _ h1 r1
        obtain ⟨bs,q2⟩:=Dw.readsAll hok KX ds _ _ h2 r2
        exact ⟨_,ReadsAllW.cons q1 q2⟩
end
end
mutual
def plW:WData → Bool
  | .none=>true
  | .bool _=>true
  | .int _=>true
  | .str _=>true
  | .bytes _=>true
  | .list xs=>plWs xs
  | .tuple xs=>plWs xs
  | _=>false
def plWs:List WData → Bool
  | [] => true
  | x :: r=>plW x && plWs r
end
theorem plWs_map {α : Type} {f : α → WData} (h:∀ a,plW (f a) = true):∀ l:List α,plWs (l.map f) = true
  | [] => rfl
  | x :: r=>by
    show (plW (f x) && plWs (r.map f)) = true
    rw [h x,plWs_map h r] <;> rfl
theorem pl_enc:∀ (c:Codec) (a:c.denote),plW (c.enc a) = true
  | .unit,_=>rfl
  | .bool,_=>rfl
  | .int _ _,_=>rfl
  | .nat _ _,_=>rfl
  | .u8,_=>rfl
  | .bytes _ _,_=>rfl
  | .text _ _ _ _,_=>rfl
  | .list _ _ c,a=>plWs_map (fun x=>pl_enc c x) a
  | .pair c d,a=>by
    show (plW (c.enc a.1) && (plW (d.enc a.2) && true)) = true
    rw [pl_enc c a.1,pl_enc d a.2] <;> rfl
  | .triple c d e,a=>by
    show (plW (c.enc a.1) && (plW (d.enc a.2.1) && (plW (e.enc a.2.2) && true))) = true
    rw [pl_enc c a.1,pl_enc d a.2.1,pl_enc e a.2.2] <;> rfl
  | .option c,none=>rfl
  | .option c,some x=>pl_enc c x
theorem pl_encAll:∀ (cs:List Codec) (a:Codec.denoteAll cs),plWs (Codec.encAll cs a) = true
  | [],_=>rfl
  | c :: cs,a=>by
    show (plW (c.enc a.1) && plWs (Codec.encAll cs a.2)) = true
    rw [pl_enc c a.1,pl_encAll cs a.2] <;> rfl
theorem weight_mem:∀ {xs:List WData} {d:WData},d ∈ xs → d.weight ≤ WData.weightAll xs
  | [],d,h=>absurd h (by simp)
  | x :: r,d,h=>by
    show d.weight ≤ x.weight + 1 + WData.weightAll r
    rcases List.mem_cons.mp h with e | m
    · rw [e]
      omega
    · have z:=weight_mem m
      omega
def toV:Value → V
  | .none => .non
  | .bool b => .bl b
  | .int i _ => .int i
  | .str x _ => .str x
  | .bytes b _ => .byt b
  | .ref a => .ref a
  | _ => .non
def OkU (A:List Addr):Value → Prop
  | .none=>True
  | .bool _=>True
  | .int _ _=>True
  | .str _ _=>True
  | .bytes _ _=>True
  | .ref a=>a ∈ A
  | _=>False
theorem OkU.mono {A B:List Addr} (h:∀ a ∈ A,a ∈ B):∀ {u:Value},OkU A u → OkU B u:=fun {u} x=>by
  cases u with
  | ref a=>exact h a x
  | none=>trivial
  | bool b=>trivial
  | int i t=>trivial
  | str s t=>trivial
  | bytes b t=>trivial
  | _=>exact False.elim x
theorem relV_toV {A:List Addr} {u:Value} (x:OkU A u):RelV (toV u) u:=by
  cases u with
  | ref a=>rfl
  | none=>rfl
  | bool b=>rfl
  | int i t=>exact ⟨t,rfl⟩
  | str s t=>exact ⟨t,rfl⟩
  | bytes b t=>exact ⟨t,rfl⟩
  | _=>exact False.elim x
theorem vals_toV {A:List Addr} : ∀ {vs:List Value},(∀ u ∈ vs,OkU A u) → Vals (vs.map toV) vs
  | [],_ => .nil
  | u :: r,h => .cons (relV_toV (h u (List.mem_cons_self ..))) (vals_toV fun x hx=>h x (List.mem_cons_of_mem _ hx))
def ArgOb (h:Heap) (A:List Addr) (a:Addr):Prop := ∃ vs:List Value,vs.length ≤ sizeLine ∧ (∀ u ∈ vs,OkU A u) ∧
  (h.get? a = some { cls := .type "list",data := .seq vs.toArray } ∨ h.get? a = some { cls := .type "tuple",data := .seq vs.toArray })
theorem ArgOb.mono {h:Heap} {A B:List Addr} {a:Addr} (k:∀ a ∈ A,a ∈ B) (x:ArgOb h A a):ArgOb h B a:=by
  obtain ⟨vs,h1,h2,h3⟩:=x
  exact ⟨vs,h1,fun u hu=>(h2 u hu).mono k,h3⟩
theorem wellAll_len {P:Params} {h:Heap} : ∀ {vs:List Value} {ds:List WData},WellAll P h vs ds → vs.length = ds.length
  | _,_, .nil=>rfl
  | _,_, .cons _ b=>by
    show _ + 1 = _ + 1
    rw [wellAll_len b]
theorem well_list {P:Params} {h:Heap} {v:Value} {ds:List WData} (x:Well P h v (.list ds)):∃ (a:Addr) (vs:List Value),v = .ref a ∧ h.get? a = some { cls := .type "list",data := .seq vs.toArray } ∧ WellAll P h vs ds:=by
  cases x with
  | list ho hall=>exact ⟨_,_,rfl,ho,hall⟩
theorem well_tuple {P:Params} {h:Heap} {v:Value} {ds:List WData} (x:Well P h v (.tuple ds)):∃ (a:Addr) (vs:List Value),v = .ref a ∧ h.get? a = some { cls := .type "tuple",data := .seq vs.toArray } ∧ WellAll P h vs ds:=by
  cases x with
  | tuple ho hall=>exact ⟨_,_,rfl,ho,hall⟩
theorem well_cons {P:Params} {h:Heap} {us:List Value} {d:WData} {ds:List WData} (x:WellAll P h us (d :: ds)):∃ (v:Value) (vs:List Value),us = v :: vs ∧ Well P h v d ∧ WellAll P h vs ds:=by
  cases x with
  | cons a b=>exact ⟨_,_,rfl,a,b⟩
theorem line_of {n:Nat} (h:n ≤ 1048576):n ≤ sizeLine:=Nat.le_trans h (by decide)
section
variable {P:Params} {h:Heap}
mutual
theorem area_one:∀ (d:WData) (v:Value),Well P h v d → plW d = true → d.weight ≤ 1048576 → ∃ A:List Addr,OkU A v ∧ ∀ a ∈ A,ArgOb h A a
  | .none,_,x,_,_=>by
    cases x
    exact ⟨[],trivial,fun a m=>absurd m (by simp)⟩
  | .bool b,_,x,_,_=>by
    cases x
    exact ⟨[],trivial,fun a m=>absurd m (by simp)⟩
  | .int i,_,x,_,_=>by
    cases x
    exact ⟨[],trivial,fun a m=>absurd m (by simp)⟩
  | .str s,_,x,_,_=>by
    cases x
    exact ⟨[],trivial,fun a m=>absurd m (by simp)⟩
  | .bytes b,_,x,_,_=>by
    cases x
    exact ⟨[],trivial,fun a m=>absurd m (by simp)⟩
  | .list ds,_,x,p,z=>by
    obtain ⟨a,vs,rfl,ho,hall⟩:=well_list x
    have z2:WData.weightAll ds ≤ 1048576:=z
    obtain ⟨A,h1,h2⟩:=area_all ds _ hall p fun d hd=>Nat.le_trans (weight_mem hd) z2
    have k:∀ b ∈ A,b ∈ a :: A:=fun b hb=>List.mem_cons_of_mem _ hb
    refine ⟨a :: A,List.mem_cons_self ..,fun b hb => ?_⟩
    rcases List.mem_cons.mp hb with e | m
    · rw [e]
      exact ⟨vs,line_of (by rw [wellAll_len hall];exact Nat.le_trans (PySem.W.length_le_weightAllW ds) z2),fun u hu=>(h1 u hu).mono k, .inl ho⟩
    · exact (h2 b m).mono k
  | .tuple ds,_,x,p,z=>by
    obtain ⟨a,vs,rfl,ho,hall⟩:=well_tuple x
    have z2:WData.weightAll ds ≤ 1048576:=z
    obtain ⟨A,h1,h2⟩:=area_all ds _ hall p fun d hd=>Nat.le_trans (weight_mem hd) z2
    have k:∀ b ∈ A,b ∈ a :: A:=fun b hb=>List.mem_cons_of_mem _ hb
    refine ⟨a :: A,List.mem_cons_self ..,fun b hb => ?_⟩
    rcases List.mem_cons.mp hb with e | m
    · rw [e]
      exact ⟨vs,line_of (by rw [wellAll_len hall];exact Nat.le_trans (PySem.W.length_le_weightAllW ds) z2),fun u hu=>(h1 u hu).mono k, .inr ho⟩
    · exact (h2 b m).mono k
  | .float _,_,_,p,_=>Bool.noConfusion (show false = true from p)
  | .dict _,_,_,p,_=>Bool.noConfusion (show false = true from p)
  | .bytearray _,_,_,p,_=>Bool.noConfusion (show false = true from p)
  | .set _,_,_,p,_=>Bool.noConfusion (show false = true from p)
  | .frozenset _,_,_,p,_=>Bool.noConfusion (show false = true from p)
  | .obj _ _,_,_,p,_=>Bool.noConfusion (show false = true from p)
theorem area_all:∀ (ds:List WData) (vs:List Value),WellAll P h vs ds → plWs ds = true → (∀ d ∈ ds,d.weight ≤ 1048576) → ∃ A:List Addr,(∀ u ∈ vs,OkU A u) ∧ ∀ a ∈ A,ArgOb h A a
  | [],_,x,_,_=>by
    cases x
    exact ⟨[],fun u m=>absurd m (by simp),fun a m=>absurd m (by simp)⟩
  | d :: ds,_,x,p,z=>by
    obtain ⟨v,vs,rfl,x1,x2⟩:=well_cons x
    have q:plW d = true ∧ plWs ds = true:=Bool.and_eq_true_iff.mp p
    obtain ⟨A,a1,a2⟩:=area_one d v x1 q.1 (z d (List.mem_cons_self ..))
    obtain ⟨B,b1,b2⟩:=area_all ds vs x2 q.2 fun e he=>z e (List.mem_cons_of_mem _ he)
    have kA:∀ b ∈ A,b ∈ A ++ B:=fun b hb=>List.mem_append.mpr (.inl hb)
    have kB:∀ b ∈ B,b ∈ A ++ B:=fun b hb=>List.mem_append.mpr (.inr hb)
    refine ⟨A ++ B,fun u hu => ?_,fun b hb => ?_⟩
    · rcases List.mem_cons.mp hu with e | m
      · rw [e]
        exact a1.mono kA
      · exact (b1 u m).mono kB
    · rcases List.mem_append.mp hb with m | m
      · exact (a2 b m).mono kA
      · exact (b2 b m).mono kB
end
end
def hoOf (o:Obj):Option HO:=match o.data with
  | .seq vs _=>if (o.cls == Value.type "list") = true then some (.frz o (.lst (vs.toList.map toV))) else some (.frz o (.tup (vs.toList.map toV)))
  | _=>none
def argH (K:PySem.W.Frag) (h:Heap) (A:List Addr):Hp:=fun b=>if b ∈ A then (if (K.lookup b).isNone = true then (h.get? b).bind hoOf else none) else none
def OnlyF (H:Hp):Prop := ∀ b,H b = none ∨ ∃ o u,H b = some (.frz o u)
theorem hoOf_lst (vs:List Value):hoOf { cls := .type "list",data := .seq vs.toArray } = some (.frz { cls := .type "list",data := .seq vs.toArray } (.lst (vs.map toV))):=by
  show (if (Value.type "list" == Value.type "list") = true then some (HO.frz { cls := .type "list",data := .seq vs.toArray } (.lst (vs.toArray.toList.map toV))) else some (HO.frz { cls := .type "list",data := .seq vs.toArray } (.tup (vs.toArray.toList.map toV)))) = _
  rw [if_pos (beq_self_eq_true _)]
theorem hoOf_tup (vs:List Value):hoOf { cls := .type "tuple",data := .seq vs.toArray } = some (.frz { cls := .type "tuple",data := .seq vs.toArray } (.tup (vs.map toV))):=by
  show (if (Value.type "tuple" == Value.type "list") = true then some (HO.frz { cls := .type "tuple",data := .seq vs.toArray } (.lst (vs.toArray.toList.map toV))) else some (HO.frz { cls := .type "tuple",data := .seq vs.toArray } (.tup (vs.toArray.toList.map toV)))) = _
  rw [if_neg (by decide)]
section
variable {P:Program} {w:World} {K:PySem.W.Frag} {h:Heap} {A:List Addr}
theorem argH_at {b:Addr} {o:Obj} (hb:b ∈ A) (hk:K.lookup b = none) (e:h.get? b = some o):argH K h A b = hoOf o:=by
  unfold argH
  rw [if_pos hb,hk,if_pos (show (none:Option Obj).isNone = true from rfl),e] <;> rfl
theorem of_argH {b:Addr} {u:HO} (q:argH K h A b = some u):b ∈ A ∧ K.lookup b = none:=by
  unfold argH at q
  by_cases hb:b ∈ A
  · rw [if_pos hb] at q
    cases hk:K.lookup b with
    | none=>exact ⟨hb,rfl⟩
    | some o =>
      rw [hk,if_neg (by simp)] at q
      cases q
  · rw [if_neg hb] at q
    cases q
theorem argH_is (ar:∀ a ∈ A,ArgOb h A a) {b:Addr} {u:HO} (q:argH K h A b = some u):K.lookup b = none ∧ ∃ vs:List Value,vs.length ≤ sizeLine ∧ (∀ u ∈ vs,OkU A u) ∧
    ((h.get? b = some { cls := .type "list",data := .seq vs.toArray } ∧ u = .frz { cls := .type "list",data := .seq vs.toArray } (.lst (vs.map toV))) ∨
     (h.get? b = some { cls := .type "tuple",data := .seq vs.toArray } ∧ u = .frz { cls := .type "tuple",data := .seq vs.toArray } (.tup (vs.map toV)))):=by
  obtain ⟨hb,hk⟩:=of_argH q
  obtain ⟨vs,h1,h2,h3⟩:=ar b hb
  refine ⟨hk,vs,h1,h2, ?_⟩
  rcases h3 with e | e
  · rw [argH_at hb hk e,hoOf_lst] at q
    exact .inl ⟨e,(Option.some.inj q).symm⟩
  · rw [argH_at hb hk e,hoOf_tup] at q
    exact .inr ⟨e,(Option.some.inj q).symm⟩
theorem argH_only (ar:∀ a ∈ A,ArgOb h A a):OnlyF (argH K h A):=fun b=>by
  cases q:argH K h A b with
  | none=>exact .inl rfl
  | some u =>
    obtain ⟨_,vs,_,_,⟨_,e⟩ | ⟨_,e⟩⟩:=argH_is ar q
    · exact .inr ⟨_,_,by rw [e]⟩
    · exact .inr ⟨_,_,by rw [e]⟩
theorem argH_ok (ar:∀ a ∈ A,ArgOb h A a):HOk P w (argH K h A) h:=fun b u q=>by
  obtain ⟨_,vs,h1,h2,⟨e,rfl⟩ | ⟨e,rfl⟩⟩:=argH_is ar q
  · exact ⟨e,by rw [List.length_map];exact h1,vs,_,vals_toV h2,e⟩
  · exact ⟨e,by rw [List.length_map];exact h1,vs,vals_toV h2,_,e,rfl,_,rfl⟩
theorem seq_inj {c c':Value} {vs us:List Value} (e:(some { cls:=c,data := .seq vs.toArray } : Option Obj) = some { cls:=c',data := .seq us.toArray }):c = c' ∧ vs = us:=by
  have e1:=Option.some.inj e
  have e2:c = c':=congrArg Obj.cls e1
  have e3:Data.seq vs.toArray = Data.seq us.toArray:=congrArg Obj.data e1
  injection e3 with e4
  refine ⟨e2, ?_⟩
  have e5:=congrArg Array.toList e4
  simpa using e5
theorem argL (KX:K.In h) (ar:∀ a ∈ A,ArgOb h A a) {a:Addr} {vs:List Value} (ha:a ∈ A) (e:h.get? a = some { cls := .type "list",data := .seq vs.toArray }):(∀ u ∈ vs,OkU A u) ∧ SqL K (argH K h A) a (vs.map toV):=by
  obtain ⟨us,h1,h2,h3⟩:=ar a ha
  have hu:us = vs:=by
    rcases h3 with q | q
    · rw [e] at q
      exact (seq_inj q).2.symm
    · rw [e] at q
      exact absurd (Value.type.inj (seq_inj q).1) (by decide)
  subst hu
  refine ⟨h2, ?_⟩
  cases hk:K.lookup a with
  | none=>exact .inl (.inr ⟨_,by rw [argH_at ha hk e,hoOf_lst]⟩)
  | some o =>
    have e2:=KX a o hk
    rw [e] at e2
    obtain rfl:=Option.some.inj e2
    exact .inr ⟨_,us.toArray,_,hk,rfl,rfl,rfl,by rw [List.size_toArray];exact h1,by simpa using vals_toV h2⟩
theorem argT (KX:K.In h) (ar:∀ a ∈ A,ArgOb h A a) {a:Addr} {vs:List Value} (ha:a ∈ A) (e:h.get? a = some { cls := .type "tuple",data := .seq vs.toArray }):(∀ u ∈ vs,OkU A u) ∧ SqT K (argH K h A) a (vs.map toV):=by
  obtain ⟨us,h1,h2,h3⟩:=ar a ha
  have hu:us = vs:=by
    rcases h3 with q | q
    · rw [e] at q
      exact absurd (Value.type.inj (seq_inj q).1) (by decide)
    · rw [e] at q
      exact (seq_inj q).2.symm
  subst hu
  refine ⟨h2, ?_⟩
  cases hk:K.lookup a with
  | none=>exact .inl (.inr ⟨_,by rw [argH_at ha hk e,hoOf_tup]⟩)
  | some o =>
    have e2:=KX a o hk
    rw [e] at e2
    obtain rfl:=Option.some.inj e2
    exact .inr ⟨_,us.toArray,_,hk,rfl,rfl,by rw [List.size_toArray];exact h1,by simpa using vals_toV h2⟩
mutual
theorem dw_one {Pm:Params} (KX:K.In h) (ar:∀ a ∈ A,ArgOb h A a):∀ (d:WData) (v:Value),Well Pm h v d → plW d = true → OkU A v → Dw K (argH K h A) (toV v) d
  | .none,_,x,_,_=>by
    cases x
    exact .non
  | .bool b,_,x,_,_=>by
    cases x
    exact .bl b
  | .int i,_,x,_,_=>by
    cases x
    exact .int i
  | .str s,_,x,_,_=>by
    cases x
    exact .str s
  | .bytes b,_,x,_,_=>by
    cases x
    have z:=Dw.byt (K:=K) (H:=argH K h A) b.toArray
    exact z
  | .list ds,_,x,p,hu=>by
    obtain ⟨a,vs,rfl,ho,hall⟩:=well_list x
    obtain ⟨h2,hs⟩:=argL KX ar hu ho
    exact .lst hs (dw_all KX ar ds _ hall p h2)
  | .tuple ds,_,x,p,hu=>by
    obtain ⟨a,vs,rfl,ho,hall⟩:=well_tuple x
    obtain ⟨h2,hs⟩:=argT KX ar hu ho
    exact .tup hs (dw_all KX ar ds _ hall p h2)
  | .float _,_,_,p,_=>Bool.noConfusion (show false = true from p)
  | .dict _,_,_,p,_=>Bool.noConfusion (show false = true from p)
  | .bytearray _,_,_,p,_=>Bool.noConfusion (show false = true from p)
  | .set _,_,_,p,_=>Bool.noConfusion (show false = true from p)
  | .frozenset _,_,_,p,_=>Bool.noConfusion (show false = true from p)
  | .obj _ _,_,_,p,_=>Bool.noConfusion (show false = true from p)
theorem dw_all {Pm:Params} (KX:K.In h) (ar:∀ a ∈ A,ArgOb h A a):∀ (ds:List WData) (vs:List Value),WellAll Pm h vs ds → plWs ds = true → (∀ u ∈ vs,OkU A u) → DwAll K (argH K h A) (vs.map toV) ds
  | [],_,x,_,_=>by
    cases x
    exact .nil
  | d :: ds,_,x,p,hu=>by
    obtain ⟨v,vs,rfl,x1,x2⟩:=well_cons x
    have q:plW d = true ∧ plWs ds = true:=Bool.and_eq_true_iff.mp p
    exact .cons (dw_one KX ar d v x1 q.1 (hu _ (List.mem_cons_self ..))) (dw_all KX ar ds vs x2 q.2 fun u m=>hu u (List.mem_cons_of_mem _ m))
end
end
theorem spec_call {P:Program} {w:World} {K:PySem.W.Frag} {mg mb:Str → Option Value} {CX:CXT} {k:Nat} {fa:Addr} {fd:FuncData} {ps:List Str} {sp:Sp} {s₁ : Shared} {vals:List Value} {ds:List WData} {R:PySem.W.WRecords} {cl:Str → Option Addr} {d0:WData}
    (KX:K.In s₁.heap) (hns:s₁.heap.Ns mainGlobals mg) (hb:s₁.heap.Ns builtinsNs mb) (hbb:∀ x:Str,x ≠ "__name__" → mb x = bootBuiltins x) (hlim:s₁.heap.NoLimit) (hg:s₁.gens = #[])
    (hwl:WellAll w.params s₁.heap vals ds) (hpl:plWs ds = true) (hwt:∀ d ∈ ds,d.weight ≤ 1048576) (hr:Room k callerA)
    (F:∀ base:Heap,K.In base → base.Ns mainGlobals mg → FnOk P w K mg base CX k fa fd ps sp) (hbind:∀ (s:Shared) (us:List Value),us.length = ps.length → BindsTo s fd ⟨us,[]⟩ (ps.zip us)) (hlen:ds.length = ps.length)
    (hsp:∀ (H:Hp) (xs:List V),OnlyF H → DwAll K H xs ds → sp xs H (fun v H'=>Dw K H' v d0) fun _ _ _=>False)
    (hCX:∀ H e s',CX [] H s₁ (fun _ _ _=>False) e s' → False) :
    codeAny (model P w) callerA (.call (.ref fa) ⟨vals,[]⟩) (fun r s' => ∃ u as,r = .ok (.ret u) ∧ ReadsW R cl s'.heap u d0 as ∧ OldK s₁.heap s'.heap ∧ s'.os = s₁.os ∧ AllBare s'.gens) s₁:=by
  obtain ⟨A,ho,ar⟩:=area_all ds vals hwl hpl hwt
  have hO:OnlyF (argH K s₁.heap A):=argH_only ar
  have hok:HOk P w (argH K s₁.heap A) s₁.heap:=argH_ok ar
  have hS:=dw_all KX ar ds vals hwl hpl ho
  have hV:=vals_toV ho
  have hK:∀ b u,argH K s₁.heap A b = some u → K.lookup b = none:=fun b u q=>(argH_is ar q).1
  have noA:∀ {b:Addr} {o:Obj} {es:Array DictEntry} {ep:Nat},s₁.heap.get? b = some o → o.data = .dict es ep → argH K s₁.heap A b = none:=fun {b o es ep} e d=>by
    cases q:argH K s₁.heap A b with
    | none=>rfl
    | some u =>
      obtain ⟨_,vs,_,_,⟨e2,_⟩ | ⟨e2,_⟩⟩:=argH_is ar q
      · rw [e2] at e
        cases e
        have d':Data.seq vs.toArray _ = Data.dict es ep:=d
        cases d'
      · rw [e2] at e
        cases e
        have d':Data.seq vs.toArray _ = Data.dict es ep:=d
        cases d'
  generalize argH K s₁.heap A = H at hO hok hS hK noA
  have base_of:∀ {b:Addr} {o:Obj},s₁.heap.get? b = some o → H b = none → (hidT s₁.heap H).get? b = some o:=fun e n=>hidT_get e n
  have nsK:∀ {b:Addr} {m:Str → Option Value},s₁.heap.Ns b m → (hidT s₁.heap H).Ns b m:=fun {b m} ⟨o,es,ep,e,d,r⟩=>⟨o,es,ep,base_of e (noA e d),d,r⟩
  have nK:∀ b o,K.lookup b = some o → H b = none:=fun b o e=>by
    cases q:H b with
    | none=>rfl
    | some u =>
      rw [hK b u q] at e
      cases e
  have hKb:K.In (hidT s₁.heap H):=fun b o e=>base_of (KX b o e) (nK b o e)
  have hM:Mod K mg (hidT s₁.heap H):=⟨hKb,nsK hns,⟨mb,nsK hb,hbb⟩,let ⟨mc,h1,h2⟩:=hlim;⟨mc,nsK h1,h2⟩⟩
  have e0:Env0 P w K mg (hidT s₁.heap H) callerA [] s₁ H:=⟨rfl,hM,fun b o e=>of_hidT e,Nat.le_of_eq (hidT_size _ _),trivial,fun b hb=>absurd (show b ∈ ([] : List Addr) from hb) (by simp),hok, .of_eq hg⟩
  have hl:vals.length = ps.length:=by rw [wellAll_len hwl];exact hlen
  refine codeAny_mono ((F _ hKb (nsK hns)).run callerA [] s₁ H ⟨vals,[]⟩ vals (vals.map toV) _ _ hr e0 (hbind s₁ vals hl) hV (hsp H _ hO hS)) fun r s' x => ?_
  cases r with
  | error e=>exact (hCX H e s' x).elim
  | ok fl =>
    cases fl with
    | next=>exact False.elim x
    | brk=>exact False.elim x
    | cont=>exact False.elim x
    | ret u =>
      obtain ⟨v,H',os,bare,un,hok',r',q⟩:=x
      have kept:∀ b o,s₁.heap.get? b = some o → s'.heap.get? b = some o:=fun b o e=>by
        cases q2:H b with
        | none=>exact un.keep b o e q2 (by intro z;exact absurd (show b ∈ ([] : List Addr) from z) (by simp)) (by simp)
        | some u2 =>
          rcases hO b with z | ⟨ob,u3,z⟩
          · rw [q2] at z
            cases z
          · have z2:=un.frzs b ob _ z
            obtain ⟨e1,_⟩:=hok b _ z
            obtain ⟨e2,_⟩:=hok' b _ z2
            rw [e] at e1
            cases e1
            exact e2
      have KX':K.In s'.heap:=fun b o e=>kept b o (KX b o e)
      obtain ⟨as,hrd⟩:=Dw.reads (R:=R) (cl:=cl) hok' KX' d0 v u q r'
      exact ⟨u,as,rfl,hrd,OldK.of_keep kept,os,bare⟩
theorem layable_weight {ds:List WData} (h:WData.layableAll ds = true):∀ d ∈ ds,d.weight ≤ 1048576:=fun d hd =>
  (PySem.W.layableW_iff.mp (List.all_eq_true.mp h d hd)).2.2
theorem encAll_len:∀ (cs:List Codec) (a:Codec.denoteAll cs),(Codec.encAll cs a).length = cs.length
  | [],_=>rfl
  | c :: cs,a=>by
    show (Codec.encAll cs a.2).length + 1 = cs.length + 1
    rw [encAll_len cs a.2]
theorem walk_spec {r:OpenSpec} {k:Nat} {q:Program} {loose:List Str} {XP:(Str → Option Value) → Heap → Prop} {YP:World → Heap → Prop} {d:DefRec} {K:Params → PySem.W.Frag} {CX:World → CXT} {ps:List Str} {sp:World → Sp}
    (hwell:r.wellSaid = true) (hdf:d.params.defaults = []) (hlen:r.args.length = ps.length) (hr:Room k callerA)
    (hY:∀ (w:World) (h:Heap),YP w h → (K w.params).In h)
    (F:∀ (w:World) (mg:Str → Option Value) (fa:Addr) (h:Heap),YP w h → (K w.params).In h → h.Ns mainGlobals mg → mg d.name = some (.ref fa) →
      ∃ fd:FuncData,(∀ (s:Shared) (us:List Value),us.length = ps.length → BindsTo s fd ⟨us,[]⟩ (ps.zip us)) ∧
        ∀ base:Heap,(K w.params).In base → base.Ns mainGlobals mg → FnOk r.prog w (K w.params) mg base (CX w) k fa fd ps (sp w))
    (hsp:∀ (w:World) (H:Hp) (xs:List V) (a:Codec.denoteAll r.args),OnlyF H → Codec.withinAll r.args a = true → Codec.app r.args r.asked a = true → DwAll (K w.params) H xs (Codec.encAll r.args a) →
      sp w xs H (fun v H'=>Dw (K w.params) H' v (r.ret.enc (Codec.app r.args r.f a))) fun _ _ _=>False)
    (hCX:∀ (w:World) (H:Hp) (s:Shared) (e:Value) (s':Shared),CX w [] H s (fun _ _ _=>False) e s' → False) :
    PySem.W.WalkOS q loose XP YP r d [] (fun f vs=>PySem.call f vs):=by
  intro w s_0 s₁ mg mb G Y fa o pm cd doc dV kV ho hd hcd hD hmg hg args vals as hpre hlay hrd hwl hlo
  obtain ⟨a,e1,e2⟩:=PySem.W.os_pre_some hpre
  obtain ⟨e3,hwi⟩:=Codec.encAll_of_decAll r.args args a e1
  subst e3
  have KX:=hY w _ Y
  obtain ⟨fd,hb,hF⟩:=F w mg fa _ Y KX G.T.g hmg
  refine PySem.W.enter_call (codeAny_mono (spec_call (R:=[]) (cl:=classAt s_0.heap) (d0:=r.ret.enc (Codec.app r.args r.f a)) KX G.T.g G.T.b G.T.builtins G.T.nolimit hg hwl (pl_encAll _ _) (layable_weight hlay) hr hF hb (by rw [encAll_len];exact hlen)
    (fun H xs hO hS=>hsp w H xs a hO hwi e2 hS) fun H e s'=>hCX w H s₁ e s') fun r' s' hq => ?_)
  obtain ⟨u,as',rfl,h1,h2,h3,h4⟩:=hq
  exact ⟨.inl ⟨u,_,as',rfl,fun _=>rfl,h1,(OpenSpec.post_iff hwell hwi _ _).mpr rfl,fun z=>Bool.noConfusion (show false = true from z)⟩,h2,h3,h4⟩
theorem walk_specK {r:OpenSpec} {k:Nat} {q:Program} {loose:List Str} {XP:(Str → Option Value) → Heap → Prop} {YP:World → Heap → Prop} {d:DefRec} {K:Params → PySem.W.Frag} {CX:CXT} {ps:List Str} {sp:PySem.W.Frag → Sp}
    (hwell:r.wellSaid = true) (hdf:d.params.defaults = []) (hlen:r.args.length = ps.length) (hr:Room k callerA)
    (hY:∀ (w:World) (h:Heap),YP w h → (K w.params).In h)
    (F:∀ (w:World) (mg:Str → Option Value) (fa:Addr) (h:Heap),YP w h → (K w.params).In h → h.Ns mainGlobals mg → mg d.name = some (.ref fa) →
      ∃ fd:FuncData,(∀ (s:Shared) (us:List Value),us.length = ps.length → BindsTo s fd ⟨us,[]⟩ (ps.zip us)) ∧
        ∀ base:Heap,(K w.params).In base → base.Ns mainGlobals mg → FnOk r.prog w (K w.params) mg base CX k fa fd ps (sp (K w.params)))
    (hsp:∀ (K:PySem.W.Frag) (H:Hp) (xs:List V) (a:Codec.denoteAll r.args),OnlyF H → Codec.withinAll r.args a = true → Codec.app r.args r.asked a = true → DwAll K H xs (Codec.encAll r.args a) →
      sp K xs H (fun v H'=>Dw K H' v (r.ret.enc (Codec.app r.args r.f a))) fun _ _ _=>False)
    (hCX:∀ (H:Hp) (s:Shared) (e:Value) (s':Shared),CX [] H s (fun _ _ _=>False) e s' → False) :
    PySem.W.WalkOS q loose XP YP r d [] (fun f vs=>PySem.call f vs) :=
  walk_spec (K:=K) (CX:=fun _=>CX) (sp:=fun w=>sp (K w.params)) hwell hdf hlen hr hY F (fun w H xs a h1 h2 h3 h4=>hsp (K w.params) H xs a h1 h2 h3 h4) fun _ H s e s'=>hCX H s e s'
end L2
end

namespace Jm
open Wh WhA
def kd (c:List Int):Int:=c.getD 0 0
def pl (c:List Int):List Int:=(c.drop 1).take 4
def tp (c:List Int):Int:=c.getD 5 0
def bt (c:List Int):Int:=c.getD 6 0
def nodeCounts:List Int:=[2,2,2,0,2,2,4,4,2,2,4,4,2,2]
def curCounts:List Int:=[1,1,1,0,1,1,1,1,1,1,2,1,1,1]
def nodesOf (c:List Int):List Int:=(pl c).take (nodeCounts.getD (kd c).toNat 0).toNat
def refsOf (c:List Int):List Int:=if kd c = 3 then (pl c).take 2 else if kd c = 8 ∨ kd c = 9 then ((pl c).drop 2).take 1 else []
def isPart (c:List Int):Bool:=(decide (0 ≤ kd c) && decide (kd c ≤ 13)) && (((pl c).all fun p=>decide (0 ≤ p) && decide (p ≤ 63)) && ((decide (-1000000 ≤ tp c) && decide (tp c ≤ 1000000)) && (decide (1 ≤ bt c) && decide (bt c ≤ 1000000))))
def parts (ns:List Int):List (List Int):=sevens ns.length (ns.drop 1)
def diodes (cs:List (List Int)):Nat:=(cs.filter fun c=>decide (kd c = 13)).length
def isRow (ns:List Int):Bool :=
  if ¬ ns.length % 7 = 1 ∨ ¬ (1 ≤ ns.headD 0 ∧ ns.headD 0 ≤ 8) then false
  else if 14 < (parts ns).length ∨ 5 < diodes (parts ns) then false
  else (parts ns).all isPart
def mayNum (c:List Int):Bool :=
  if kd c = 0 ∨ kd c = 1 ∨ kd c = 2 then decide (0 < tp c)
  else if kd c = 10 then !decide (tp c = 0)
  else if kd c = 11 then decide (tp c = 0)
  else if kd c = 12 then decide (tp c = 0 ∨ tp c = bt c)
  else if kd c = 13 then decide (0 ≤ tp c) else true
def sort2:List Int → List Int
  | [a,b] => if a ≤ b then [a,b] else [b,a]
  | l=>l
def newPair (p:List Int) (before:List (List Int)):Bool :=
  !decide (p.getD 0 0 = p.getD 1 0) && !(decide (sort2 p ∈ (before.filter fun c=>decide (kd c = 3)).map fun c=>sort2 (refsOf c)))
def kdAt (before:List (List Int)) (x:Int):Int:=kd (before.getD x.toNat [])
def mayRef (c:List Int) (before:List (List Int)):Bool :=
  if ((refsOf c).any fun x=>decide ((before.length:Int) ≤ x)) = true then false
  else if kd c = 3 then decide ((refsOf c).map (kdAt before) = [2,2]) && newPair (refsOf c) before
  else !decide ((3:Int) ∈ (refsOf c).map (kdAt before))
def muchOf (c f g:List Int):Bool:=decide (tp f * tp g * bt c * bt c < tp c * tp c * bt f * bt g)
def tooMuch (c:List Int) (before:List (List Int)):Bool:=muchOf c (before.getD ((pl c).getD 0 0).toNat []) (before.getD ((pl c).getD 1 0).toNat [])
def fault (c:List Int) (before:List (List Int)) (n:Int):Int :=
  if ((nodesOf c).any fun v=>decide (n < v)) = true then 1
  else if mayNum c = false then 2
  else if mayRef c before = false then 3
  else if kd c = 3 ∧ tooMuch c before = true then 2 else 0
def firstFrom (n:Int):List (List Int) → List (List Int) → List Int
  | _,[] => []
  | before,c :: r=>if fault c before n ≠ 0 then [(before.length:Int),fault c before n] else firstFrom n (before ++ [c]) r
def firstFault (cs:List (List Int)) (n:Int):List Int:=firstFrom n [] cs
def refusal (ns:List Int):List Int:=if isRow ns = false then [-1] else if firstFault (parts ns) (ns.headD 0) = [] then [] else -2 :: firstFault (parts ns) (ns.headD 0)
theorem sevens_len:∀ (f:Nat) (l:List Int) (n:Nat),l.length = 7 * n → n ≤ f → (sevens f l).length = n ∧ ∀ c ∈ sevens f l,c.length = 7
  | 0,l,n,h,hf=>by
    have:n = 0:=by omega
    subst this
    exact ⟨rfl,by simp [sevens]⟩
  | f + 1,l,0,h,hf=>by
    have:l = []:=List.eq_nil_of_length_eq_zero (by omega)
    subst this
    exact ⟨rfl,by simp [sevens]⟩
  | f + 1,l,n + 1,h,hf=>by
    have hne:l.isEmpty = false:=by
      cases l with
      | nil=>simp at h
      | cons a r=>rfl
    have ih:=sevens_len f (l.drop 7) n (by simp;omega) (by omega)
    have e:sevens (f + 1) l = l.take 7 :: sevens f (l.drop 7):=by
      show (if l.isEmpty = true then [] else l.take 7 :: sevens f (l.drop 7)) = _
      rw [hne];rfl
    rw [e]
    refine ⟨by simp [ih.1],fun c hc => ?_⟩
    rcases List.mem_cons.mp hc with rfl | hc
    · simp;omega
    · exact ih.2 c hc
theorem sevens_get:∀ (f:Nat) (l:List Int) (n j:Nat),l.length = 7 * n → n ≤ f → j < n → (sevens f l)[j]? = some ((l.drop (7 * j)).take 7)
  | 0,l,n,j,h,hf,hj=>by omega
  | f + 1,l,0,j,h,hf,hj=>by omega
  | f + 1,l,n + 1,j,h,hf,hj=>by
    have hne:l.isEmpty = false:=by
      cases l with
      | nil=>simp at h
      | cons a r=>rfl
    have e:sevens (f + 1) l = l.take 7 :: sevens f (l.drop 7):=by
      show (if l.isEmpty = true then [] else l.take 7 :: sevens f (l.drop 7)) = _
      rw [hne];rfl
    rw [e]
    cases j with
    | zero=>simp
    | succ j =>
      rw [List.getElem?_cons_succ,sevens_get f (l.drop 7) n j (by simp;omega) (by omega) (by omega),List.drop_drop]
      have:7 + 7 * j = 7 * (j + 1):=by omega
      rw [this]
theorem parts_len {ns:List Int} {n:Nat} (h:ns.length = 7 * n + 1):(parts ns).length = n ∧ ∀ c ∈ parts ns,c.length = 7 :=
  sevens_len _ _ n (by simp;omega) (by omega)
theorem parts_get {ns:List Int} {n j:Nat} (h:ns.length = 7 * n + 1) (hj:j < n):(parts ns)[j]? = some ((ns.drop (1 + 7 * j)).take 7):=by
  have:=sevens_get ns.length (ns.drop 1) n j (by simp;omega) (by omega) hj
  rw [List.drop_drop] at this
  exact this
theorem seven {c:List Int} (h:c.length = 7):∃ k a b d e t q,c = [k,a,b,d,e,t,q]:=by
  match c,h with
  | [k,a,b,d,e,t,q],_=>exact ⟨k,a,b,d,e,t,q,rfl⟩
theorem isPart_eq {c:List Int} (h:c.length = 7):isPart c = sevenOk c:=by
  obtain ⟨k,a,b,d,e,t,q,rfl⟩:=seven h
  simp only [isPart,sevenOk,kd,pl,tp,bt,small,NUMBER,List.getD_cons_zero,List.getD_cons_succ,List.drop_succ_cons,List.drop_zero,List.take_succ_cons,List.take_zero,List.all_cons,List.all_nil,Bool.and_true]
  rw [Bool.eq_iff_iff]
  simp only [Bool.and_eq_true,decide_eq_true_eq]
  omega
theorem isRow_eq (ns:List Int):isRow ns = rowOk ns:=by
  unfold isRow rowOk
  by_cases h7:ns.length % 7 = 1
  · obtain ⟨n,hn⟩ : ∃ n,ns.length = 7 * n + 1:=⟨ns.length / 7,by omega⟩
    obtain ⟨p1,p2⟩:=parts_len hn
    have ea:(parts ns).all isPart = (sevens ns.length (ns.drop 1)).all sevenOk:=by
      show (parts ns).all isPart = (parts ns).all sevenOk
      rw [Bool.eq_iff_iff]
      simp only [List.all_eq_true]
      constructor
      · intro z c hc;rw [← isPart_eq (p2 c hc)];exact z c hc
      · intro z c hc;rw [isPart_eq (p2 c hc)];exact z c hc
    have ed:diodes (parts ns) = ((sevens ns.length (ns.drop 1)).filter fun (x:List Int)=>x.headD 0 == 13).length:=by
      unfold diodes
      show _ = ((parts ns).filter fun (x:List Int)=>x.headD 0 == 13).length
      congr 1
      apply List.filter_congr
      intro c hc
      obtain ⟨k,a,b,d,e,t,q,rfl⟩:=seven (p2 c hc)
      show decide (k = 13) = (k == 13)
      rw [Bool.eq_iff_iff];simp
    rw [ea, ← ed]
    have eN:((NODES:Nat):Int) = 8:=rfl
    have eE:ELEMS = 14:=rfl
    have eD:DIODES = 5:=rfl
    rw [eN,eE,eD]
    by_cases hN:1 ≤ ns.headD 0 ∧ ns.headD 0 ≤ 8
    · rw [if_neg (fun z=>z.elim (fun y=>y h7) (fun y=>y hN))]
      by_cases hp:14 < (parts ns).length ∨ 5 < diodes (parts ns)
      · rw [if_pos hp]
        symm
        rw [Bool.eq_false_iff]
        intro z
        simp only [Bool.and_eq_true,decide_eq_true_eq] at z
        omega
      · rw [if_neg hp,decide_eq_true (show diodes (parts ns) ≤ 5 by omega),decide_eq_true h7,decide_eq_true hN.1,decide_eq_true hN.2,decide_eq_true (show ns.length ≤ 7 * 14 + 1 by omega)]
        simp
    · rw [if_pos (Or.inr hN)]
      symm
      rw [Bool.eq_false_iff]
      intro z
      simp only [Bool.and_eq_true,decide_eq_true_eq] at z
      omega
  · rw [if_pos (Or.inl h7)]
    symm
    rw [Bool.eq_false_iff]
    intro z
    simp only [Bool.and_eq_true,decide_eq_true_eq] at z
    omega
structure Good (c:List Int):Prop where
  len:c.length = 7
  ok:isPart c = true
structure Facts (c:List Int) (k a b d e t q:Int):Prop where
  eq:c = [k,a,b,d,e,t,q]
  k0:0 ≤ k
  k1:k ≤ 13
  a0:0 ≤ a
  a1:a ≤ 63
  b0:0 ≤ b
  b1:b ≤ 63
  d0:0 ≤ d
  d1:d ≤ 63
  e0:0 ≤ e
  e1:e ≤ 63
  t0 : -1000000 ≤ t
  t1:t ≤ 1000000
  q0:1 ≤ q
  q1:q ≤ 1000000
theorem Good.facts {c:List Int} (g:Good c):∃ k a b d e t q,Facts c k a b d e t q:=by
  obtain ⟨k,a,b,d,e,t,q,rfl⟩:=seven g.len
  have h:=g.ok
  simp only [isPart,kd,pl,tp,bt,List.getD_cons_zero,List.getD_cons_succ,List.drop_succ_cons,List.drop_zero,List.take_succ_cons,List.take_zero,List.all_cons,List.all_nil,Bool.and_true,Bool.and_eq_true,decide_eq_true_eq] at h
  exact ⟨k,a,b,d,e,t,q,⟨rfl,by omega,by omega,by omega,by omega,by omega,by omega,by omega,by omega,by omega,by omega,by omega,by omega,by omega,by omega⟩⟩
theorem kinds_cases {P:Int → Prop} {k:Int} (h0:0 ≤ k) (h1:k ≤ 13) (p0:P 0) (p1:P 1) (p2:P 2) (p3:P 3) (p4:P 4) (p5:P 5) (p6:P 6) (p7:P 7) (p8:P 8) (p9:P 9) (p10:P 10) (p11:P 11) (p12:P 12) (p13:P 13):P k:=by
  have:k = 0 ∨ k = 1 ∨ k = 2 ∨ k = 3 ∨ k = 4 ∨ k = 5 ∨ k = 6 ∨ k = 7 ∨ k = 8 ∨ k = 9 ∨ k = 10 ∨ k = 11 ∨ k = 12 ∨ k = 13:=by omega
  rcases this with h | h | h | h | h | h | h | h | h | h | h | h | h | h <;> subst h <;> assumption
def kindOf (c:List Int):Kind:=kinds.getD (kd c).toNat .R
theorem elem_q (c:List Int):(elemIn c).q = (tp c:Rat) / ((c.getD 6 1:Int):Rat):=rfl
theorem elem_nodes {c:List Int} (g:Good c):(elemIn c).nodes = (nodesOf c).map Int.toNat:=by
  obtain ⟨k,a,b,d,e,t,q,F⟩:=g.facts
  obtain ⟨rfl,k0,k1,_⟩:=F
  refine kinds_cases (P:=fun k=>(elemIn [k,a,b,d,e,t,q]).nodes = (nodesOf [k,a,b,d,e,t,q]).map Int.toNat) k0 k1 ?_ ?_ ?_ ?_ ?_ ?_ ?_ ?_ ?_ ?_ ?_ ?_ ?_ ?_ <;> rfl
theorem elem_refs {c:List Int} (g:Good c):(elemIn c).refs = (refsOf c).map Int.toNat:=by
  obtain ⟨k,a,b,d,e,t,q,F⟩:=g.facts
  obtain ⟨rfl,k0,k1,_⟩:=F
  refine kinds_cases (P:=fun k=>(elemIn [k,a,b,d,e,t,q]).refs = (refsOf [k,a,b,d,e,t,q]).map Int.toNat) k0 k1 ?_ ?_ ?_ ?_ ?_ ?_ ?_ ?_ ?_ ?_ ?_ ?_ ?_ ?_ <;> rfl
theorem kind_iff {c:List Int} (g:Good c) (j:Nat) (hj:j ≤ 13):kindOf c = kinds.getD j .R ↔ kd c = j:=by
  obtain ⟨k,a,b,d,e,t,q,F⟩:=g.facts
  obtain ⟨rfl,k0,k1,_⟩:=F
  show kinds.getD k.toNat .R = kinds.getD j .R ↔ k = j
  have hk:k = (k.toNat:Int):=by omega
  generalize k.toNat = m at *
  subst hk
  have hm:m ≤ 13:=by omega
  clear k0 k1
  have key:∀ m:Fin 14, ∀ j:Fin 14,kinds.getD m.1 .R = kinds.getD j.1 .R → m.1 = j.1:=by decide
  constructor
  · intro h
    have:=key ⟨m,by omega⟩ ⟨j,by omega⟩ h
    simp at this
    omega
  · intro h
    have:m = j:=by omega
    rw [this]
theorem kind_M {c:List Int} (g:Good c):(elemIn c).kind = .M ↔ kd c = 3:=kind_iff g 3 (by decide)
theorem kind_L {c:List Int} (g:Good c):(elemIn c).kind = .L ↔ kd c = 2:=kind_iff g 2 (by decide)
theorem kind_D {c:List Int} (g:Good c):(elemIn c).kind = .D ↔ kd c = 13:=kind_iff g 13 (by decide)
theorem getD7 {c:List Int} (g:Good c):c.getD 6 1 = bt c:=by
  obtain ⟨k,a,b,d,e,t,q,F⟩:=g.facts
  obtain ⟨rfl,_⟩:=F
  rfl
theorem bt_pos {c:List Int} (g:Good c):1 ≤ bt c:=by
  obtain ⟨k,a,b,d,e,t,q,F⟩:=g.facts
  have:=F.q0
  obtain ⟨rfl,_⟩:=F
  exact this
theorem elem_q' {c:List Int} (g:Good c):(elemIn c).q = (tp c:Rat) / (bt c:Rat):=by rw [elem_q,getD7 g]
theorem castPos {b:Int} (h:1 ≤ b):(0:Rat) < (b:Rat):=Rat.intCast_pos.mpr (by omega)
theorem q_zero {t b:Int} (hb:1 ≤ b):((t:Rat) / (b:Rat) = 0) ↔ t = 0:=by
  have hp:=castPos hb
  constructor
  · intro h
    have h2:(t:Rat) = 0:=by grind
    exact_mod_cast h2
  · intro h;subst h;grind
theorem q_one {t b:Int} (hb:1 ≤ b):((t:Rat) / (b:Rat) = 1) ↔ t = b:=by
  have hp:=castPos hb
  constructor
  · intro h
    have h2:(t:Rat) = b:=by grind
    exact_mod_cast h2
  · intro h;subst h;grind
theorem q_pos {t b:Int} (hb:1 ≤ b):(0 < (t:Rat) / (b:Rat)) ↔ 0 < t:=by
  have hp:=castPos hb
  rw [Rat.lt_div_iff hp,Rat.zero_mul]
  exact Rat.intCast_pos
theorem q_nn {t b:Int} (hb:1 ≤ b):(0 ≤ (t:Rat) / (b:Rat)) ↔ 0 ≤ t:=by
  have hp:=castPos hb
  rw [← Rat.not_lt,Rat.div_lt_iff hp,Rat.zero_mul,Rat.not_lt]
  exact_mod_cast Iff.rfl
theorem num_eq {c:List Int} (g:Good c):mayNum c = mayHave (elemIn c).kind (elemIn c).q:=by
  have hb:=bt_pos g
  rw [elem_q' g]
  obtain ⟨k,a,b,d,e,t,q,F⟩:=g.facts
  obtain ⟨rfl,k0,k1,_⟩:=F
  have hb:1 ≤ q:=hb
  show mayNum [k,a,b,d,e,t,q] = mayHave (elemIn [k,a,b,d,e,t,q]).kind ((t:Rat) / (q:Rat))
  have e0:decide ((t:Rat) / (q:Rat) = 0) = decide (t = 0):=decide_eq_decide.mpr (q_zero hb)
  have e1:decide ((t:Rat) / (q:Rat) = 1) = decide (t = q):=decide_eq_decide.mpr (q_one hb)
  have e2:decide (0 < (t:Rat) / (q:Rat)) = decide (0 < t):=decide_eq_decide.mpr (q_pos hb)
  have e3:decide (0 ≤ (t:Rat) / (q:Rat)) = decide (0 ≤ t):=decide_eq_decide.mpr (q_nn hb)
  refine kinds_cases (P:=fun k=>mayNum [k,a,b,d,e,t,q] = mayHave (elemIn [k,a,b,d,e,t,q]).kind ((t:Rat) / (q:Rat))) k0 k1 ?_ ?_ ?_ ?_ ?_ ?_ ?_ ?_ ?_ ?_ ?_ ?_ ?_ ?_
  · exact e2.symm
  · exact e2.symm
  · exact e2.symm
  · rfl
  · rfl
  · rfl
  · rfl
  · rfl
  · rfl
  · rfl
  · show (!decide (t = 0)) = decide ((t:Rat) / (q:Rat) ≠ 0)
    rw [← e0];simp
  · exact e0.symm
  · show decide (t = 0 ∨ t = q) = (decide ((t:Rat) / (q:Rat) = 0) || decide ((t:Rat) / (q:Rat) = 1))
    rw [e0,e1];simp
  · exact e3.symm
theorem pl_nn {c:List Int} (g:Good c):∀ v ∈ pl c,0 ≤ v ∧ v ≤ 63:=by
  obtain ⟨k,a,b,d,e,t,q,F⟩:=g.facts
  have h:=F
  obtain ⟨rfl,_⟩:=F
  intro v hv
  have hv:v ∈ [a,b,d,e]:=hv
  simp only [List.mem_cons,List.not_mem_nil,or_false] at hv
  rcases hv with rfl | rfl | rfl | rfl
  · exact ⟨h.a0,h.a1⟩
  · exact ⟨h.b0,h.b1⟩
  · exact ⟨h.d0,h.d1⟩
  · exact ⟨h.e0,h.e1⟩
theorem nodes_nn {c:List Int} (g:Good c):∀ v ∈ nodesOf c,0 ≤ v:=fun v hv=>(pl_nn g v (List.mem_of_mem_take hv)).1
theorem refs_sub {c:List Int} : ∀ v ∈ refsOf c,v ∈ pl c:=by
  intro v hv
  unfold refsOf at hv
  split at hv
  · exact List.mem_of_mem_take hv
  · split at hv
    · exact List.mem_of_mem_drop (List.mem_of_mem_take hv)
    · cases hv
theorem refs_nn {c:List Int} (g:Good c):∀ v ∈ refsOf c,0 ≤ v:=fun v hv=>(pl_nn g v (refs_sub v hv)).1
theorem nodes_any {c:List Int} (g:Good c) {n:Int} (hn:0 ≤ n):(elemIn c).nodes.any (fun v=>decide (n.toNat < v)) = (nodesOf c).any fun v=>decide (n < v):=by
  rw [elem_nodes g,List.any_map,Bool.eq_iff_iff]
  simp only [List.any_eq_true,Function.comp,decide_eq_true_eq]
  constructor
  · rintro ⟨v,hv,h⟩
    exact ⟨v,hv,by omega⟩
  · rintro ⟨v,hv,h⟩
    have:=nodes_nn g v hv
    exact ⟨v,hv,by omega⟩
theorem refs_M {c:List Int} (g:Good c) (h:kd c = 3):∃ a b:Nat,refsOf c = [(a:Int),(b:Int)] ∧ (elemIn c).refs = [a,b] ∧ (pl c).getD 0 0 = a ∧ (pl c).getD 1 0 = b:=by
  have e:=elem_refs g
  obtain ⟨k,a,b,d,e',t,q,F⟩:=g.facts
  have f:=F
  obtain ⟨rfl,_⟩:=F
  have hr:refsOf [k,a,b,d,e',t,q] = [a,b]:=by
    unfold refsOf
    rw [if_pos h];rfl
  have h1:=f.a0
  have h2:=f.b0
  rw [hr] at e
  refine ⟨a.toNat,b.toNat, ?_,e, ?_, ?_⟩
  · rw [hr,Int.toNat_of_nonneg h1,Int.toNat_of_nonneg h2]
  · show a = _;omega
  · show b = _;omega
theorem sort2_iff {a b u v:Int} : sort2 [u,v] = sort2 [a,b] ↔ ([u,v] = [a,b] ∨ [u,v] = [b,a]):=by
  simp only [sort2,List.cons.injEq,and_true]
  split <;> split <;> simp only [List.cons.injEq,and_true] <;> omega
section
variable {cs:List (List Int)} {k:Nat}
theorem at_lt (hg:∀ c ∈ cs,Good c) {N a:Nat} (hk:k ≤ cs.length) (ha:a < k):∃ c,cs[a]? = some c ∧ Good c ∧ (cs.take k).getD a [] = c ∧ (Net.mk N (cs.map elemIn)).kindAt a = some (elemIn c).kind ∧ (Net.mk N (cs.map elemIn)).numAt a = (elemIn c).q:=by
  have hl:a < cs.length:=by omega
  refine ⟨cs[a],by simp [hl],hg _ (List.getElem_mem hl), ?_, ?_, ?_⟩
  · simp [List.getD,ha,hl]
  · simp [Net.kindAt,hl]
  · simp [Net.numAt,hl]
theorem q_lt {t b t1 b1 t2 b2:Int} (hb:1 ≤ b) (h1:1 ≤ b1) (h2:1 ≤ b2):((t1:Rat) / (b1:Rat) * ((t2:Rat) / (b2:Rat)) < (t:Rat) / (b:Rat) * ((t:Rat) / (b:Rat))) ↔ t1 * t2 * b * b < t * t * b1 * b2:=by
  have p:=castPos hb
  have p1:=castPos h1
  have p2:=castPos h2
  have e1:(t1:Rat) / (b1:Rat) * ((t2:Rat) / (b2:Rat)) = ((t1:Rat) * t2) / ((b1:Rat) * b2):=by grind
  have e2:(t:Rat) / (b:Rat) * ((t:Rat) / (b:Rat)) = ((t:Rat) * t) / ((b:Rat) * b):=by grind
  rw [e1,e2,Rat.div_lt_iff (Rat.mul_pos p1 p2)]
  have e3:(t:Rat) * t / ((b:Rat) * b) * ((b1:Rat) * b2) = ((t:Rat) * t * ((b1:Rat) * b2)) / ((b:Rat) * b):=by grind
  rw [e3,Rat.lt_div_iff (Rat.mul_pos p p)]
  have e4:(t1:Rat) * t2 * ((b:Rat) * b) = ((t1 * t2 * b * b:Int):Rat):=by simp only [Rat.intCast_mul];grind
  have e5:(t:Rat) * t * ((b1:Rat) * b2) = ((t * t * b1 * b2:Int):Rat):=by simp only [Rat.intCast_mul];grind
  rw [e4,e5]
  exact Rat.intCast_lt_intCast
theorem ref_far (hg:∀ c ∈ cs,Good c) {c:List Int} (hc:cs[k]? = some c) (hk:k < cs.length):((refsOf c).any fun x=>decide (((cs.take k).length:Int) ≤ x)) = (elemIn c).refs.any fun a=>decide (k ≤ a):=by
  have g:=hg c (List.mem_of_getElem? hc)
  have hl:(cs.take k).length = k:=by simp;omega
  rw [elem_refs g,List.any_map,hl,Bool.eq_iff_iff]
  simp only [List.any_eq_true,Function.comp,decide_eq_true_eq]
  constructor
  · rintro ⟨v,hv,h⟩
    exact ⟨v,hv,by omega⟩
  · rintro ⟨v,hv,h⟩
    have:=refs_nn g v hv
    exact ⟨v,hv,by omega⟩
theorem fault_eq (hg:∀ c ∈ cs,Good c) {c:List Int} {n:Int} (hn:0 ≤ n) (hc:cs[k]? = some c):fault c (cs.take k) n = ((Net.mk n.toNat (cs.map elemIn)).wrongAt k (elemIn c):Int):=by
  have hk:k < cs.length:=(List.getElem?_eq_some_iff.mp hc).1
  have g:=hg c (List.mem_of_getElem? hc)
  have hl:(cs.take k).length = k:=by simp;omega
  unfold fault Net.wrongAt
  rw [nodes_any g hn, ← num_eq g]
  show (if ((nodesOf c).any fun v=>decide (n < v)) = true then (1:Int) else _) = _
  by_cases h1:((nodesOf c).any fun v=>decide (n < v)) = true
  · rw [if_pos h1,if_pos h1];rfl
  rw [if_neg h1,if_neg h1]
  by_cases h2:mayNum c = false
  · rw [if_pos h2,if_pos h2];rfl
  rw [if_neg h2,if_neg h2]
  unfold mayRef
  rw [ref_far hg hc hk]
  by_cases hM:kd c = 3
  · rw [if_pos ((kind_M g).mpr hM)]
    obtain ⟨a,b,r1,r2,r3,r4⟩:=refs_M g hM
    rw [r2,if_pos hM,r1]
    unfold tooMuch
    rw [r3,r4,Int.toNat_natCast,Int.toNat_natCast]
    by_cases hab:a < k ∧ b < k
    · obtain ⟨ca,ca1,ca2,ca3,ca4,ca5⟩:=at_lt hg (N:=n.toNat) (Nat.le_of_lt hk) hab.1
      obtain ⟨cb,cb1,cb2,cb3,cb4,cb5⟩:=at_lt hg (N:=n.toNat) (Nat.le_of_lt hk) hab.2
      have far:([a,b].any fun a=>decide (k ≤ a)) = false:=by
        simp only [List.any_cons,List.any_nil,Bool.or_false,Bool.or_eq_false_iff,decide_eq_false_iff_not]
        omega
      rw [if_neg (show ¬ ([a,b].any fun a=>decide (k ≤ a)) = true by rw [far];simp)]
      have m2:([(a:Int),(b:Int)].map (kdAt (cs.take k))) = [kd ca,kd cb]:=by
        simp only [List.map_cons,List.map_nil,kdAt,Int.toNat_natCast,ca3,cb3]
      rw [m2,ca3,cb3]
      have hany:([a,b].any (fun (a:Nat)=>decide (k ≤ a) || (Net.mk n.toNat (cs.map elemIn)).kindAt a != some .L)) = !decide ([kd ca,kd cb] = [2,2]):=by
        simp only [List.any_cons,List.any_nil,Bool.or_false,ca4,cb4]
        rw [Bool.eq_iff_iff]
        have x1:=kind_L ca2
        have x2:=kind_L cb2
        simp only [Bool.or_eq_true,decide_eq_true_eq,bne_iff_ne,ne_eq,Option.some.injEq,Bool.not_eq_true',decide_eq_false_iff_not,List.cons.injEq,and_true]
        rw [x1,x2]
        omega
      have hpair:((cs.map elemIn).take k).any (fun (y:Elem)=>decide (y.kind = .M) && (y.refs == [a,b] || y.refs == [a,b].reverse)) = decide (sort2 [(a:Int),(b:Int)] ∈ ((cs.take k).filter fun c=>decide (kd c = 3)).map fun c=>sort2 (refsOf c)):=by
        rw [← List.map_take,List.any_map,Bool.eq_iff_iff]
        simp only [List.any_eq_true,Function.comp,Bool.and_eq_true,Bool.or_eq_true,decide_eq_true_eq,beq_iff_eq,List.mem_map,List.mem_filter]
        constructor
        · rintro ⟨y,hy,hk3,hr⟩
          have gy:=hg y (List.mem_of_mem_take hy)
          have k3:=(kind_M gy).mp hk3
          obtain ⟨u,v,s1,s2,_⟩:=refs_M gy k3
          refine ⟨y,⟨hy,k3⟩, ?_⟩
          rw [s1,sort2_iff]
          rw [s2] at hr
          simp only [List.reverse_cons,List.reverse_nil,List.nil_append,List.cons_append,List.cons.injEq,and_true] at hr ⊢
          omega
        · rintro ⟨y,⟨hy,k3⟩,hr⟩
          have gy:=hg y (List.mem_of_mem_take hy)
          obtain ⟨u,v,s1,s2,_⟩:=refs_M gy k3
          refine ⟨y,hy,(kind_M gy).mpr k3, ?_⟩
          rw [s1,sort2_iff] at hr
          rw [s2]
          simp only [List.reverse_cons,List.reverse_nil,List.nil_append,List.cons_append,List.cons.injEq,and_true] at hr ⊢
          omega
      have hab':([a,b] : List Nat).getD 0 0 = a ∧ ([a,b] : List Nat).getD 1 0 = b:=⟨rfl,rfl⟩
      rw [hany]
      have e1:(Net.mk n.toNat (cs.map elemIn)).elems.take k = (cs.map elemIn).take k:=rfl
      rw [e1,hpair,hab'.1,hab'.2,ca5,cb5,elem_q' g,elem_q' ca2,elem_q' cb2]
      unfold newPair
      have hh:([(a:Int),(b:Int)].getD 0 0 = [(a:Int),(b:Int)].getD 1 0) ↔ a = b:=by
        show ((a:Int) = b) ↔ _
        omega
      by_cases hL : [kd ca,kd cb] = [2,2]
      · by_cases he:a = b
        · subst he
          rw [if_pos (by simp),if_pos (by simp)];rfl
        · by_cases hin:sort2 [(a:Int),(b:Int)] ∈ ((cs.take k).filter fun c=>decide (kd c = 3)).map fun c=>sort2 (refsOf c)
          · rw [if_pos (by simp [hin]),if_pos (Or.inr (Or.inr (decide_eq_true hin)))];rfl
          · have hh2:decide ([(a:Int),(b:Int)].getD 0 0 = [(a:Int),(b:Int)].getD 1 0) = false:=decide_eq_false (fun z=>he (hh.mp z))
            rw [hh2,decide_eq_true hL,decide_eq_false hin]
            rw [if_neg (show ¬ ((true && (!false && !false)) = false) by decide),if_neg (show ¬ ((!true) = true ∨ a = b ∨ false = true) by simp [he])]
            have:=q_lt (t:=tp c) (t1:=tp ca) (t2:=tp cb) (bt_pos g) (bt_pos ca2) (bt_pos cb2)
            unfold muchOf
            by_cases hlt:tp ca * tp cb * bt c * bt c < tp c * tp c * bt ca * bt cb
            · rw [if_pos ⟨hM,decide_eq_true hlt⟩,if_pos (this.mpr hlt)];rfl
            · rw [if_neg (fun z=>hlt (of_decide_eq_true z.2)),if_neg (fun z=>hlt (this.mp z))];rfl
      · rw [decide_eq_false hL]
        rw [if_pos (by simp),if_pos (Or.inl (by rfl))];rfl
    · have far:([a,b].any fun a=>decide (k ≤ a)) = true:=by
        simp only [List.any_cons,List.any_nil,Bool.or_false,Bool.or_eq_true,decide_eq_true_eq]
        omega
      rw [if_pos far,if_pos rfl]
      have hany:([a,b].any (fun (a:Nat)=>decide (k ≤ a) || (Net.mk n.toNat (cs.map elemIn)).kindAt a != some .L)) = true:=by
        simp only [List.any_cons,List.any_nil,Bool.or_false,Bool.or_eq_true,decide_eq_true_eq]
        omega
      rw [if_pos (Or.inl hany)];rfl
  · rw [if_neg hM,if_neg (fun z=>hM ((kind_M g).mp z)),if_neg (show ¬ (kd c = 3 ∧ tooMuch c (cs.take k) = true) from fun z=>hM z.1)]
    have key:(elemIn c).refs.any (fun (a:Nat)=>decide (k ≤ a) || (Net.mk n.toNat (cs.map elemIn)).kindAt a == some .M) = ((elemIn c).refs.any (fun a=>decide (k ≤ a)) || decide ((3:Int) ∈ (refsOf c).map (kdAt (cs.take k)))):=by
      rw [elem_refs g,List.any_map,List.any_map,Bool.eq_iff_iff]
      simp only [Bool.or_eq_true,List.any_eq_true,Function.comp,decide_eq_true_eq,List.mem_map,beq_iff_eq]
      constructor
      · rintro ⟨v,hv,h | h⟩
        · exact Or.inl ⟨v,hv,h⟩
        · by_cases hvk:k ≤ v.toNat
          · exact Or.inl ⟨v,hv,hvk⟩
          · obtain ⟨cv,_,y2,y3,y4,_⟩:=at_lt hg (N:=n.toNat) (Nat.le_of_lt hk) (show v.toNat < k by omega)
            rw [y4] at h
            refine Or.inr ⟨v,hv, ?_⟩
            unfold kdAt
            rw [y3]
            exact (kind_M y2).mp (Option.some.inj h)
      · rintro (⟨v,hv,h⟩ | ⟨v,hv,h⟩)
        · exact ⟨v,hv,Or.inl h⟩
        · by_cases hvk:k ≤ v.toNat
          · exact ⟨v,hv,Or.inl hvk⟩
          · obtain ⟨cv,_,y2,y3,y4,_⟩:=at_lt hg (N:=n.toNat) (Nat.le_of_lt hk) (show v.toNat < k by omega)
            refine ⟨v,hv,Or.inr ?_⟩
            unfold kdAt at h
            rw [y3] at h
            rw [y4,(kind_M y2).mpr h]
    rw [key]
    cases (elemIn c).refs.any (fun a=>decide (k ≤ a)) with
    | true=>rfl
    | false =>
      cases decide ((3:Int) ∈ (refsOf c).map (kdAt (cs.take k))) with
      | true=>rfl
      | false=>rfl
end
def told:Option (Nat × Nat) → List Int
  | none=>[]
  | some x=>[(x.1:Int),(x.2:Int)]
theorem first_eq {cs:List (List Int)} (hg:∀ c ∈ cs,Good c) {n:Int} (hn:0 ≤ n):∀ (r pre:List (List Int)),cs = pre ++ r →
    firstFrom n pre r = told ((((r.map elemIn).zipIdx pre.length).map fun (x:Elem × Nat)=>(x.2,x.1)).findSome? fun (p:Nat × Elem)=>if (Net.mk n.toNat (cs.map elemIn)).wrongAt p.1 p.2 = 0 then none else some (p.1,(Net.mk n.toNat (cs.map elemIn)).wrongAt p.1 p.2))
  | [],pre,_=>rfl
  | c :: r,pre,e=>by
    have hc:cs[pre.length]? = some c:=by rw [e];simp
    have hf:=fault_eq hg hn hc
    have ht:cs.take pre.length = pre:=by rw [e];simp
    rw [ht] at hf
    rw [List.map_cons,List.zipIdx_cons,List.map_cons,List.findSome?_cons]
    show (if fault c pre n ≠ 0 then [(pre.length:Int),fault c pre n] else firstFrom n (pre ++ [c]) r) = _
    rw [hf]
    by_cases h0:(Net.mk n.toNat (cs.map elemIn)).wrongAt pre.length (elemIn c) = 0
    · rw [if_neg (by rw [h0];simp)]
      simp only [h0,if_true]
      have ih:=first_eq hg hn r (pre ++ [c]) (by rw [e];simp)
      rw [List.length_append,List.length_singleton] at ih
      exact ih
    · rw [if_pos (by omega)]
      simp only [h0,if_false]
      rfl
theorem firstFault_eq {cs:List (List Int)} (hg:∀ c ∈ cs,Good c) {n:Int} (hn:0 ≤ n):firstFault cs n = told (Net.wrong (Net.mk n.toNat (cs.map elemIn))):=first_eq hg hn cs [] rfl
theorem cur_eq {c:List Int} (g:Good c):((elemIn c).currents:Int) = curCounts.getD (kd c).toNat 0:=by
  obtain ⟨k,a,b,d,e,t,q,F⟩:=g.facts
  obtain ⟨rfl,k0,k1,_⟩:=F
  refine kinds_cases (P:=fun k=>((elemIn [k,a,b,d,e,t,q]).currents:Int) = curCounts.getD (kd [k,a,b,d,e,t,q]).toNat 0) k0 k1 ?_ ?_ ?_ ?_ ?_ ?_ ?_ ?_ ?_ ?_ ?_ ?_ ?_ ?_ <;> rfl
theorem good_of {ns:List Int} (h:isRow ns = true):(∃ n,ns.length = 7 * n + 1) ∧ (1 ≤ ns.headD 0 ∧ ns.headD 0 ≤ 8) ∧ ∀ c ∈ parts ns,Good c:=by
  unfold isRow at h
  split at h
  · cases h
  · rename_i h1
    split at h
    · cases h
    · have h7:ns.length % 7 = 1:=Classical.byContradiction fun z=>h1 (Or.inl z)
      have hN:1 ≤ ns.headD 0 ∧ ns.headD 0 ≤ 8:=Classical.byContradiction fun z=>h1 (Or.inr z)
      have hn:ns.length = 7 * (ns.length / 7) + 1:=by omega
      exact ⟨⟨_,hn⟩,hN,fun c hc=>⟨(parts_len hn).2 c hc,List.all_eq_true.mp h c hc⟩⟩
theorem refusal_spec (ns:List Int) (f:Net → Answer):WhANeutral.shown (ofNet ns f) = if refusal ns = [] then WhANeutral.shown (f (netIn ns)) else refusal ns:=by
  unfold ofNet refusal
  rw [isRow_eq]
  cases hr:rowOk ns with
  | false=>rfl
  | true =>
    obtain ⟨_,hN,hg⟩:=good_of (by rw [isRow_eq];exact hr)
    have e:netIn ns = Net.mk (ns.headD 0).toNat ((parts ns).map elemIn):=rfl
    rw [e,firstFault_eq hg (by omega)]
    cases (Net.mk (ns.headD 0).toNat ((parts ns).map elemIn)).wrong with
    | none=>rfl
    | some x=>rfl
end Jm

namespace Lin
open Wh
def dot:List Rat → (Nat → Rat) → Rat
  | [],_=>0
  | a :: r,x=>a * x 0 + dot r (fun i=>x (i + 1))
def Sat (x:Nat → Rat) (r:Row):Prop:=dot r.1 x = r.2
theorem dot_scale (q:Rat):∀ (r:List Rat) (x:Nat → Rat),dot (r.map fun z=>q * z) x = q * dot r x
  | [],x=>by simp [dot]
  | a :: r,x=>by
    show q * a * x 0 + dot (r.map fun z=>q * z) (fun i=>x (i + 1)) = q * (a * x 0 + dot r (fun i=>x (i + 1)))
    rw [dot_scale q r]
    grind
theorem dot_sub:∀ (a b:List Rat) (x:Nat → Rat),a.length = b.length → dot (List.zipWith (fun x y=>x - y) a b) x = dot a x - dot b x
  | [],[],x,_=>by show (0:Rat) = 0 - 0;grind
  | [],_ :: _,_,h=>by simp at h
  | _ :: _,[],_,h=>by simp at h
  | a :: r,b :: s,x,h=>by
    show (a - b) * x 0 + dot (List.zipWith (fun x y=>x - y) r s) (fun i=>x (i + 1)) = (a * x 0 + dot r (fun i=>x (i + 1))) - (b * x 0 + dot s (fun i=>x (i + 1)))
    rw [dot_sub r s _ (by simpa using h)]
    grind
theorem dot_addx:∀ (r:List Rat) (x y:Nat → Rat),dot r (fun i=>x i + y i) = dot r x + dot r y
  | [],x,y=>by show (0:Rat) = 0 + 0;grind
  | a :: r,x,y=>by
    show a * (x 0 + y 0) + dot r (fun i=>x (i + 1) + y (i + 1)) = _
    rw [dot_addx r (fun i=>x (i + 1)) (fun i=>y (i + 1))]
    show _ = (a * x 0 + dot r (fun i=>x (i + 1))) + (a * y 0 + dot r (fun i=>y (i + 1)))
    grind
theorem dot_zero:∀ (r:List Rat) (x:Nat → Rat),(∀ j,j < r.length → r.getD j 0 * x j = 0) → dot r x = 0
  | [],x,_=>rfl
  | a :: r,x,h=>by
    show a * x 0 + dot r (fun i=>x (i + 1)) = 0
    have h0:a * x 0 = 0:=h 0 (by simp)
    rw [h0,dot_zero r (fun i=>x (i + 1)) fun j hj=>h (j + 1) (by simpa using hj)]
    grind
theorem dot_one:∀ (r:List Rat) (x:Nat → Rat) (c:Nat),c < r.length → (∀ j,j < r.length → j ≠ c → r.getD j 0 * x j = 0) → dot r x = r.getD c 0 * x c
  | [],x,c,h,_=>by simp at h
  | a :: r,x,0,_,h=>by
    show a * x 0 + dot r (fun i=>x (i + 1)) = a * x 0
    rw [dot_zero r (fun i=>x (i + 1)) fun j hj=>h (j + 1) (by simpa using hj) (by omega)]
    grind
  | a :: r,x,c + 1,hc,h=>by
    show a * x 0 + dot r (fun i=>x (i + 1)) = r.getD c 0 * x (c + 1)
    have h0:a * x 0 = 0:=h 0 (by simp) (by omega)
    rw [h0,dot_one r (fun i=>x (i + 1)) c (by simpa using hc) fun j hj hne=>h (j + 1) (by simpa using hj) (by omega)]
    grind
theorem dot_two (r:List Rat) (x:Nat → Rat) (c d:Nat) (hc:c < r.length) (hd:d < r.length) (hcd:c ≠ d) (h:∀ j,j < r.length → j ≠ c → j ≠ d → r.getD j 0 * x j = 0):dot r x = r.getD c 0 * x c + r.getD d 0 * x d:=by
  have e:dot r x = dot r (fun j=>(if j = c then x j else 0) + (if j = c then 0 else x j)):=by
    congr 1
    funext j
    split <;> grind
  rw [e,dot_addx,dot_one r _ c hc (fun j hj hne=>by rw [if_neg hne];grind),dot_one r _ d hd (fun j hj hne => ?_)]
  · rw [if_pos rfl,if_neg (Ne.symm hcd)]
  · by_cases z:j = c
    · rw [if_pos z];grind
    · rw [if_neg z];exact h j hj z hne
theorem dot_eq:∀ (r:List Rat) (x y:Nat → Rat),(∀ j,j < r.length → x j = y j) → dot r x = dot r y
  | [],x,y,_=>rfl
  | a :: r,x,y,h=>by
    show a * x 0 + dot r (fun i=>x (i + 1)) = a * y 0 + dot r (fun i=>y (i + 1))
    rw [h 0 (by simp),dot_eq r (fun i=>x (i + 1)) (fun i=>y (i + 1)) fun j hj=>h (j + 1) (by simpa using hj)]
theorem sat_scale {x:Nat → Rat} {q:Rat} (hq:q ≠ 0) (r:Row):Sat x (scaleRow q r) ↔ Sat x r:=by
  unfold Sat scaleRow
  show dot (r.1.map fun z=>q * z) x = q * r.2 ↔ _
  rw [dot_scale]
  constructor
  · intro h;grind
  · intro h;rw [h]
theorem sat_clear {x:Nat → Rat} {c:Nat} {p r:Row} (hl:p.1.length = r.1.length) (hp:Sat x p):Sat x (clear c p r) ↔ Sat x r:=by
  unfold clear
  split
  · exact Iff.rfl
  · unfold Sat subRow scaleRow
    show dot (List.zipWith (fun x y=>x - y) r.1 (p.1.map fun z=>r.1.getD c 0 * z)) x = r.2 - r.1.getD c 0 * p.2 ↔ _
    rw [dot_sub _ _ _ (by simp [hl]),dot_scale,show dot p.1 x = p.2 from hp]
    constructor
    · intro h;grind
    · intro h;rw [h]
theorem len_scale (q:Rat) (r:Row):(scaleRow q r).1.length = r.1.length:=by simp [scaleRow]
theorem len_clear {c:Nat} {p r:Row} (hl:p.1.length = r.1.length):(clear c p r).1.length = r.1.length:=by
  unfold clear
  split
  · rfl
  · simp [subRow,scaleRow,hl]
theorem get_scale (q:Rat) (r:Row) (j:Nat):(scaleRow q r).1.getD j 0 = q * r.1.getD j 0:=by
  show (r.1.map fun z=>q * z).getD j 0 = _
  simp only [List.getD_eq_getElem?_getD,List.getElem?_map]
  cases r.1[j]? <;> simp
theorem get_clear {c:Nat} {p r:Row} (hl:p.1.length = r.1.length) (j:Nat):(clear c p r).1.getD j 0 = r.1.getD j 0 - r.1.getD c 0 * p.1.getD j 0:=by
  unfold clear
  split
  · rename_i h
    rw [h];grind
  · show (List.zipWith (fun x y=>x - y) r.1 (p.1.map fun z=>r.1.getD c 0 * z)).getD j 0 = _
    simp only [List.getD_eq_getElem?_getD,List.getElem?_zipWith,List.getElem?_map]
    by_cases hj:j < r.1.length
    · rw [List.getElem?_eq_getElem hj,List.getElem?_eq_getElem (show j < p.1.length by omega)]
      simp
    · rw [List.getElem?_eq_none (by omega),List.getElem?_eq_none (show p.1.length ≤ j by omega)]
      simp
      grind
structure Inv (m c:Nat) (done:List (Nat × Row)) (left:List Row):Prop where
  dl:∀ d ∈ done,d.2.1.length = m
  ll:∀ r ∈ left,r.1.length = m
  lz:∀ r ∈ left, ∀ j,j < c → r.1.getD j 0 = 0
  dc:∀ d ∈ done,d.1 < c ∧ d.2.1.getD d.1 0 = 1 ∧ ∀ j,j < d.1 → d.2.1.getD j 0 = 0
  dz:∀ d ∈ done, ∀ e ∈ done,d.1 ≠ e.1 → d.2.1.getD e.1 0 = 0
  inc:(done.map (·.1)).Pairwise (· < ·)
def All (x:Nat → Rat) (done:List (Nat × Row)) (left:List Row):Prop:=(∀ d ∈ done,Sat x d.2) ∧ ∀ r ∈ left,Sat x r
theorem step_piv {m c i:Nat} {done:List (Nat × Row)} {left:List Row} (I:Inv m c done left) (hc:c < m) (hi:i < left.length) (hn:(left.getD i ([],0)).1.getD c 0 ≠ 0) :
    Inv m (c + 1) ((done.map fun (x:Nat × Row)=>(x.1,clear c (scaleRow (1 / (left.getD i ([],0)).1.getD c 0) (left.getD i ([],0))) x.2)) ++ [(c,scaleRow (1 / (left.getD i ([],0)).1.getD c 0) (left.getD i ([],0)))]) ((left.eraseIdx i).map fun (r:Row)=>clear c (scaleRow (1 / (left.getD i ([],0)).1.getD c 0) (left.getD i ([],0))) r) ∧
    ∀ x,All x ((done.map fun (x:Nat × Row)=>(x.1,clear c (scaleRow (1 / (left.getD i ([],0)).1.getD c 0) (left.getD i ([],0))) x.2)) ++ [(c,scaleRow (1 / (left.getD i ([],0)).1.getD c 0) (left.getD i ([],0)))]) ((left.eraseIdx i).map fun (r:Row)=>clear c (scaleRow (1 / (left.getD i ([],0)).1.getD c 0) (left.getD i ([],0))) r) ↔ All x done left:=by
  have hmem:left.getD i ([],0) ∈ left:=by
    rw [List.getD_eq_getElem?_getD,List.getElem?_eq_getElem hi]
    exact List.getElem_mem hi
  generalize hr0:left.getD i ([],0) = r0 at *
  have hq:(1:Rat) / r0.1.getD c 0 ≠ 0:=by
    intro h
    have:r0.1.getD c 0 * (1 / r0.1.getD c 0) = 1:=by grind
    rw [h] at this
    grind
  generalize hp:scaleRow (1 / r0.1.getD c 0) r0 = p at *
  have pl:p.1.length = m:=by rw [← hp,len_scale];exact I.ll r0 hmem
  have pc:p.1.getD c 0 = 1:=by rw [← hp,get_scale];grind
  have pz:∀ j,j < c → p.1.getD j 0 = 0:=fun j hj=>by rw [← hp,get_scale,I.lz r0 hmem j hj];grind
  have dl:∀ d ∈ done,p.1.length = d.2.1.length:=fun d hd=>by rw [pl,I.dl d hd]
  have ll:∀ r ∈ left,p.1.length = r.1.length:=fun r hr=>by rw [pl,I.ll r hr]
  have sub:∀ r ∈ left.eraseIdx i,r ∈ left:=fun r hr=>List.mem_of_mem_eraseIdx hr
  have dpz:∀ d ∈ done,p.1.getD d.1 0 = 0:=fun d hd=>pz _ (I.dc d hd).1
  refine ⟨⟨?_, ?_, ?_, ?_, ?_, ?_⟩,fun x => ?_⟩
  · intro d hd
    rcases List.mem_append.mp hd with h | h
    · obtain ⟨d0,h0,rfl⟩:=List.mem_map.mp h
      rw [len_clear (dl d0 h0)];exact I.dl d0 h0
    · obtain rfl:=List.mem_singleton.mp h
      exact pl
  · intro r hr
    obtain ⟨r1,h1,rfl⟩:=List.mem_map.mp hr
    rw [len_clear (ll r1 (sub r1 h1))];exact I.ll r1 (sub r1 h1)
  · intro r hr j hj
    obtain ⟨r1,h1,rfl⟩:=List.mem_map.mp hr
    rw [get_clear (ll r1 (sub r1 h1))]
    by_cases hjc:j = c
    · subst hjc;rw [pc];grind
    · rw [pz j (by omega),I.lz r1 (sub r1 h1) j (by omega)];grind
  · intro d hd
    rcases List.mem_append.mp hd with h | h
    · obtain ⟨d0,h0,rfl⟩:=List.mem_map.mp h
      obtain ⟨a1,a2,a3⟩:=I.dc d0 h0
      refine ⟨by show d0.1 < c + 1;omega, ?_,fun j hj => ?_⟩
      · show (clear c p d0.2).1.getD d0.1 0 = 1
        rw [get_clear (dl d0 h0),dpz d0 h0,a2];grind
      · show (clear c p d0.2).1.getD j 0 = 0
        have hj:j < d0.1:=hj
        rw [get_clear (dl d0 h0),pz j (by omega),a3 j hj];grind
    · obtain rfl:=List.mem_singleton.mp h
      exact ⟨Nat.lt_succ_self _,pc,pz⟩
  · intro d hd e he hne
    rcases List.mem_append.mp hd with h | h
    · obtain ⟨d0,h0,rfl⟩:=List.mem_map.mp h
      rcases List.mem_append.mp he with h' | h'
      · obtain ⟨e0,g0,rfl⟩:=List.mem_map.mp h'
        show (clear c p d0.2).1.getD e0.1 0 = 0
        rw [get_clear (dl d0 h0),dpz e0 g0,I.dz d0 h0 e0 g0 hne];grind
      · obtain rfl:=List.mem_singleton.mp h'
        show (clear c p d0.2).1.getD c 0 = 0
        rw [get_clear (dl d0 h0),pc];grind
    · obtain rfl:=List.mem_singleton.mp h
      rcases List.mem_append.mp he with h' | h'
      · obtain ⟨e0,g0,rfl⟩:=List.mem_map.mp h'
        exact dpz e0 g0
      · obtain rfl:=List.mem_singleton.mp h'
        exact absurd rfl hne
  · rw [List.map_append,List.map_map,List.pairwise_append]
    refine ⟨I.inc,by simp,fun a ha b hb => ?_⟩
    obtain ⟨d0,h0,rfl⟩:=List.mem_map.mp ha
    obtain rfl:=List.mem_singleton.mp hb
    exact (I.dc d0 h0).1
  · have hsp:Sat x p ↔ Sat x r0:=by rw [← hp];exact sat_scale hq r0
    constructor
    · rintro ⟨h1,h2⟩
      have sp:Sat x p:=h1 (c,p) (List.mem_append_right _ (List.mem_singleton.mpr rfl))
      refine ⟨fun d hd=>(sat_clear (dl d hd) sp).mp (h1 (d.1,clear c p d.2) (List.mem_append_left _ (List.mem_map.mpr ⟨d,hd,rfl⟩))),fun r hr => ?_⟩
      by_cases hmr:r ∈ left.eraseIdx i
      · exact (sat_clear (ll r hr) sp).mp (h2 _ (List.mem_map.mpr ⟨r,hmr,rfl⟩))
      · have:r = r0:=by
          obtain ⟨j,hj,e⟩:=List.mem_iff_getElem.mp hr
          by_cases hji:j = i
          · subst hji
            rw [← hr0,List.getD_eq_getElem?_getD,List.getElem?_eq_getElem hj, ← e];rfl
          · exfalso
            apply hmr
            rw [List.mem_eraseIdx_iff_getElem]
            exact ⟨j,hj,hji,e⟩
        rw [this]
        exact hsp.mp sp
    · rintro ⟨h1,h2⟩
      have sp:Sat x p:=hsp.mpr (h2 r0 hmem)
      refine ⟨fun d hd => ?_,fun r hr => ?_⟩
      · rcases List.mem_append.mp hd with h | h
        · obtain ⟨d0,h0,rfl⟩:=List.mem_map.mp h
          exact (sat_clear (dl d0 h0) sp).mpr (h1 d0 h0)
        · obtain rfl:=List.mem_singleton.mp h
          exact sp
      · obtain ⟨r1,g1,rfl⟩:=List.mem_map.mp hr
        exact (sat_clear (ll r1 (sub r1 g1)) sp).mpr (h2 r1 (sub r1 g1))
theorem step_none {m c:Nat} {done:List (Nat × Row)} {left:List Row} (I:Inv m c done left) (h:∀ r ∈ left,r.1.getD c 0 = 0):Inv m (c + 1) done left :=
  ⟨I.dl,I.ll,fun r hr j hj=>by
    by_cases e:j = c
    · rw [e];exact h r hr
    · exact I.lz r hr j (by omega),fun d hd=>⟨Nat.lt_succ_of_lt (I.dc d hd).1,(I.dc d hd).2⟩,I.dz,I.inc⟩
theorem reduce_inv {m:Nat} : ∀ (f c:Nat) (done:List (Nat × Row)) (left:List Row),c + f = m → Inv m c done left →
    Inv m m (reduceFrom f c done left).1 (reduceFrom f c done left).2 ∧ (∀ x,All x (reduceFrom f c done left).1 (reduceFrom f c done left).2 ↔ All x done left) ∧ (reduceFrom f c done left).1.length + (reduceFrom f c done left).2.length = done.length + left.length
  | 0,c,done,left,e,I=>by
    have:c = m:=by omega
    subst this
    exact ⟨I,fun _=>Iff.rfl,rfl⟩
  | f + 1,c,done,left,e,I=>by
    rw [reduceFrom]
    cases hfi:left.findIdx? fun (r:Row)=>decide (r.1.getD c 0 ≠ 0) with
    | none =>
      have hz:∀ r ∈ left,r.1.getD c 0 = 0:=fun r hr=>by
        have:=List.findIdx?_eq_none_iff.mp hfi r hr
        simpa using this
      exact reduce_inv f (c + 1) done left (by omega) (step_none I hz)
    | some i =>
      obtain ⟨hi,h1,_⟩:=List.findIdx?_eq_some_iff_getElem.mp hfi
      have hn:(left.getD i ([],0)).1.getD c 0 ≠ 0:=by
        have e0:left.getD i ([],0) = left[i]:=by rw [List.getD_eq_getElem?_getD,List.getElem?_eq_getElem hi];rfl
        rw [e0]
        exact of_decide_eq_true h1
      obtain ⟨I',hs⟩:=step_piv I (by omega) hi hn
      obtain ⟨a,b,l⟩:=reduce_inv f (c + 1) _ _ (by omega) I'
      refine ⟨a,fun x=>(b x).trans (hs x), ?_⟩
      show _ = done.length + left.length
      refine l.trans ?_
      simp [List.length_eraseIdx,hi]
      omega
section
variable {m:Nat} {l:List Row}
theorem red_inv (hl:∀ r ∈ l,r.1.length = m):Inv m m (reduced m l).1 (reduced m l).2 ∧ (∀ x,All x (reduced m l).1 (reduced m l).2 ↔ ∀ r ∈ l,Sat x r) ∧ (reduced m l).1.length + (reduced m l).2.length = l.length:=by
  have I0:Inv m 0 [] l:=⟨by simp,hl,fun _ _ j hj=>absurd hj (Nat.not_lt_zero j),by simp,by simp,by simp⟩
  obtain ⟨a,b,c⟩:=reduce_inv m 0 [] l (by omega) I0
  exact ⟨a,fun x=>(b x).trans ⟨fun h=>h.2,fun h=>⟨by simp,h⟩⟩,c.trans (Nat.zero_add _)⟩
theorem left_sat {done:List (Nat × Row)} {left:List Row} (I:Inv m m done left) {r:Row} (hr:r ∈ left) (x:Nat → Rat):Sat x r ↔ r.2 = 0:=by
  unfold Sat
  rw [dot_zero r.1 x fun j hj=>by rw [I.lz r hr j (by rw [← I.ll r hr];exact hj)];grind]
  exact eq_comm
def fillR (done:List (Nat × Row)) (y:Nat → Rat):Nat → Rat:=fun j=>match done.find? fun d=>d.1 == j with
  | some d=>d.2.2 - dot d.2.1 (fun k=>if (done.any fun e=>e.1 == k) = true then 0 else y k)
  | none=>y j
theorem inc_inj {done:List (Nat × Row)} (h:(done.map (·.1)).Pairwise (· < ·)) {d e:Nat × Row} (hd:d ∈ done) (he:e ∈ done) (q:d.1 = e.1):d = e:=by
  induction done with
  | nil=>cases hd
  | cons a r ih =>
    rw [List.map_cons,List.pairwise_cons] at h
    rcases List.mem_cons.mp hd with e1 | hd1
    · rcases List.mem_cons.mp he with e2 | he2
      · rw [e1,e2]
      · have:=h.1 e.1 (List.mem_map.mpr ⟨e,he2,rfl⟩)
        rw [← e1] at this
        omega
    · rcases List.mem_cons.mp he with e2 | he2
      · have:=h.1 d.1 (List.mem_map.mpr ⟨d,hd1,rfl⟩)
        rw [← e2] at this
        omega
      · exact ih h.2 hd1 he2
end
def hom (r:Row):Row:=(r.1,0)
theorem hom_scale (q:Rat) (r:Row):hom (scaleRow q r) = scaleRow q (hom r):=by
  unfold hom scaleRow
  simp
theorem hom_clear (c:Nat) (p r:Row):hom (clear c p r) = clear c (hom p) (hom r):=by
  unfold clear
  show hom (if r.1.getD c 0 = 0 then r else _) = if r.1.getD c 0 = 0 then hom r else _
  split
  · rfl
  · unfold hom subRow scaleRow
    simp
    grind
theorem erase_map {α β : Type} (f : α → β):∀ (l:List α) (i:Nat),(l.map f).eraseIdx i = (l.eraseIdx i).map f
  | [],i=>rfl
  | a :: r,0=>rfl
  | a :: r,i + 1=>by
    show f a :: (r.map f).eraseIdx i = f a :: (r.eraseIdx i).map f
    rw [erase_map f r i]
theorem reduce_hom:∀ (f c:Nat) (done:List (Nat × Row)) (left:List Row),reduceFrom f c (done.map fun d=>(d.1,hom d.2)) (left.map hom) = ((reduceFrom f c done left).1.map fun d=>(d.1,hom d.2),(reduceFrom f c done left).2.map hom)
  | 0,c,done,left=>rfl
  | f + 1,c,done,left=>by
    rw [reduceFrom,reduceFrom]
    have e1:(left.map hom).findIdx? (fun (r:Row)=>decide (r.1.getD c 0 ≠ 0)) = left.findIdx? fun (r:Row)=>decide (r.1.getD c 0 ≠ 0):=by
      rw [List.findIdx?_map];rfl
    rw [e1]
    cases left.findIdx? fun (r:Row)=>decide (r.1.getD c 0 ≠ 0) with
    | none=>exact reduce_hom f (c + 1) done left
    | some i =>
      have e2:(left.map hom).getD i ([],0) = hom (left.getD i ([],0)):=by
        rw [List.getD_eq_getElem?_getD,List.getD_eq_getElem?_getD,List.getElem?_map]
        cases left[i]? <;> rfl
      have e3:(hom (left.getD i ([],0))).1 = (left.getD i ([],0)).1:=rfl
      show reduceFrom f (c + 1) _ _ = ((reduceFrom f (c + 1) _ _).1.map _,(reduceFrom f (c + 1) _ _).2.map _)
      rw [← reduce_hom f (c + 1),e2,e3]
      congr 1
      · rw [List.map_append,List.map_map,List.map_map, ← hom_scale]
        congr 1
        apply List.map_congr_left
        intro d _
        show (d.1,clear c (hom _) (hom d.2)) = (d.1,hom (clear c _ d.2))
        rw [hom_clear]
      · rw [List.map_map,erase_map,List.map_map, ← hom_scale]
        apply List.map_congr_left
        intro r _
        show clear c (hom _) (hom r) = hom (clear c _ r)
        rw [hom_clear]
theorem reduced_hom (m:Nat) (l:List Row):reduced m (l.map hom) = ((reduced m l).1.map fun d=>(d.1,hom d.2),(reduced m l).2.map hom):=reduce_hom m 0 [] l
def Ker (l:List Row) (x:Nat → Rat):Prop := ∀ r ∈ l,dot r.1 x = 0
def Free (m:Nat) (l:List Row) (c:Nat):Prop := ∃ x,Ker l x ∧ x c = 1 ∧ ∀ j,c < j → j < m → x j = 0
section
variable {m:Nat} {l:List Row}
theorem ker_iff (hl:∀ r ∈ l,r.1.length = m) (x:Nat → Rat):Ker l x ↔ ∀ d ∈ (reduced m l).1,dot d.2.1 x = 0:=by
  have hl':∀ r ∈ l.map hom,r.1.length = m:=fun r hr=>by
    obtain ⟨r0,h0,rfl⟩:=List.mem_map.mp hr
    exact hl r0 h0
  obtain ⟨I,hs,_⟩:=red_inv hl'
  have h1:Ker l x ↔ ∀ r ∈ l.map hom,Sat x r:=by
    constructor
    · intro h r hr
      obtain ⟨r0,h0,rfl⟩:=List.mem_map.mp hr
      exact h r0 h0
    · intro h r hr
      exact h (hom r) (List.mem_map.mpr ⟨r,hr,rfl⟩)
  rw [h1, ← hs]
  rw [reduced_hom] at I ⊢
  constructor
  · rintro ⟨a,_⟩ d hd
    exact a (d.1,hom d.2) (List.mem_map.mpr ⟨d,hd,rfl⟩)
  · intro a
    refine ⟨fun d hd => ?_,fun r hr => ?_⟩
    · obtain ⟨d0,h0,rfl⟩:=List.mem_map.mp hd
      exact a d0 h0
    · rw [left_sat I hr]
      obtain ⟨r0,h0,rfl⟩:=List.mem_map.mp hr
      rfl
theorem pivot_iff (hl:∀ r ∈ l,r.1.length = m) {c:Nat} (hc:c < m):(∃ d ∈ (reduced m l).1,d.1 = c) ↔ ¬ Free m l c:=by
  obtain ⟨I,_,_⟩:=red_inv hl
  constructor
  · rintro ⟨d,hd,rfl⟩ ⟨x,hx,h1,h2⟩
    obtain ⟨a1,a2,a3⟩:=I.dc d hd
    have z:=(ker_iff hl x).mp hx d hd
    rw [dot_one d.2.1 x d.1 (by rw [I.dl d hd];exact hc) (fun j hj hne => ?_),a2,h1] at z
    · grind
    · rw [I.dl d hd] at hj
      by_cases hlt:j < d.1
      · rw [a3 j hlt];grind
      · rw [h2 j (by omega) hj];grind
  · intro h
    refine Classical.byContradiction fun hn=>h ?_
    have hf:∀ d ∈ (reduced m l).1,d.1 ≠ c:=fun d hd q=>hn ⟨d,hd,q⟩
    let x:Nat → Rat:=fun j=>if j = c then 1 else match (reduced m l).1.find? fun d=>d.1 == j with
      | some d => -(d.2.1.getD c 0)
      | none=>0
    have xc:x c = 1:=if_pos rfl
    have xp:∀ d ∈ (reduced m l).1,x d.1 = -(d.2.1.getD c 0):=fun d hd=>by
      show (if d.1 = c then (1:Rat) else _) = _
      rw [if_neg (hf d hd)]
      cases hq:(reduced m l).1.find? fun e=>e.1 == d.1 with
      | none =>
        have:=List.find?_eq_none.mp hq d hd
        simp at this
      | some e =>
        have g1:=List.find?_some hq
        have g2:=List.mem_of_find?_eq_some hq
        have:e = d:=inc_inj I.inc g2 hd (by simpa using g1)
        rw [this]
    have x0:∀ j,j ≠ c → (∀ d ∈ (reduced m l).1,d.1 ≠ j) → x j = 0:=fun j hj hn'=>by
      show (if j = c then (1:Rat) else _) = _
      rw [if_neg hj]
      have:((reduced m l).1.find? fun e=>e.1 == j) = none:=List.find?_eq_none.mpr fun d hd=>by simpa using hn' d hd
      rw [this]
    refine ⟨x,(ker_iff hl x).mpr fun d hd => ?_,xc,fun j hj hm => ?_⟩
    · obtain ⟨a1,a2,a3⟩:=I.dc d hd
      have dl:=I.dl d hd
      rw [dot_two d.2.1 x d.1 c (by omega) (by omega) (hf d hd) (fun j hj n1 n2 => ?_),a2,xp d hd,xc]
      · grind
      · by_cases hp:∃ e ∈ (reduced m l).1,e.1 = j
        · obtain ⟨e,he,rfl⟩:=hp
          rw [I.dz d hd e he (Ne.symm n1)];grind
        · rw [x0 j n2 fun e he q=>hp ⟨e,he,q⟩];grind
    · by_cases hp:∃ e ∈ (reduced m l).1,e.1 = j
      · obtain ⟨e,he,rfl⟩:=hp
        rw [xp e he,(I.dc e he).2.2 c hj];grind
      · exact x0 j (by omega) fun e he q=>hp ⟨e,he,q⟩
theorem ker_lin {x y:Nat → Rat} (q:Rat) (hx:Ker l x) (hy:Ker l y):Ker l (fun i=>x i + q * y i):=fun r hr=>by
  rw [dot_addx,hx r hr]
  have e:dot r.1 (fun i=>q * y i) = q * dot r.1 y:=by
    have:∀ (r:List Rat) (y:Nat → Rat),dot r (fun i=>q * y i) = q * dot r y:=by
      intro r
      induction r with
      | nil=>intro y;show (0:Rat) = q * 0;grind
      | cons a r ih =>
        intro y
        show a * (q * y 0) + dot r (fun i=>q * y (i + 1)) = q * (a * y 0 + dot r (fun i=>y (i + 1)))
        rw [ih (fun i=>y (i + 1))];grind
    exact this r.1 y
  rw [e,hy r hr];grind
end
theorem inc_len:∀ (L:List Nat) (s t:Nat),L.Pairwise (· < ·) → (∀ a ∈ L,s ≤ a ∧ a < t) → L.length ≤ t - s
  | [],s,t,_,_=>Nat.zero_le _
  | a :: r,s,t,h,hb=>by
    rw [List.pairwise_cons] at h
    have h1:=hb a List.mem_cons_self
    have h2:=inc_len r (a + 1) t h.2 fun b hb'=>⟨h.1 b hb',(hb b (List.mem_cons_of_mem _ hb')).2⟩
    rw [List.length_cons]
    omega
theorem inc_range:∀ (L:List Nat) (b:Nat),L.Pairwise (· < ·) → (∀ a ∈ L,b ≤ a ∧ a < b + L.length) → L = List.range' b L.length
  | [],b,_,_=>rfl
  | a :: r,b,h,hb=>by
    rw [List.pairwise_cons] at h
    have h1:=hb a List.mem_cons_self
    have hr:∀ c ∈ r,a + 1 ≤ c ∧ c < b + (r.length + 1):=fun c hc=>⟨h.1 c hc,(hb c (List.mem_cons_of_mem _ hc)).2⟩
    have h2:=inc_len r (a + 1) (b + (r.length + 1)) h.2 hr
    have e:a = b:=by
      have z1:=h1.1
      have z2:=h1.2
      rw [List.length_cons] at z2
      omega
    subst e
    rw [List.length_cons,List.range'_succ, ← inc_range r (a + 1) h.2 fun c hc=>⟨(hr c hc).1,by have:=(hr c hc).2;omega⟩]
theorem inc_ext:∀ (L M:List Nat),L.Pairwise (· < ·) → M.Pairwise (· < ·) → (∀ a,a ∈ L ↔ a ∈ M) → L = M
  | [],[],_,_,_=>rfl
  | [],b :: s,_,_,h=>absurd ((h b).mpr List.mem_cons_self) (by simp)
  | a :: r,[],_,_,h=>absurd ((h a).mp List.mem_cons_self) (by simp)
  | a :: r,b :: s,h1,h2,h=>by
    rw [List.pairwise_cons] at h1 h2
    have e:a = b:=by
      rcases List.mem_cons.mp ((h a).mp List.mem_cons_self) with q | q
      · exact q
      · rcases List.mem_cons.mp ((h b).mpr List.mem_cons_self) with q' | q'
        · exact q'.symm
        · have:=h2.1 a q
          have:=h1.1 b q'
          omega
    subst e
    rw [inc_ext r s h1.2 h2.2 fun c => ?_]
    constructor
    · intro hc
      rcases List.mem_cons.mp ((h c).mp (List.mem_cons_of_mem _ hc)) with q | q
      · have:=h1.1 c hc;omega
      · exact q
    · intro hc
      rcases List.mem_cons.mp ((h c).mpr (List.mem_cons_of_mem _ hc)) with q | q
      · have:=h2.1 c hc;omega
      · exact q
section
variable {m:Nat} {l:List Row}
theorem rank_eq (hl:∀ r ∈ l,r.1.length = m) (p:Nat → Bool) (hp:∀ c,c < m → (p c = true ↔ ¬ Free m l c)):rank m l = ((List.range m).filter p).length:=by
  obtain ⟨I,_,_⟩:=red_inv hl
  have e:(reduced m l).1.map (·.1) = (List.range m).filter p:=by
    refine inc_ext _ _ I.inc (List.Pairwise.filter _ List.pairwise_lt_range) fun c => ?_
    rw [List.mem_map,List.mem_filter,List.mem_range]
    constructor
    · rintro ⟨d,hd,rfl⟩
      have hc:=(I.dc d hd).1
      exact ⟨hc,(hp _ hc).mpr ((pivot_iff hl hc).mp ⟨d,hd,rfl⟩)⟩
    · rintro ⟨hc,h⟩
      exact (pivot_iff hl hc).mpr ((hp c hc).mp h)
  unfold rank
  rw [← e,List.length_map]
theorem rank_full (hl:∀ r ∈ l,r.1.length = m):rank m l = m ↔ ∀ c,c < m → ¬ Free m l c:=by
  obtain ⟨I,_,_⟩:=red_inv hl
  constructor
  · intro h c hc
    have e:=inc_range ((reduced m l).1.map (·.1)) 0 I.inc (fun a ha=>by
      obtain ⟨d,hd,rfl⟩:=List.mem_map.mp ha
      have:=(I.dc d hd).1
      unfold rank at h
      rw [List.length_map]
      omega)
    have hmem:c ∈ (reduced m l).1.map (·.1):=by
      rw [e,List.mem_range'_1,List.length_map]
      unfold rank at h
      omega
    obtain ⟨d,hd,q⟩:=List.mem_map.mp hmem
    exact (pivot_iff hl hc).mp ⟨d,hd,q⟩
  · intro h
    rw [rank_eq hl (fun _=>true) fun c hc=>⟨fun _=>h c hc,fun _=>rfl⟩,List.filter_eq_self.mpr fun _ _=>rfl,List.length_range]
theorem ker_zero (h:∀ c,c < m → ¬ Free m l c) {x:Nat → Rat} (hx:Ker l x):∀ j,j < m → x j = 0:=by
  have key:∀ n,n ≤ m → (∀ j,n ≤ j → j < m → x j = 0) → ∀ j,j < m → x j = 0:=by
    intro n
    induction n with
    | zero=>intro _ hz j hj;exact hz j (Nat.zero_le _) hj
    | succ n ih =>
      intro hn hz
      refine ih (by omega) fun j hj hm => ?_
      by_cases e:j = n
      · subst e
        refine Classical.byContradiction fun hne=>h j hm ⟨fun i=>(1 / x j) * x i, ?_,by grind,fun i hi him=>by show 1 / x j * x i = 0;rw [hz i (by omega) him];grind⟩
        have:=ker_lin (l:=l) (1 / x j) (x:=fun _=>0) (y:=x) (fun r _=>dot_zero r.1 _ fun k _=>by grind) hx
        intro r hr
        have q:=this r hr
        have e0:(fun i=>(0:Rat) + 1 / x j * x i) = fun i=>1 / x j * x i:=by funext i;grind
        rw [e0] at q
        exact q
      · exact hz j (by omega) hm
  exact key m (Nat.le_refl _) fun j h1 h2=>by omega
theorem solve_iff (hl:∀ r ∈ l,r.1.length = m) (x:List Rat):solve m l = some x ↔ l.length = m ∧ (∀ c,c < m → ¬ Free m l c) ∧ x.length = m ∧ ∀ r ∈ l,Sat (fun i=>x.getD i 0) r:=by
  obtain ⟨I,hs,hlen⟩:=red_inv hl
  have main:l.length = m → rank m l = m → ((reduced m l).1.map fun (y:Nat × Row)=>y.2.2).length = m ∧ ∀ r ∈ l,Sat (fun i=>((reduced m l).1.map fun (y:Nat × Row)=>y.2.2).getD i 0) r:=by
    intro h1 h2
    unfold rank at h2
    have e:=inc_range ((reduced m l).1.map (·.1)) 0 I.inc (fun a ha=>by
      obtain ⟨d,hd,rfl⟩:=List.mem_map.mp ha
      have:=(I.dc d hd).1
      rw [List.length_map]
      omega)
    have hx:∀ d ∈ (reduced m l).1,((reduced m l).1.map fun (y:Nat × Row)=>y.2.2).getD d.1 0 = d.2.2:=fun d hd=>by
      obtain ⟨i,hi,q⟩:=List.mem_iff_getElem.mp hd
      have:d.1 = i:=by
        have z:((reduced m l).1.map (·.1))[i]? = some d.1:=by rw [List.getElem?_map,List.getElem?_eq_getElem hi,q];rfl
        rw [e,List.getElem?_range' (by rw [List.length_map];exact hi)] at z
        have:=Option.some.inj z
        omega
      rw [this,List.getD_eq_getElem?_getD,List.getElem?_map,List.getElem?_eq_getElem hi,q]
      rfl
    have hlz:(reduced m l).2 = []:=List.eq_nil_of_length_eq_zero (by omega)
    refine ⟨by rw [List.length_map];exact h2,(hs _).mp ⟨fun d hd => ?_,by rw [hlz];simp⟩⟩
    obtain ⟨a1,a2,a3⟩:=I.dc d hd
    unfold Sat
    rw [dot_one d.2.1 _ d.1 (by rw [I.dl d hd];exact a1) (fun j hj hne => ?_),a2,hx d hd]
    · grind
    · rw [I.dl d hd] at hj
      have hmem:j ∈ (reduced m l).1.map (·.1):=by rw [e,List.mem_range'_1,List.length_map];omega
      obtain ⟨d',hd',q⟩:=List.mem_map.mp hmem
      rw [← q,I.dz d hd d' hd' (by omega)];grind
  constructor
  · intro h
    unfold solve at h
    split at h
    · rename_i hc
      obtain ⟨m1,m2⟩:=main hc.2 hc.1
      have e:=Option.some.inj h
      subst e
      exact ⟨hc.2,(rank_full hl).mp hc.1,m1,m2⟩
    · cases h
  · rintro ⟨h1,h2,h3,h4⟩
    have hr:=(rank_full hl).mpr h2
    obtain ⟨m1,m2⟩:=main h1 hr
    unfold solve
    rw [if_pos ⟨hr,h1⟩]
    congr 1
    generalize ((reduced m l).1.map fun (y:Nat × Row)=>y.2.2) = y at *
    have hk:Ker l (fun i=>y.getD i 0 + (-1) * x.getD i 0):=fun r hr=>by
      rw [dot_addx]
      have e1:dot r.1 (fun i=>y.getD i 0) = r.2:=m2 r hr
      have e2:dot r.1 (fun i=>x.getD i 0) = r.2:=h4 r hr
      have e3:dot r.1 (fun i=>(-1) * x.getD i 0) = (-1) * dot r.1 (fun i=>x.getD i 0):=by
        have:∀ (r:List Rat) (y:Nat → Rat),dot r (fun i=>(-1) * y i) = (-1) * dot r y:=by
          intro r
          induction r with
          | nil=>intro y;show (0:Rat) = (-1) * 0;grind
          | cons a r ih =>
            intro y
            show a * ((-1) * y 0) + dot r (fun i=>(-1) * y (i + 1)) = (-1) * (a * y 0 + dot r (fun i=>y (i + 1)))
            rw [ih (fun i=>y (i + 1))];grind
        exact this r.1 _
      rw [e1,e3,e2];grind
    have hz:=ker_zero h2 hk
    apply List.ext_getElem (by omega)
    intro i hi1 hi2
    have:=hz i (by omega)
    simp only [List.getD_eq_getElem?_getD,List.getElem?_eq_getElem hi1,List.getElem?_eq_getElem hi2,Option.getD_some] at this
    grind
theorem solve_none (hl:∀ r ∈ l,r.1.length = m) (hm:l.length = m):solve m l = none ↔ ∃ c,c < m ∧ Free m l c:=by
  unfold solve
  constructor
  · intro h
    split at h
    · cases h
    · rename_i hc
      have:¬ rank m l = m:=fun z=>hc ⟨z,hm⟩
      rw [rank_full hl] at this
      refine Classical.byContradiction fun hn=>this fun c h1 h2=>hn ⟨c,h1,h2⟩
  · rintro ⟨c,h1,h2⟩
    rw [if_neg (fun z=>(rank_full hl).mp z.1 c h1 h2)]
end
end Lin

namespace NetL
open Wh Lin
def evalT (ts:List (Nat × Rat)) (x:Nat → Rat):Rat:=ts.foldr (fun t a=>t.2 * x t.1 + a) 0
theorem evalT_cons (t:Nat × Rat) (r:List (Nat × Rat)) (x:Nat → Rat):evalT (t :: r) x = t.2 * x t.1 + evalT r x:=rfl
theorem evalT_append:∀ (a b:List (Nat × Rat)) (x:Nat → Rat),evalT (a ++ b) x = evalT a x + evalT b x
  | [],b,x=>by show evalT b x = 0 + evalT b x;grind
  | t :: a,b,x=>by
    show t.2 * x t.1 + evalT (a ++ b) x = (t.2 * x t.1 + evalT a x) + evalT b x
    rw [evalT_append a b x];grind
theorem len_addAt (r:List Rat) (i:Nat) (q:Rat):(addAt r i q).length = r.length:=by simp [addAt]
theorem dot_set:∀ (r:List Rat) (x:Nat → Rat) (i:Nat) (q:Rat),i < r.length → dot (r.set i (r.getD i 0 + q)) x = dot r x + q * x i
  | [],x,i,q,h=>by simp at h
  | a :: r,x,0,q,_=>by
    show (a + q) * x 0 + dot r (fun i=>x (i + 1)) = (a * x 0 + dot r (fun i=>x (i + 1))) + q * x 0
    grind
  | a :: r,x,i + 1,q,h=>by
    show a * x 0 + dot (r.set i (r.getD i 0 + q)) (fun i=>x (i + 1)) = (a * x 0 + dot r (fun i=>x (i + 1))) + q * x (i + 1)
    rw [dot_set r (fun i=>x (i + 1)) i q (by simpa using h)]
    grind
theorem dot_addAt (r:List Rat) (x:Nat → Rat) (i:Nat) (q:Rat) (h:i < r.length):dot (addAt r i q) x = dot r x + q * x i:=dot_set r x i q h
theorem fold_len (s:Rat):∀ (ts:List (Nat × Rat)) (r:List Rat),(ts.foldl (fun (r:List Rat) (t:Nat × Rat)=>addAt r t.1 (s * t.2)) r).length = r.length
  | [],r=>rfl
  | t :: ts,r=>by rw [List.foldl_cons,fold_len s ts,len_addAt]
theorem fold_len1:∀ (ts:List (Nat × Rat)) (r:List Rat),(ts.foldl (fun (r:List Rat) (t:Nat × Rat)=>addAt r t.1 t.2) r).length = r.length
  | [],r=>rfl
  | t :: ts,r=>by rw [List.foldl_cons,fold_len1 ts,len_addAt]
theorem fold_addAt1:∀ (ts:List (Nat × Rat)) (r:List Rat) (x:Nat → Rat),(∀ t ∈ ts,t.1 < r.length) → dot (ts.foldl (fun (r:List Rat) (t:Nat × Rat)=>addAt r t.1 t.2) r) x = dot r x + evalT ts x
  | [],r,x,_=>by show dot r x = dot r x + 0;grind
  | t :: ts,r,x,h=>by
    rw [List.foldl_cons,fold_addAt1 ts (addAt r t.1 t.2) x fun u hu=>by rw [len_addAt];exact h u (List.mem_cons_of_mem _ hu),dot_addAt _ _ _ _ (h t List.mem_cons_self),evalT_cons]
    grind
theorem dot_rep (m:Nat) (x:Nat → Rat):dot (List.replicate m 0) x = 0:=dot_zero _ _ fun j hj=>by
  simp only [List.getD_eq_getElem?_getD,List.getElem?_replicate]
  split <;> simp <;> grind
theorem row_len (l:Law) (m:Nat) (s:Rat):(l.row m s).1.length = m:=by
  show (l.byS.foldl (fun (r:List Rat) (t:Nat × Rat)=>addAt r t.1 (s * t.2)) (l.terms.foldl (fun (r:List Rat) (t:Nat × Rat)=>addAt r t.1 t.2) (List.replicate m 0))).length = m
  rw [fold_len,fold_len1,List.length_replicate]
theorem laws_len (n:Net) (g:Setting) (k:Nat) (x:Elem):(n.lawsOf g k x).length = x.currents:=by
  unfold Net.lawsOf Elem.currents
  cases h:x.kind <;> simp
  all_goals (split <;> rfl)
theorem rows_len (n:Net) (g:Setting) (s:Rat):∀ r ∈ n.rows g s,r.1.length = n.unknowns:=fun r hr=>by
  obtain ⟨l,_,rfl⟩:=List.mem_map.mp hr
  exact row_len l _ s
theorem sum_fold:∀ (l:List Nat) (a:Nat),l.foldl (fun (a b:Nat)=>a + b) a = a + l.sum
  | [],a=>by simp
  | b :: r,a=>by rw [List.foldl_cons,sum_fold r,List.sum_cons];omega
theorem flat_len (n:Net) (g:Setting):∀ (es:List Elem) (k:Nat),(((es.zipIdx k).map fun (x:Elem × Nat)=>(x.2,x.1)).flatMap fun (p:Nat × Elem)=>n.lawsOf g p.1 p.2).length = (es.map Elem.currents).sum
  | [],k=>rfl
  | e :: es,k=>by
    rw [List.zipIdx_cons,List.map_cons,List.flatMap_cons,List.length_append,flat_len n g es (k + 1),laws_len,List.map_cons,List.sum_cons]
theorem rows_count (n:Net) (g:Setting) (s:Rat):(n.rows g s).length = n.unknowns:=by
  unfold Net.rows Net.laws Net.unknowns Net.at_ Net.indexed
  rw [List.length_map,List.length_append,List.length_map,List.length_range,flat_len,List.take_length]
  unfold sumNat
  rw [sum_fold]
  omega
end NetL


namespace Det
def ex (f:Nat → List Nat → Int):List Nat → Int
  | [] => 0
  | r :: rs=>f r rs - ex (fun a t=>f a (r :: t)) rs
def det (A:Nat → Nat → Int):List Nat → List Nat → Int
  | [],_=>1
  | c :: cs,rs=>ex (fun r t=>A r c * det A cs t) rs
theorem ex_add:∀ (rs:List Nat) (f g:Nat → List Nat → Int),ex (fun r t=>f r t + g r t) rs = ex f rs + ex g rs
  | [],_,_=>rfl
  | r :: rs,f,g=>by
    show f r rs + g r rs - ex (fun a t=>f a (r :: t) + g a (r :: t)) rs = (f r rs - ex (fun a t=>f a (r :: t)) rs) + (g r rs - ex (fun a t=>g a (r :: t)) rs)
    rw [ex_add rs (fun a t=>f a (r :: t)) (fun a t=>g a (r :: t))]
    omega
theorem ex_neg:∀ (rs:List Nat) (f:Nat → List Nat → Int),ex (fun r t => - f r t) rs = - ex f rs
  | [],_=>rfl
  | r :: rs,f=>by
    show - f r rs - ex (fun a t => - f a (r :: t)) rs = - (f r rs - ex (fun a t=>f a (r :: t)) rs)
    rw [ex_neg rs (fun a t=>f a (r :: t))]
    omega
theorem ex_mul (q:Int):∀ (rs:List Nat) (f:Nat → List Nat → Int),ex (fun r t=>q * f r t) rs = q * ex f rs
  | [],_=>by show (0:Int) = q * 0;omega
  | r :: rs,f=>by
    show q * f r rs - ex (fun a t=>q * f a (r :: t)) rs = q * (f r rs - ex (fun a t=>f a (r :: t)) rs)
    rw [ex_mul q rs (fun a t=>f a (r :: t)),Int.mul_sub]
theorem ex_swap:∀ (rs:List Nat) (g:Nat → Nat → List Nat → Int),ex (fun r t=>ex (fun s u=>g r s u) t) rs = - ex (fun r t=>ex (fun s u=>g s r u) t) rs
  | [],_=>rfl
  | a :: rs,g=>by
    show ex (fun s u=>g a s u) rs - ex (fun r t=>g r a t - ex (fun s u=>g r s (a :: u)) t) rs = - (ex (fun s u=>g s a u) rs - ex (fun r t=>g a r t - ex (fun s u=>g s r (a :: u)) t) rs)
    have e1:ex (fun r t=>g r a t - ex (fun s u=>g r s (a :: u)) t) rs = ex (fun r t=>g r a t) rs - ex (fun r t=>ex (fun s u=>g r s (a :: u)) t) rs:=by
      have:=ex_add rs (fun r t=>g r a t) (fun r t => - ex (fun s u=>g r s (a :: u)) t)
      rw [ex_neg] at this
      exact this
    have e2:ex (fun r t=>g a r t - ex (fun s u=>g s r (a :: u)) t) rs = ex (fun r t=>g a r t) rs - ex (fun r t=>ex (fun s u=>g s r (a :: u)) t) rs:=by
      have:=ex_add rs (fun r t=>g a r t) (fun r t => - ex (fun s u=>g s r (a :: u)) t)
      rw [ex_neg] at this
      exact this
    have ih:=ex_swap rs (fun r s u=>g r s (a :: u))
    rw [e1,e2,ih]
    omega
variable (A:Nat → Nat → Int)
theorem det_swap (c c':Nat) (cs rs:List Nat):det A (c :: c' :: cs) rs = - det A (c' :: c :: cs) rs:=by
  have h:=ex_swap rs (fun r s u=>A r c * (A s c' * det A cs u))
  have e1:det A (c :: c' :: cs) rs = ex (fun r t=>ex (fun s u=>A r c * (A s c' * det A cs u)) t) rs:=by
    show ex (fun r t=>A r c * ex (fun s u=>A s c' * det A cs u) t) rs = _
    congr 1
    funext r t
    exact (ex_mul _ t _).symm
  have e2:det A (c' :: c :: cs) rs = ex (fun r t=>ex (fun s u=>A s c * (A r c' * det A cs u)) t) rs:=by
    show ex (fun r t=>A r c' * ex (fun s u=>A s c * det A cs u) t) rs = _
    congr 1
    funext r t
    rw [← ex_mul]
    congr 1
    funext s u
    rw [← Int.mul_assoc, ← Int.mul_assoc,Int.mul_comm (A r c')]
  rw [e1,e2,h]
theorem det_cong (c:Nat) {cs ds:List Nat} {s:Int} (h:∀ rs,det A cs rs = s * det A ds rs) (rs:List Nat):det A (c :: cs) rs = s * det A (c :: ds) rs:=by
  show ex (fun r t=>A r c * det A cs t) rs = s * ex (fun r t=>A r c * det A ds t) rs
  rw [← ex_mul]
  congr 1
  funext r t
  rw [h t, ← Int.mul_assoc, ← Int.mul_assoc,Int.mul_comm s]
theorem det_dup2 (c:Nat) (cs rs:List Nat):det A (c :: c :: cs) rs = 0:=by
  have:=det_swap A c c cs rs
  omega
theorem det_mem (j:Nat):∀ (cs:List Nat),j ∈ cs → ∀ rs,det A (j :: cs) rs = 0
  | [],h=>absurd h (by simp)
  | c :: cs,h=>fun rs=>by
    rcases List.mem_cons.mp h with e | e
    · rw [e];exact det_dup2 A c cs rs
    · rw [det_swap]
      have:=det_cong A c (cs:=j :: cs) (ds:=cs) (s:=0) (fun rs=>by rw [det_mem j cs e rs];omega) rs
      rw [this]
      omega
def sg:List Nat → Nat → Int
  | [],_=>1
  | c :: cs,j=>if c = j then 1 else - sg cs j
theorem det_front (j:Nat):∀ (cs:List Nat),j ∈ cs → ∀ rs,det A (j :: cs.erase j) rs = sg cs j * det A cs rs
  | [],h=>absurd h (by simp)
  | c :: cs,h=>fun rs=>by
    by_cases e:c = j
    · subst e
      rw [List.erase_cons_head,sg,if_pos rfl];omega
    · have hm:j ∈ cs:=by
        rcases List.mem_cons.mp h with q | q
        · exact absurd q.symm e
        · exact q
      rw [List.erase_cons_tail (by simpa using e),det_swap,sg,if_neg e,det_cong A c (det_front j cs hm) rs]
      rw [Int.neg_mul]
theorem sg_sq:∀ (cs:List Nat) (j:Nat),sg cs j * sg cs j = 1
  | [],_=>rfl
  | c :: cs,j=>by
    unfold sg
    split
    · rfl
    · rw [Int.neg_mul_neg,sg_sq cs j]
theorem sg_abs (cs:List Nat) (j:Nat):(sg cs j).natAbs = 1:=by
  induction cs with
  | nil=>rfl
  | cons c cs ih =>
    unfold sg
    split
    · rfl
    · rw [Int.natAbs_neg,ih]
inductive Span:List Nat → (Nat → Int) → Prop
  | zero {rs:List Nat} {y:Nat → Int} : (∀ j,y j = 0) → Span rs y
  | add {rs:List Nat} {r:Nat} {y z:Nat → Int} (u:Int):r ∈ rs → Span rs z → (∀ j,y j = u * A r j + z j) → Span rs y
variable {A}
theorem Span.mono {rs ss:List Nat} {y:Nat → Int} (h:Span A rs y) (hs:∀ r ∈ rs,r ∈ ss):Span A ss y:=by
  induction h with
  | zero h=>exact .zero h
  | add u hr _ e ih=>exact .add u (hs _ hr) ih e
theorem Span.plus {rs:List Nat} {y z w:Nat → Int} (h:Span A rs y) (g:Span A rs z) (e:∀ j,w j = y j + z j):Span A rs w:=by
  induction h generalizing w with
  | zero h =>
    have:w = z:=by funext j;rw [e,h];omega
    exact this ▸ g
  | @add r y' z' u hr _ e' ih=>exact .add u hr (ih (w:=fun j=>z' j + z j) (fun j=>rfl)) fun j=>by rw [e,e'];omega
theorem Span.times {rs:List Nat} {y w:Nat → Int} (q:Int) (h:Span A rs y) (e:∀ j,w j = q * y j):Span A rs w:=by
  induction h generalizing w with
  | zero h=>exact .zero fun j=>by rw [e,h];omega
  | @add r y' z' u hr _ e' ih=>exact .add (q * u) hr (ih (w:=fun j=>q * z' j) (fun j=>rfl)) fun j=>by rw [e,e',Int.mul_add,Int.mul_assoc]
theorem Span.one {rs:List Nat} {r:Nat} (h:r ∈ rs):Span A rs (A r) := .add 1 h (.zero (y:=fun _=>0) fun _=>rfl) fun j=>by omega
theorem Span.split {rs ss:List Nat} {k:Nat} {y:Nat → Int} (h:Span A ss y) (e:ss = k :: rs):∃ u z,Span A rs z ∧ ∀ j,y j = u * A k j + z j:=by
  induction h with
  | zero h=>exact ⟨0,fun _=>0, .zero fun _=>rfl,fun j=>by rw [h];show (0:Int) = 0 * A k j + 0;omega⟩
  | @add r y z u hr _ e' ih =>
    obtain ⟨v,w,hw,ew⟩:=ih
    rw [e] at hr
    rcases List.mem_cons.mp hr with q | q
    · exact ⟨u + v,w,hw,fun j=>by rw [e',ew,q,Int.add_mul];omega⟩
    · exact ⟨v,fun j=>u * A r j + w j, .add u q hw fun j=>rfl,fun j=>by rw [e',ew];show _ = _ + (u * A r j + w j);omega⟩
theorem ex_span (g:List Nat → Int):∀ (rs ss:List Nat) (f:List Nat → List Nat),(∀ r ∈ rs,r ∈ ss) → Span A ss (fun j=>ex (fun r t=>A r j * g (f t)) rs)
  | [],ss,f,_ => .zero fun _=>rfl
  | r :: rs,ss,f,h=>by
    have ih:=ex_span g rs ss (fun t=>f (r :: t)) fun a ha=>h a (List.mem_cons_of_mem _ ha)
    have ih':=ih.times (-1) (w:=fun j => - ex (fun a t=>A a j * g (f (r :: t))) rs) (fun j=>by omega)
    exact .add (g (f rs)) (h r List.mem_cons_self) ih' fun j=>by
      show A r j * g (f rs) - ex (fun a t=>A a j * g (f (r :: t))) rs = g (f rs) * A r j + - ex (fun a t=>A a j * g (f (r :: t))) rs
      rw [Int.mul_comm];omega
theorem det_span (cs rs:List Nat):Span A rs (fun j=>det A (j :: cs) rs):=ex_span (det A cs) rs rs id fun _ h=>h
theorem det_low (cs rs:List Nat) (k:Nat):∃ z,Span A rs z ∧ ∀ j,det A (j :: cs) (k :: rs) = det A cs rs * A k j + z j:=by
  have h:=(ex_span (A:=A) (det A cs) rs rs (fun t=>k :: t) fun _ h=>h).times (-1) (w:=fun j => - ex (fun a t=>A a j * det A cs (k :: t)) rs) (fun j=>by omega)
  exact ⟨_,h,fun j=>by
    show A k j * det A cs rs - ex (fun a t=>A a j * det A cs (k :: t)) rs = _
    rw [Int.mul_comm];omega⟩
variable (A) in
def NS (cs rs:List Nat):Prop := ∀ y,Span A rs y → (∀ c ∈ cs,y c = 0) → ∀ j,y j = 0
theorem ns_nil:NS A [] []:=fun y h _=>by
  cases h with
  | zero h=>exact h
  | add u hr _ _=>exact absurd hr (by simp)
theorem mul_left_cancel0 {d y:Int} (hd:d ≠ 0) (h:d * y = 0):y = 0:=by
  rcases Int.mul_eq_zero.mp h with e | e
  · exact absurd e hd
  · exact e
theorem ns_step {cs rs:List Nat} {c k:Nat} (h:NS A cs rs) (hd:det A cs rs ≠ 0) (hp:det A (c :: cs) (k :: rs) ≠ 0):NS A (c :: cs) (k :: rs):=by
  intro y hy hz j
  obtain ⟨u,z,sz,ez⟩:=hy.split rfl
  obtain ⟨w,sw,ew⟩:=det_low (A:=A) cs rs k
  have hv:Span A rs (fun j=>det A cs rs * y j - u * det A (j :: cs) (k :: rs)) :=
    (sz.times (det A cs rs) (fun j=>rfl)).plus (sw.times (-u) (fun j=>rfl)) fun j=>by
      rw [ez,ew]
      grind
  have v0:=h _ hv fun c' hc'=>by
    show det A cs rs * y c' - u * det A (c' :: cs) (k :: rs) = 0
    rw [hz c' (List.mem_cons_of_mem _ hc'),det_mem A c' cs hc'];omega
  have hu:u = 0:=by
    have:=v0 c
    rw [hz c List.mem_cons_self] at this
    have:u * det A (c :: cs) (k :: rs) = 0:=by omega
    rcases Int.mul_eq_zero.mp this with e | e
    · exact e
    · exact absurd e hp
  have:=v0 j
  rw [hu] at this
  exact mul_left_cancel0 hd (by omega)
variable (A) in
def low (cs rs:List Nat) (k j:Nat):Int:=det A (j :: cs) (k :: rs)
variable (A) in
def topc (cs rs:List Nat) (c j:Nat):Int:=sg cs c * det A (j :: cs.erase c) rs
theorem topc_self {cs rs:List Nat} {c:Nat} (h:c ∈ cs):topc A cs rs c c = det A cs rs:=by
  unfold topc
  rw [det_front A c cs h, ← Int.mul_assoc,sg_sq];omega
theorem topc_other {cs rs:List Nat} {c c':Nat} (h:c' ∈ cs) (hn:c' ≠ c):topc A cs rs c c' = 0:=by
  unfold topc
  rw [det_mem A c' _ ((List.mem_erase_of_ne hn).mpr h)];omega
theorem topc_span (cs rs:List Nat) (c:Nat):Span A rs (fun j=>topc A cs rs c j):=(det_span (A:=A) (cs.erase c) rs).times (sg cs c) fun _=>rfl
theorem low_mem {cs rs:List Nat} {k c:Nat} (h:c ∈ cs):low A cs rs k c = 0:=det_mem A c cs h _
theorem step_low {cs rs:List Nat} {c k0 k:Nat} (h:NS A cs rs) (hd:det A cs rs ≠ 0) (hp:low A cs rs k0 c ≠ 0) (j:Nat) :
    low A cs rs k0 c * low A cs rs k j - low A cs rs k c * low A cs rs k0 j = det A cs rs * low A (c :: cs) (k0 :: rs) k j:=by
  have hns:=ns_step h hd hp
  obtain ⟨w,sw,ew⟩:=det_low (A:=A) cs rs k
  obtain ⟨w0,sw0,ew0⟩:=det_low (A:=A) cs rs k0
  obtain ⟨w1,sw1,ew1⟩:=det_low (A:=A) (c :: cs) (k0 :: rs) k
  have hm:∀ r ∈ rs,r ∈ k0 :: rs:=fun r hr=>List.mem_cons_of_mem _ hr
  have hk:Span A (k0 :: rs) (fun j=>low A cs rs k0 j):=((Span.one List.mem_cons_self).times (det A cs rs) (fun _=>rfl)).plus (sw0.mono hm) fun j=>ew0 j
  have hy:Span A (k0 :: rs) (fun j=>low A cs rs k0 c * low A cs rs k j - low A cs rs k c * low A cs rs k0 j - det A cs rs * low A (c :: cs) (k0 :: rs) k j):=by
    refine ((((sw.mono hm).times (low A cs rs k0 c) (fun _=>rfl)).plus (hk.times (- low A cs rs k c) (fun _=>rfl)) (fun _=>rfl)).plus (sw1.times (- det A cs rs) (fun _=>rfl)) fun j => ?_)
    show low A cs rs k0 c * det A (j :: cs) (k :: rs) - low A cs rs k c * low A cs rs k0 j - det A cs rs * det A (j :: c :: cs) (k :: k0 :: rs) = _
    rw [ew j,ew1 j]
    show _ - _ - det A cs rs * (low A cs rs k0 c * A k j + w1 j) = _
    grind
  have:=hns _ hy (fun c' hc'=>by
    show low A cs rs k0 c * low A cs rs k c' - low A cs rs k c * low A cs rs k0 c' - det A cs rs * low A (c :: cs) (k0 :: rs) k c' = 0
    rw [low_mem (cs:=c :: cs) hc']
    rcases List.mem_cons.mp hc' with e | e
    · subst e;rw [Int.mul_comm];omega
    · rw [low_mem e,low_mem e];omega) j
  omega
theorem step_top {cs rs:List Nat} {c k0 l:Nat} (h:NS A cs rs) (hd:det A cs rs ≠ 0) (hp:low A cs rs k0 c ≠ 0) (hl:l ∈ cs) (hc:c ∉ cs) (j:Nat) :
    low A cs rs k0 c * topc A cs rs l j - topc A cs rs l c * low A cs rs k0 j = det A cs rs * topc A (c :: cs) (k0 :: rs) l j:=by
  have hns:=ns_step h hd hp
  obtain ⟨w0,sw0,ew0⟩:=det_low (A:=A) cs rs k0
  have hm:∀ r ∈ rs,r ∈ k0 :: rs:=fun r hr=>List.mem_cons_of_mem _ hr
  have hk:Span A (k0 :: rs) (fun j=>low A cs rs k0 j):=((Span.one List.mem_cons_self).times (det A cs rs) (fun _=>rfl)).plus (sw0.mono hm) fun j=>ew0 j
  have hy:Span A (k0 :: rs) (fun j=>low A cs rs k0 c * topc A cs rs l j - topc A cs rs l c * low A cs rs k0 j - det A cs rs * topc A (c :: cs) (k0 :: rs) l j) :=
    ((((topc_span cs rs l).mono hm).times (low A cs rs k0 c) (fun _=>rfl)).plus (hk.times (- topc A cs rs l c) (fun _=>rfl)) (fun _=>rfl)).plus ((topc_span (c :: cs) (k0 :: rs) l).times (- det A cs rs) (fun _=>rfl)) fun j=>by grind
  have hlc:l ≠ c:=fun e=>hc (e ▸ hl)
  have:=hns _ hy (fun c' hc'=>by
    show low A cs rs k0 c * topc A cs rs l c' - topc A cs rs l c * low A cs rs k0 c' - det A cs rs * topc A (c :: cs) (k0 :: rs) l c' = 0
    by_cases e:c' = l
    · subst e
      rw [topc_self hc',topc_self hl,low_mem hl]
      show low A cs rs k0 c * det A cs rs - _ - det A cs rs * low A cs rs k0 c = 0
      rw [Int.mul_comm];omega
    · rw [topc_other hc' e]
      rcases List.mem_cons.mp hc' with q | q
      · subst q;rw [Int.mul_comm];omega
      · rw [topc_other q e,low_mem q];omega) j
  omega
theorem step_new {cs rs:List Nat} {c k0:Nat} (j:Nat):topc A (c :: cs) (k0 :: rs) c j = low A cs rs k0 j:=by
  unfold topc low
  rw [sg,if_pos rfl,List.erase_cons_head];omega
theorem ex_abs (b:Nat):∀ (rs:List Nat) (f:Nat → List Nat → Int),(∀ r ∈ rs, ∀ t:List Nat,(∀ a ∈ t,a ∈ rs) → t.length < rs.length → (f r t).natAbs ≤ b) → (ex f rs).natAbs ≤ rs.length * b
  | [],f,_=>by simp [ex]
  | r :: rs,f,h=>by
    have h1:=h r List.mem_cons_self rs (fun a ha=>List.mem_cons_of_mem _ ha) (by simp)
    have h2:=ex_abs b rs (fun a t=>f a (r :: t)) fun a ha t ht hl=>h a (List.mem_cons_of_mem _ ha) (r :: t) (fun x hx=>by
      rcases List.mem_cons.mp hx with e | e
      · rw [e];exact List.mem_cons_self
      · exact List.mem_cons_of_mem _ (ht x e)) (by simpa using hl)
    show (f r rs - ex (fun a t=>f a (r :: t)) rs).natAbs ≤ (rs.length + 1) * b
    rw [Nat.add_mul]
    omega
theorem det_abs (m b:Nat):∀ (cs rs:List Nat),rs.length ≤ m → (∀ r ∈ rs, ∀ c ∈ cs,(A r c).natAbs ≤ b) → (det A cs rs).natAbs ≤ (m * b) ^ cs.length
  | [],rs,_,_=>by simp [det]
  | c :: cs,rs,hm,h=>by
    have:=ex_abs (b * (m * b) ^ cs.length) rs (fun r t=>A r c * det A cs t) fun r hr t ht hl=>by
      rw [Int.natAbs_mul]
      exact Nat.mul_le_mul (h r hr c List.mem_cons_self) (det_abs m b cs t (by omega) fun a ha c' hc'=>h a (ht a ha) c' (List.mem_cons_of_mem _ hc'))
    refine Nat.le_trans this ?_
    rw [List.length_cons,Nat.pow_succ,Nat.mul_comm ((m * b) ^ cs.length),Nat.mul_assoc m b]
    exact Nat.mul_le_mul_right _ hm
theorem det_abs1 (m b b1:Nat) (c:Nat) (cs rs:List Nat) (hm:rs.length ≤ m) (h1:∀ r ∈ rs,(A r c).natAbs ≤ b1) (h:∀ r ∈ rs, ∀ c ∈ cs,(A r c).natAbs ≤ b):(det A (c :: cs) rs).natAbs ≤ m * b1 * (m * b) ^ cs.length:=by
  have:=ex_abs (b1 * (m * b) ^ cs.length) rs (fun r t=>A r c * det A cs t) fun r hr t ht hl=>by
    rw [Int.natAbs_mul]
    exact Nat.mul_le_mul (h1 r hr) (det_abs m b cs t (by omega) fun a ha c' hc'=>h a (ht a ha) c' hc')
  refine Nat.le_trans this ?_
  rw [Nat.mul_assoc m b1]
  exact Nat.mul_le_mul_right _ hm
end Det

namespace Red
open Det
structure St where
  rows:List (List Int)
  rank:Nat
  div:Int
def ent (rows:List (List Int)) (i j:Nat):Int:=(rows.getD i []).getD j 0
def clr (p r:List Int) (c:Nat) (d:Int):List Int:=(r.zip p).map fun (x:Int × Int)=>(p.getD c 0 * x.1 - r.getD c 0 * x.2).fdiv d
def place (rows:List (List Int)) (start c:Nat):Option Nat:=(List.range' start (rows.length - start)).find? fun k=>decide (ent rows k c ≠ 0)
def exch (rows:List (List Int)) (a b:Nat):List (List Int):=(rows.set a (rows.getD b [])).set b (rows.getD a [])
def clrAll (rows:List (List Int)) (k c:Nat) (d:Int):List (List Int):=rows.mapIdx fun i r=>if i = k then r else clr (rows.getD k []) r c d
def step (s:St) (c:Nat):St:=match place s.rows s.rank c with
  | none=>s
  | some k=>⟨clrAll (exch s.rows s.rank k) s.rank c s.div,s.rank + 1,ent (exch s.rows s.rank k) s.rank c⟩
def rdot:List Int → (Nat → Rat) → Rat
  | [],_=>0
  | a :: r,x=>(a:Rat) * x 0 + rdot r (fun i=>x (i + 1))
def Sol (x:Nat → Rat) (rows:List (List Int)):Prop := ∀ r ∈ rows,rdot r x = 0
theorem rdot_comb (p f d:Int) (x:Nat → Rat):∀ (n r q:List Int),r.length = q.length → n.length = r.length → (∀ j,d * n.getD j 0 = p * r.getD j 0 - f * q.getD j 0) → (d:Rat) * rdot n x = p * rdot r x - f * rdot q x
  | [],[],[],_,_,_=>by show (d:Rat) * 0 = p * 0 - f * 0;grind
  | [],_ :: _,_,_,h,_=>by simp at h
  | _ :: _,[],_,_,h,_=>by simp at h
  | _,[],_ :: _,h,_,_=>by simp at h
  | _,_ :: _,[],h,_,_=>by simp at h
  | a :: n,b :: r,e :: q,h1,h2,h=>by
    have ih:=rdot_comb p f d (fun i=>x (i + 1)) n r q (by simpa using h1) (by simpa using h2) fun j=>h (j + 1)
    have h0:d * a = p * b - f * e:=h 0
    have h0':(d:Rat) * a = p * b - f * e:=by exact_mod_cast h0
    show (d:Rat) * ((a:Rat) * x 0 + rdot n (fun i=>x (i + 1))) = p * ((b:Rat) * x 0 + rdot r (fun i=>x (i + 1))) - f * ((e:Rat) * x 0 + rdot q (fun i=>x (i + 1)))
    grind
theorem getD_set {α : Type} (l:List α) (a i:Nat) (v d : α):(l.set a v).getD i d = if i = a ∧ a < l.length then v else l.getD i d:=by
  simp only [List.getD_eq_getElem?_getD,List.getElem?_set]
  by_cases h:a = i
  · subst h
    by_cases h2:a < l.length
    · simp [h2]
    · simp [h2]
  · rw [if_neg h,if_neg (fun z=>h z.1.symm)]
theorem getD_exch {rows:List (List Int)} {a b:Nat} (ha:a < rows.length) (hb:b < rows.length) (i:Nat):(exch rows a b).getD i [] = if i = b then rows.getD a [] else if i = a then rows.getD b [] else rows.getD i []:=by
  unfold exch
  rw [getD_set,getD_set,List.length_set]
  by_cases h:i = b
  · simp [h,hb]
  · by_cases h2:i = a
    · simp [h2,ha,hb]
    · simp [h,h2]
theorem len_exch (rows:List (List Int)) (a b:Nat):(exch rows a b).length = rows.length:=by simp [exch]
theorem getD_clrAll {rows:List (List Int)} {k c:Nat} {d:Int} {i:Nat} (h:i < rows.length):(clrAll rows k c d).getD i [] = if i = k then rows.getD i [] else clr (rows.getD k []) (rows.getD i []) c d:=by
  unfold clrAll
  simp only [List.getD_eq_getElem?_getD,List.getElem?_mapIdx,List.getElem?_eq_getElem h]
  simp
theorem len_clrAll (rows:List (List Int)) (k c:Nat) (d:Int):(clrAll rows k c d).length = rows.length:=by simp [clrAll]
theorem len_clr (p r:List Int) (c:Nat) (d:Int):(clr p r c d).length = min r.length p.length:=by simp [clr]
theorem getD_clr {p r:List Int} {c:Nat} {d:Int} {j:Nat} (h1:j < r.length) (h2:j < p.length):(clr p r c d).getD j 0 = (p.getD c 0 * r.getD j 0 - r.getD c 0 * p.getD j 0).fdiv d:=by
  unfold clr
  have hz:j < (r.zip p).length:=by rw [List.length_zip];omega
  rw [List.getD_eq_getElem?_getD,List.getElem?_map,List.getElem?_eq_getElem hz,List.getElem_zip,List.getD_eq_getElem?_getD (l:=r) (i:=j),List.getElem?_eq_getElem h1,List.getD_eq_getElem?_getD (l:=p) (i:=j),List.getElem?_eq_getElem h2]
  rfl
theorem mem_getD {α : Type} {l:List α} {d x : α} : x ∈ l ↔ ∃ i,i < l.length ∧ l.getD i d = x:=by
  rw [List.mem_iff_getElem]
  constructor
  · rintro ⟨i,h,e⟩;exact ⟨i,h,by rw [List.getD_eq_getElem?_getD,List.getElem?_eq_getElem h];exact e⟩
  · rintro ⟨i,h,e⟩;refine ⟨i,h, ?_⟩;rw [List.getD_eq_getElem?_getD,List.getElem?_eq_getElem h] at e;exact e
theorem place_none {rows:List (List Int)} {start c:Nat} (h:place rows start c = none):∀ k,start ≤ k → k < rows.length → ent rows k c = 0:=fun k h1 h2=>by
  have:=List.find?_eq_none.mp h k (by rw [List.mem_range'_1];omega)
  simpa using this
theorem place_some {rows:List (List Int)} {start c k:Nat} (h:place rows start c = some k):start ≤ k ∧ k < rows.length ∧ ent rows k c ≠ 0:=by
  have h1:=List.mem_of_find?_eq_some h
  have h2:=List.find?_some h
  rw [List.mem_range'_1] at h1
  exact ⟨h1.1,by omega,of_decide_eq_true h2⟩
theorem place_is {rows:List (List Int)} {start c k:Nat} (h1:start ≤ k) (h2:k < rows.length) (h3:ent rows k c ≠ 0) (h4:∀ i,start ≤ i → i < k → ent rows i c = 0):place rows start c = some k:=by
  unfold place
  have e:List.range' start (rows.length - start) = List.range' start (k - start) ++ k :: List.range' (k + 1) (rows.length - (k + 1)):=by
    rw [show rows.length - start = (k - start) + (1 + (rows.length - (k + 1))) by omega,List.range'_append_1.symm,show start + (k - start) = k by omega]
    congr 1
    rw [Nat.add_comm 1,List.range'_succ]
  rw [e,List.find?_append,List.find?_eq_none.mpr fun i hi=>by
    rw [List.mem_range'_1] at hi
    simp [h4 i hi.1 (by omega)]]
  simp [h3]
theorem place_no {rows:List (List Int)} {start c:Nat} (h4:∀ i,start ≤ i → i < rows.length → ent rows i c = 0):place rows start c = none:=by
  unfold place
  refine List.find?_eq_none.mpr fun i hi => ?_
  rw [List.mem_range'_1] at hi
  simp [h4 i hi.1 (by omega)]
structure Inv (rows0:List (List Int)) (m w c:Nat) (s:St) (cs rs:List Nat) (π : Nat → Nat):Prop where
  len:s.rows.length = m
  wid:∀ i,i < m → (s.rows.getD i []).length = w
  csl:cs.length = s.rank
  rsl:rs.length = s.rank
  rm:s.rank ≤ m
  cs1:∀ x ∈ cs,x < c
  csp:cs.Pairwise (· > ·)
  rs1:∀ x ∈ rs,x < m
  d:s.div = det (ent rows0) cs rs
  d0:s.div ≠ 0
  ns:NS (ent rows0) cs rs
  top:∀ i,i < s.rank → ∀ j,j < w → ent s.rows i j = topc (ent rows0) cs rs (cs.getD (s.rank - 1 - i) 0) j
  low:∀ i,s.rank ≤ i → i < m → π i < m ∧ ∀ j,j < w → ent s.rows i j = Det.low (ent rows0) cs rs (π i) j
  lz:∀ i,s.rank ≤ i → i < m → ∀ j,j < c → ent s.rows i j = 0
  tz:∀ i,i < s.rank → ∀ j,j < cs.getD (s.rank - 1 - i) 0 → ent s.rows i j = 0
  sol:∀ x,Sol x s.rows ↔ Sol x rows0
theorem inv_start {rows0:List (List Int)} {m w:Nat} (hl:rows0.length = m) (hw:∀ r ∈ rows0,r.length = w):Inv rows0 m w 0 ⟨rows0,0,1⟩ [] [] id where
  len:=hl
  wid:=fun i hi=>hw _ (mem_getD.mpr ⟨i,by omega,rfl⟩)
  csl:=rfl
  rsl:=rfl
  rm:=Nat.zero_le _
  cs1:=by simp
  csp := .nil
  rs1:=by simp
  d:=rfl
  d0:=by show (1:Int) ≠ 0;decide
  ns:=ns_nil
  top:=fun i hi=>absurd hi (Nat.not_lt_zero i)
  low:=fun i _ hi=>⟨hi,fun j _=>by
    show ent rows0 i j = ent rows0 i j * 1 - 0
    omega⟩
  lz:=fun _ _ _ j hj=>absurd hj (Nat.not_lt_zero j)
  tz:=fun i hi=>absurd hi (Nat.not_lt_zero i)
  sol:=fun _=>Iff.rfl
theorem inv_none {rows0:List (List Int)} {m w c:Nat} {s:St} {cs rs:List Nat} {π : Nat → Nat} (I:Inv rows0 m w c s cs rs π) (h:place s.rows s.rank c = none):Inv rows0 m w (c + 1) s cs rs π :=
  { I with
    cs1:=fun x hx=>Nat.lt_succ_of_lt (I.cs1 x hx)
    lz:=fun i h1 h2 j hj=>by
      by_cases e:j = c
      · rw [e];exact place_none h i h1 (by rw [I.len];exact h2)
      · exact I.lz i h1 h2 j (by omega) }
theorem fdiv_of {d x n:Int} (hd:d ≠ 0) (h:x = d * n):x.fdiv d = n:=by rw [h];exact Int.mul_fdiv_cancel_left n hd
theorem inv_piv {rows0:List (List Int)} {m w c k:Nat} {s:St} {cs rs:List Nat} {π : Nat → Nat} (I:Inv rows0 m w c s cs rs π) (hc:c < w) (h:place s.rows s.rank c = some k) :
    Inv rows0 m w (c + 1) (step s c) (c :: cs) (π k :: rs) (fun i=>if i = k then π s.rank else π i) ∧
    ∀ i,i < m → i ≠ s.rank → ∀ j,j < w → s.div * ent (clrAll (exch s.rows s.rank k) s.rank c s.div) i j = ent (exch s.rows s.rank k) s.rank c * ent (exch s.rows s.rank k) i j - ent (exch s.rows s.rank k) i c * ent (exch s.rows s.rank k) s.rank j:=by
  obtain ⟨k1,k2,k3⟩:=place_some h
  rw [I.len] at k2
  have hr:s.rank < m:=by omega
  have hst:step s c = ⟨clrAll (exch s.rows s.rank k) s.rank c s.div,s.rank + 1,ent (exch s.rows s.rank k) s.rank c⟩:=by unfold step;rw [h]
  have gx:∀ i,(exch s.rows s.rank k).getD i [] = if i = k then s.rows.getD s.rank [] else if i = s.rank then s.rows.getD k [] else s.rows.getD i []:=getD_exch (by rw [I.len];exact hr) (by rw [I.len];exact k2)
  have lx:(exch s.rows s.rank k).length = m:=by rw [len_exch,I.len]
  have gp:(exch s.rows s.rank k).getD s.rank [] = s.rows.getD k []:=by
    rw [gx]
    by_cases e:s.rank = k
    · rw [if_pos e,e]
    · rw [if_neg e,if_pos rfl]
  have wx:∀ i,i < m → ((exch s.rows s.rank k).getD i []).length = w:=fun i hi=>by
    rw [gx]
    split
    · exact I.wid _ hr
    · split
      · exact I.wid _ k2
      · exact I.wid _ hi
  have pj:∀ j,j < w → ent (exch s.rows s.rank k) s.rank j = Det.low (ent rows0) cs rs (π k) j:=fun j hj=>by
    unfold ent
    rw [gp]
    exact (I.low k k1 k2).2 j hj
  have hp:Det.low (ent rows0) cs rs (π k) c ≠ 0:=by rw [← (I.low k k1 k2).2 c hc];exact k3
  have hd:det (ent rows0) cs rs ≠ 0:=I.d ▸ I.d0
  have hcn:c ∉ cs:=fun hm=>Nat.lt_irrefl _ (I.cs1 c hm)
  have lo:∀ i,s.rank + 1 ≤ i → i < m → ∀ j,j < w → ent (exch s.rows s.rank k) i j = Det.low (ent rows0) cs rs (if i = k then π s.rank else π i) j:=fun i h1 h2 j hj=>by
    unfold ent
    rw [gx]
    by_cases e:i = k
    · rw [if_pos e,if_pos e];exact (I.low s.rank (Nat.le_refl _) hr).2 j hj
    · rw [if_neg e,if_neg (by omega),if_neg e];exact (I.low i (by omega) h2).2 j hj
  have hi':∀ i,i < s.rank → ∀ j,ent (exch s.rows s.rank k) i j = ent s.rows i j:=fun i h1 j=>by
    unfold ent
    rw [gx,if_neg (by omega),if_neg (by omega)]
  have mcs:∀ i,i < s.rank → cs.getD (s.rank - 1 - i) 0 ∈ cs:=fun i h1=>mem_getD.mpr ⟨_,by rw [I.csl];omega,rfl⟩
  have raw:∀ i,i < m → i ≠ s.rank → ∀ j,j < w → ent (clrAll (exch s.rows s.rank k) s.rank c s.div) i j = (ent (exch s.rows s.rank k) s.rank c * ent (exch s.rows s.rank k) i j - ent (exch s.rows s.rank k) i c * ent (exch s.rows s.rank k) s.rank j).fdiv s.div:=fun i h1 h2 j hj=>by
    show ((clrAll (exch s.rows s.rank k) s.rank c s.div).getD i []).getD j 0 = _
    rw [getD_clrAll (by rw [lx];exact h1),if_neg h2,getD_clr (by rw [wx i h1];exact hj) (by rw [wx _ hr];exact hj)]
    rfl
  have own:∀ j,ent (clrAll (exch s.rows s.rank k) s.rank c s.div) s.rank j = ent (exch s.rows s.rank k) s.rank j:=fun j=>by
    show ((clrAll (exch s.rows s.rank k) s.rank c s.div).getD s.rank []).getD j 0 = _
    rw [getD_clrAll (by rw [lx];exact hr),if_pos rfl]
    rfl
  have eT:∀ i,i < s.rank → ∀ j,j < w → ent (exch s.rows s.rank k) s.rank c * ent (exch s.rows s.rank k) i j - ent (exch s.rows s.rank k) i c * ent (exch s.rows s.rank k) s.rank j = s.div * topc (ent rows0) (c :: cs) (π k :: rs) (cs.getD (s.rank - 1 - i) 0) j:=fun i h1 j hj=>by
    rw [pj c hc,pj j hj,hi' i h1,hi' i h1,I.top i h1 j hj,I.top i h1 c hc,I.d]
    exact step_top I.ns hd hp (mcs i h1) hcn j
  have eL:∀ i,s.rank + 1 ≤ i → i < m → ∀ j,j < w → ent (exch s.rows s.rank k) s.rank c * ent (exch s.rows s.rank k) i j - ent (exch s.rows s.rank k) i c * ent (exch s.rows s.rank k) s.rank j = s.div * Det.low (ent rows0) (c :: cs) (π k :: rs) (if i = k then π s.rank else π i) j:=fun i h1 h2 j hj=>by
    rw [pj c hc,pj j hj,lo i h1 h2 j hj,lo i h1 h2 c hc,I.d]
    exact step_low I.ns hd hp j
  have nT:∀ i,i < s.rank → ∀ j,j < w → ent (clrAll (exch s.rows s.rank k) s.rank c s.div) i j = topc (ent rows0) (c :: cs) (π k :: rs) (cs.getD (s.rank - 1 - i) 0) j:=fun i h1 j hj=>by
    rw [raw i (by omega) (by omega) j hj]
    exact fdiv_of I.d0 (eT i h1 j hj)
  have nL:∀ i,s.rank + 1 ≤ i → i < m → ∀ j,j < w → ent (clrAll (exch s.rows s.rank k) s.rank c s.div) i j = Det.low (ent rows0) (c :: cs) (π k :: rs) (if i = k then π s.rank else π i) j:=fun i h1 h2 j hj=>by
    rw [raw i h2 (by omega) j hj]
    exact fdiv_of I.d0 (eL i h1 h2 j hj)
  have eX:∀ i,i < m → i ≠ s.rank → ∀ j,j < w → s.div * ent (clrAll (exch s.rows s.rank k) s.rank c s.div) i j = ent (exch s.rows s.rank k) s.rank c * ent (exch s.rows s.rank k) i j - ent (exch s.rows s.rank k) i c * ent (exch s.rows s.rank k) s.rank j:=fun i h1 h2 j hj=>by
    by_cases e:i < s.rank
    · rw [nT i e j hj,eT i e j hj]
    · rw [nL i (by omega) h1 j hj,eL i (by omega) h1 j hj]
  have wn:∀ i,i < m → ((clrAll (exch s.rows s.rank k) s.rank c s.div).getD i []).length = w:=fun i hi=>by
    rw [getD_clrAll (by rw [lx];exact hi)]
    split
    · exact wx i hi
    · rw [len_clr,wx i hi,wx _ hr,Nat.min_self]
  have p0:ent (exch s.rows s.rank k) s.rank c ≠ 0:=by rw [pj c hc];exact hp
  have pz:∀ j,j < c → ent (exch s.rows s.rank k) s.rank j = 0:=fun j hj=>by
    unfold ent
    rw [gp]
    exact I.lz k k1 k2 j hj
  have gcs:∀ i,i < s.rank → (c :: cs).getD (s.rank + 1 - 1 - i) 0 = cs.getD (s.rank - 1 - i) 0:=fun i h1=>by
    have:s.rank + 1 - 1 - i = (s.rank - 1 - i) + 1:=by omega
    rw [this];rfl
  have gcs0:(c :: cs).getD (s.rank + 1 - 1 - s.rank) 0 = c:=by
    have:s.rank + 1 - 1 - s.rank = 0:=by omega
    rw [this];rfl
  refine ⟨?_,eX⟩
  rw [hst]
  refine ⟨by show (clrAll _ _ _ _).length = m;rw [len_clrAll,lx],wn,by simp [I.csl],by simp [I.rsl],hr, ?_, ?_, ?_, ?_,p0,ns_step I.ns hd hp, ?_, ?_, ?_, ?_, ?_⟩
  · intro x hx
    rcases List.mem_cons.mp hx with e | e
    · omega
    · have:=I.cs1 x e;omega
  · exact List.pairwise_cons.mpr ⟨fun x hx=>I.cs1 x hx,I.csp⟩
  · intro x hx
    rcases List.mem_cons.mp hx with e | e
    · rw [e];exact (I.low k k1 k2).1
    · exact I.rs1 x e
  · exact pj c hc
  · intro i hi j hj
    show ent (clrAll _ _ _ _) i j = topc _ _ _ ((c :: cs).getD (s.rank + 1 - 1 - i) 0) j
    by_cases e:i = s.rank
    · subst e
      rw [own,pj j hj,gcs0,step_new]
    · have hi:i < s.rank + 1:=hi
      rw [nT i (by omega) j hj,gcs i (by omega)]
  · intro i h1 h2
    have h1:s.rank + 1 ≤ i:=h1
    refine ⟨?_,fun j hj=>nL i h1 h2 j hj⟩
    show (if i = k then π s.rank else π i) < m
    split
    · exact (I.low s.rank (Nat.le_refl _) hr).1
    · exact (I.low i (by omega) h2).1
  · intro i h1 h2 j hj
    have h1:s.rank + 1 ≤ i:=h1
    show ent (clrAll _ _ _ _) i j = 0
    rw [nL i h1 h2 j (by omega)]
    by_cases e:j = c
    · rw [e];exact low_mem List.mem_cons_self
    · refine mul_left_cancel0 I.d0 ?_
      rw [← eL i h1 h2 j (by omega),pz j (by omega)]
      have:ent (exch s.rows s.rank k) i j = 0:=by
        unfold ent
        rw [gx]
        by_cases e2:i = k
        · rw [if_pos e2];exact I.lz _ (Nat.le_refl _) hr j (by omega)
        · rw [if_neg e2,if_neg (by omega)];exact I.lz i (by omega) h2 j (by omega)
      rw [this]
      omega
  · intro i hi j hj
    have hi:i < s.rank + 1:=hi
    show ent (clrAll _ _ _ _) i j = 0
    have hj:j < (c :: cs).getD (s.rank + 1 - 1 - i) 0:=hj
    by_cases e:i = s.rank
    · subst e
      rw [gcs0] at hj
      rw [own];exact pz j hj
    · rw [gcs i (by omega)] at hj
      have hjc:j < c:=by have:=I.cs1 _ (mcs i (by omega));omega
      refine mul_left_cancel0 I.d0 ?_
      rw [eX i (by omega) e j (by omega),hi' i (by omega),I.tz i (by omega) j hj,pz j hjc]
      omega
  · intro x
    refine Iff.trans ?_ (I.sol x)
    have sx:Sol x (exch s.rows s.rank k) ↔ Sol x s.rows:=by
      constructor
      · intro hs r hrm
        obtain ⟨i,h1,rfl⟩:=(mem_getD (d:=([] : List Int))).mp hrm
        rw [I.len] at h1
        by_cases e1:i = k
        · have:=hs _ ((mem_getD (d:=([] : List Int))).mpr ⟨s.rank,by rw [lx];exact hr,rfl⟩)
          rw [gp] at this
          rw [e1];exact this
        · by_cases e2:i = s.rank
          · have:=hs _ ((mem_getD (d:=([] : List Int))).mpr ⟨k,by rw [lx];exact k2,rfl⟩)
            rw [gx,if_pos rfl] at this
            rw [e2];exact this
          · have:=hs _ ((mem_getD (d:=([] : List Int))).mpr ⟨i,by rw [lx];exact h1,rfl⟩)
            rw [gx,if_neg e1,if_neg e2] at this
            exact this
      · intro hs r hrm
        obtain ⟨i,h1,rfl⟩:=(mem_getD (d:=([] : List Int))).mp hrm
        rw [lx] at h1
        rw [gx]
        split
        · exact hs _ ((mem_getD (d:=([] : List Int))).mpr ⟨s.rank,by rw [I.len];exact hr,rfl⟩)
        · split
          · exact hs _ ((mem_getD (d:=([] : List Int))).mpr ⟨k,by rw [I.len];exact k2,rfl⟩)
          · exact hs _ ((mem_getD (d:=([] : List Int))).mpr ⟨i,by rw [I.len];exact h1,rfl⟩)
    refine Iff.trans ?_ sx
    show Sol x (clrAll (exch s.rows s.rank k) s.rank c s.div) ↔ _
    have hdq:((s.div:Int):Rat) ≠ 0:=by
      intro z
      apply I.d0
      exact_mod_cast z
    have hpq:((ent (exch s.rows s.rank k) s.rank c:Int):Rat) ≠ 0:=by
      intro z
      apply p0
      exact_mod_cast z
    have comb:∀ i,i < m → i ≠ s.rank → (s.div:Rat) * rdot ((clrAll (exch s.rows s.rank k) s.rank c s.div).getD i []) x = (ent (exch s.rows s.rank k) s.rank c:Rat) * rdot ((exch s.rows s.rank k).getD i []) x - (ent (exch s.rows s.rank k) i c:Rat) * rdot ((exch s.rows s.rank k).getD s.rank []) x:=fun i h1 h2=>by
      refine rdot_comb _ _ _ x _ _ _ (by rw [wx i h1,wx _ hr]) (by rw [wn i h1,wx i h1]) fun j => ?_
      by_cases hj:j < w
      · exact eX i h1 h2 j hj
      · rw [List.getD_eq_getElem?_getD,List.getElem?_eq_none (by rw [wn i h1];omega),List.getD_eq_getElem?_getD,List.getElem?_eq_none (by rw [wx i h1];omega),List.getD_eq_getElem?_getD (i:=j),List.getElem?_eq_none (by rw [wx _ hr];omega)]
        simp
    have ownr:(clrAll (exch s.rows s.rank k) s.rank c s.div).getD s.rank [] = (exch s.rows s.rank k).getD s.rank []:=by rw [getD_clrAll (by rw [lx];exact hr),if_pos rfl]
    have lc:(clrAll (exch s.rows s.rank k) s.rank c s.div).length = m:=by rw [len_clrAll,lx]
    constructor
    · intro hs
      have hown:=hs _ ((mem_getD (d:=([] : List Int))).mpr ⟨s.rank,by rw [lc];exact hr,rfl⟩)
      rw [ownr] at hown
      intro r hrm
      obtain ⟨i,h1,rfl⟩:=(mem_getD (d:=([] : List Int))).mp hrm
      rw [lx] at h1
      by_cases e:i = s.rank
      · rw [e];exact hown
      · have h2:=hs _ ((mem_getD (d:=([] : List Int))).mpr ⟨i,by rw [lc];exact h1,rfl⟩)
        have h3:=comb i h1 e
        rw [h2,hown] at h3
        grind
    · intro hs
      have hown:=hs _ ((mem_getD (d:=([] : List Int))).mpr ⟨s.rank,by rw [lx];exact hr,rfl⟩)
      intro r hrm
      obtain ⟨i,h1,rfl⟩:=(mem_getD (d:=([] : List Int))).mp hrm
      rw [lc] at h1
      by_cases e:i = s.rank
      · rw [e,ownr];exact hown
      · have h2:=hs _ ((mem_getD (d:=([] : List Int))).mpr ⟨i,by rw [lx];exact h1,rfl⟩)
        have h3:=comb i h1 e
        rw [h2,hown] at h3
        grind
theorem inv_step {rows0:List (List Int)} {m w c:Nat} {s:St} {cs rs:List Nat} {π : Nat → Nat} (I:Inv rows0 m w c s cs rs π) (hc:c < w):∃ cs' rs' π',Inv rows0 m w (c + 1) (step s c) cs' rs' π':=by
  cases h:place s.rows s.rank c with
  | none =>
    have:step s c = s:=by unfold step;rw [h]
    rw [this]
    exact ⟨cs,rs, π,inv_none I h⟩
  | some k=>exact ⟨_,_,_,(inv_piv I hc h).1⟩
def upto (rows:List (List Int)) (n:Nat):St:=(List.range n).foldl step ⟨rows,0,1⟩
theorem upto_succ (rows:List (List Int)) (n:Nat):upto rows (n + 1) = step (upto rows n) n:=by
  unfold upto
  rw [List.range_succ,List.foldl_append];rfl
theorem inv_upto {rows0:List (List Int)} {m w:Nat} (hl:rows0.length = m) (hw:∀ r ∈ rows0,r.length = w):∀ n,n ≤ w → ∃ cs rs π,Inv rows0 m w n (upto rows0 n) cs rs π
  | 0,_=>⟨_,_,_,inv_start hl hw⟩
  | n + 1,h=>by
    obtain ⟨cs,rs, π,I⟩:=inv_upto hl hw n (by omega)
    rw [upto_succ]
    exact inv_step I (by omega)
structure Sized (rows0:List (List Int)) (m u b b1:Nat):Prop where
  small:∀ i,i < m → ∀ j,j < u → (ent rows0 i j).natAbs ≤ b
  last:∀ i,i < m → (ent rows0 i u).natAbs ≤ b1
theorem inv_size {rows0:List (List Int)} {m u n b b1:Nat} {s:St} {cs rs:List Nat} {π : Nat → Nat} (I:Inv rows0 m (u + 1) n s cs rs π) (hn:n ≤ u) (z:Sized rows0 m u b b1) (hm:1 ≤ m * b) :
    s.div.natAbs ≤ (m * b) ^ (u + 1) ∧ (∀ i,i < m → ∀ j,j < u → (ent s.rows i j).natAbs ≤ (m * b) ^ (u + 1)) ∧ ∀ i,i < m → (ent s.rows i u).natAbs ≤ m * b1 * (m * b) ^ (u + 1):=by
  have cl:cs.length ≤ u:=by
    have:∀ (l:List Nat) (c:Nat),l.Pairwise (· > ·) → (∀ x ∈ l,x < c) → l.length ≤ c:=by
      intro l
      induction l with
      | nil=>intro c _ _;exact Nat.zero_le _
      | cons a l ih =>
        intro c hp hb
        rw [List.pairwise_cons] at hp
        have h1:=ih a hp.2 hp.1
        have h2:=hb a List.mem_cons_self
        rw [List.length_cons];omega
    have:=this cs n I.csp I.cs1
    omega
  have rl:rs.length ≤ m:=by rw [I.rsl];exact I.rm
  have mono:∀ {a:Nat},a ≤ u + 1 → (m * b) ^ a ≤ (m * b) ^ (u + 1):=fun ha=>Nat.pow_le_pow_right hm ha
  have hb:∀ r ∈ rs, ∀ c ∈ cs,(ent rows0 r c).natAbs ≤ b:=fun r hr c hc=>z.small r (I.rs1 r hr) c (by have:=I.cs1 c hc;omega)
  have er:∀ x,(cs.erase x).length ≤ u:=fun x=>Nat.le_trans (List.length_erase_le) cl
  refine ⟨?_,fun i hi j hj => ?_,fun i hi => ?_⟩
  · rw [I.d]
    exact Nat.le_trans (det_abs m b cs rs rl hb) (mono (by omega))
  · by_cases h:i < s.rank
    · rw [I.top i h j (by omega)]
      unfold topc
      rw [Int.natAbs_mul,sg_abs,Nat.one_mul]
      refine Nat.le_trans (det_abs m b _ rs rl fun r hr c hc => ?_) (mono (by rw [List.length_cons];have:=er (cs.getD (s.rank - 1 - i) 0);omega))
      rcases List.mem_cons.mp hc with e | e
      · rw [e];exact z.small r (I.rs1 r hr) j hj
      · exact hb r hr c (List.mem_of_mem_erase e)
    · have:=I.low i (by omega) hi
      rw [this.2 j (by omega)]
      unfold Det.low
      have hrk:s.rank < m:=by omega
      refine Nat.le_trans (det_abs m b _ _ (by rw [List.length_cons,I.rsl];omega) fun r hr c hc => ?_) (mono (by rw [List.length_cons];omega))
      refine z.small r ?_ c ?_
      · rcases List.mem_cons.mp hr with e | e
        · rw [e];exact this.1
        · exact I.rs1 r e
      · rcases List.mem_cons.mp hc with e | e
        · rw [e];exact hj
        · have:=I.cs1 c e;omega
  · by_cases h:i < s.rank
    · rw [I.top i h u (by omega)]
      unfold topc
      rw [Int.natAbs_mul,sg_abs,Nat.one_mul]
      refine Nat.le_trans (det_abs1 m b b1 u _ rs rl (fun r hr=>z.last r (I.rs1 r hr)) fun r hr c hc=>hb r hr c (List.mem_of_mem_erase hc)) (Nat.mul_le_mul_left _ (mono (by have:=er (cs.getD (s.rank - 1 - i) 0);omega)))
    · have:=I.low i (by omega) hi
      rw [this.2 u (by omega)]
      unfold Det.low
      have hrk:s.rank < m:=by omega
      have hx:∀ r ∈ π i :: rs,r < m:=fun r hr=>by
        rcases List.mem_cons.mp hr with e | e
        · rw [e];exact this.1
        · exact I.rs1 r e
      refine Nat.le_trans (det_abs1 m b b1 u _ _ (by rw [List.length_cons,I.rsl];omega) (fun r hr=>z.last r (hx r hr)) fun r hr c hc=>z.small r (hx r hr) c (by have:=I.cs1 c hc;omega)) (Nat.mul_le_mul_left _ (mono (by omega)))
end Red

namespace RedL
open Wh Lin Red Det
def rats (r:List Int):List Rat:=r.map fun (a:Int)=>(a:Rat)
theorem rdot_dot:∀ (r:List Int) (x:Nat → Rat),rdot r x = dot (rats r) x
  | [],_=>rfl
  | a :: r,x=>by
    show (a:Rat) * x 0 + rdot r _ = (a:Rat) * x 0 + dot (rats r) _
    rw [rdot_dot r]
theorem rats_len (r:List Int):(rats r).length = r.length:=by simp [rats]
theorem rats_get (r:List Int) (j:Nat):(rats r).getD j 0 = ((r.getD j 0:Int):Rat):=by
  unfold rats
  simp only [List.getD_eq_getElem?_getD,List.getElem?_map]
  cases r[j]? <;> simp
def Like (u:Nat) (r:List Int) (a:Row):Prop:=r.length = u + 1 ∧ a.1.length = u ∧ ∃ b:Rat,b ≠ 0 ∧ ∀ y:Nat → Rat,rdot r y = b * (dot a.1 y - a.2 * y u)
inductive Alike (u:Nat):List (List Int) → List Row → Prop
  | nil:Alike u [] []
  | cons {r:List Int} {a:Row} {rs:List (List Int)} {as:List Row} : Like u r a → Alike u rs as → Alike u (r :: rs) (a :: as)
theorem Alike.append {u:Nat} {rs ss:List (List Int)} {as bs:List Row} (h:Alike u rs as) (g:Alike u ss bs):Alike u (rs ++ ss) (as ++ bs):=by
  induction h with
  | nil=>exact g
  | cons h _ ih=>exact .cons h ih
theorem Alike.len {u:Nat} {rs:List (List Int)} {as:List Row} (h:Alike u rs as):rs.length = as.length:=by
  induction h with
  | nil=>rfl
  | cons _ _ ih=>simp [ih]
theorem Alike.wid {u:Nat} {rs:List (List Int)} {as:List Row} (h:Alike u rs as):∀ r ∈ rs,r.length = u + 1:=by
  induction h with
  | nil=>simp
  | cons h _ ih =>
    intro r hr
    rcases List.mem_cons.mp hr with e | e
    · rw [e];exact h.1
    · exact ih r e
theorem Alike.widR {u:Nat} {rs:List (List Int)} {as:List Row} (h:Alike u rs as):∀ a ∈ as,a.1.length = u:=by
  induction h with
  | nil=>simp
  | cons h _ ih =>
    intro r hr
    rcases List.mem_cons.mp hr with e | e
    · rw [e];exact h.2.1
    · exact ih r e
theorem Alike.sol {u:Nat} {rs:List (List Int)} {as:List Row} (h:Alike u rs as) (y:Nat → Rat):Sol y rs ↔ ∀ a ∈ as,dot a.1 y = a.2 * y u:=by
  induction h with
  | nil=>exact ⟨fun _=>by simp,fun _=>by simp [Sol]⟩
  | @cons r a rs as h _ ih =>
    obtain ⟨_,_,b,hb,e⟩:=h
    have e0:rdot r y = 0 ↔ dot a.1 y = a.2 * y u:=by
      rw [e y]
      constructor
      · intro z;grind
      · intro z;rw [z];grind
    constructor
    · intro hs x hx
      rcases List.mem_cons.mp hx with q | q
      · rw [q];exact e0.mp (hs r List.mem_cons_self)
      · exact ih.mp (fun r' hr'=>hs r' (List.mem_cons_of_mem _ hr')) x q
    · intro hs x hx
      rcases List.mem_cons.mp hx with q | q
      · rw [q];exact e0.mpr (hs a List.mem_cons_self)
      · exact ih.mpr (fun r' hr'=>hs r' (List.mem_cons_of_mem _ hr')) x q
def ext (u:Nat) (x:Nat → Rat) (t:Rat):Nat → Rat:=fun j=>if j = u then t else x j
theorem sol_ext {u:Nat} {rs:List (List Int)} {as:List Row} (h:Alike u rs as) (x:Nat → Rat) (t:Rat):Sol (ext u x t) rs ↔ ∀ a ∈ as,dot a.1 x = a.2 * t:=by
  rw [h.sol]
  have e:∀ a ∈ as,dot a.1 (ext u x t) = dot a.1 x:=fun a ha=>dot_eq _ _ _ fun j hj=>by
    rw [h.widR a ha] at hj
    unfold ext
    rw [if_neg (by omega)]
  have e2:ext u x t u = t:=by unfold ext;rw [if_pos rfl]
  rw [e2]
  exact ⟨fun hs a ha=>(e a ha) ▸ hs a ha,fun hs a ha=>(e a ha).symm ▸ hs a ha⟩
section
variable {u m:Nat} {rows0:List (List Int)} {l:List Row} {cs rs:List Nat} {π : Nat → Nat} {s:St}
theorem top_piv (I:Inv rows0 m (u + 1) u s cs rs π) {i:Nat} (hi:i < s.rank):ent s.rows i (cs.getD (s.rank - 1 - i) 0) = s.div:=by
  have hm:cs.getD (s.rank - 1 - i) 0 ∈ cs:=mem_getD.mpr ⟨_,by rw [I.csl];omega,rfl⟩
  rw [I.top i hi _ (by have:=I.cs1 _ hm;omega),topc_self hm,I.d]
theorem top_oth (I:Inv rows0 m (u + 1) u s cs rs π) {i c:Nat} (hi:i < s.rank) (hc:c ∈ cs) (hn:c ≠ cs.getD (s.rank - 1 - i) 0):ent s.rows i c = 0:=by
  rw [I.top i hi _ (by have:=I.cs1 _ hc;omega),topc_other hc hn]
theorem piv_row (I:Inv rows0 m (u + 1) u s cs rs π) {c:Nat} (hc:c ∈ cs):∃ i,i < s.rank ∧ cs.getD (s.rank - 1 - i) 0 = c:=by
  obtain ⟨k,h1,h2⟩:=(mem_getD (d:=0)).mp hc
  rw [I.csl] at h1
  exact ⟨s.rank - 1 - k,by omega,by rw [show s.rank - 1 - (s.rank - 1 - k) = k by omega];exact h2⟩
theorem rdot_row (I:Inv rows0 m (u + 1) u s cs rs π) {i:Nat} (hi:i < m) (x:Nat → Rat):rdot (s.rows.getD i []) x = dot (rats (s.rows.getD i [])) x ∧ (rats (s.rows.getD i [])).length = u + 1 ∧ ∀ j,(rats (s.rows.getD i [])).getD j 0 = ((ent s.rows i j:Int):Rat) :=
  ⟨rdot_dot _ _,by rw [rats_len];exact I.wid i hi,fun j=>rats_get _ j⟩
theorem low_sol (I:Inv rows0 m (u + 1) u s cs rs π) {i:Nat} (h:s.rank ≤ i) (hi:i < m) (x:Nat → Rat):rdot (s.rows.getD i []) x = (ent s.rows i u:Rat) * x u:=by
  obtain ⟨e1,e2,e3⟩:=rdot_row I hi x
  rw [e1,dot_one _ _ u (by omega) (fun j hj hne => ?_),e3]
  rw [e3,I.lz i h hi j (by omega)]
  simp
def pivs (s:St) (cs:List Nat) (c:Nat):Nat → Rat:=fun j=>if j = c then 1 else if j ∈ cs then - ((ent s.rows (s.rank - 1 - cs.idxOf j) c:Int):Rat) / (s.div:Rat) else 0
theorem top_sol (I:Inv rows0 m (u + 1) u s cs rs π) {i c:Nat} (hi:i < s.rank) (hc:c ∉ cs) (hu:c < u + 1):rdot (s.rows.getD i []) (pivs s cs c) = 0:=by
  have him:i < m:=by have:=I.rm;omega
  obtain ⟨e1,e2,e3⟩:=rdot_row I him (pivs s cs c)
  have hm:cs.getD (s.rank - 1 - i) 0 ∈ cs:=mem_getD.mpr ⟨_,by rw [I.csl];omega,rfl⟩
  have hp:=I.cs1 _ hm
  have hne:cs.getD (s.rank - 1 - i) 0 ≠ c:=fun z=>hc (z ▸ hm)
  have nd:cs.Nodup:=I.csp.imp fun h=>Nat.ne_of_gt h
  have ix:cs.idxOf (cs.getD (s.rank - 1 - i) 0) = s.rank - 1 - i:=by
    have hlt:s.rank - 1 - i < cs.length:=by rw [I.csl];omega
    rw [List.getD_eq_getElem?_getD,List.getElem?_eq_getElem hlt]
    exact nd.idxOf_getElem _ hlt
  have dq:((s.div:Int):Rat) ≠ 0:=fun z=>I.d0 (by exact_mod_cast z)
  rw [e1,dot_two _ _ (cs.getD (s.rank - 1 - i) 0) c (by omega) (by omega) hne (fun j hj n1 n2 => ?_),e3,e3,top_piv I hi]
  · have v1:pivs s cs c (cs.getD (s.rank - 1 - i) 0) = - ((ent s.rows i c:Int):Rat) / (s.div:Rat):=by
      unfold pivs
      rw [if_neg hne,if_pos hm,ix,show s.rank - 1 - (s.rank - 1 - i) = i by omega]
    have v2:pivs s cs c c = 1:=by unfold pivs;rw [if_pos rfl]
    rw [v1,v2]
    grind
  · rw [e3]
    by_cases hj:j ∈ cs
    · rw [top_oth I hi hj n1];simp
    · unfold pivs
      rw [if_neg n2,if_neg hj];grind
variable (al:Alike u rows0 l) (I:Inv rows0 m (u + 1) u s cs rs π)
include al I
theorem ker_iff (x:Nat → Rat):Ker l x ↔ Sol (ext u x 0) s.rows:=by
  rw [I.sol,sol_ext al]
  exact ⟨fun h a ha=>by rw [h a ha];grind,fun h a ha=>by rw [h a ha];grind⟩
theorem sat_iff (x:Nat → Rat):(∀ r ∈ l,Sat x r) ↔ Sol (ext u x 1) s.rows:=by
  rw [I.sol,sol_ext al]
  exact ⟨fun h a ha=>by rw [h a ha];grind,fun h a ha=>by unfold Sat;rw [h a ha];grind⟩
theorem free_iff {c:Nat} (hc:c < u):Free u l c ↔ c ∉ cs:=by
  constructor
  · rintro ⟨x,hk,hx,hz⟩ hm
    rw [ker_iff al I] at hk
    obtain ⟨i,hi,ei⟩:=piv_row I hm
    have him:i < m:=by have:=I.rm;omega
    have h0:=hk _ ((mem_getD (d:=([] : List Int))).mpr ⟨i,by rw [I.len];exact him,rfl⟩)
    obtain ⟨e1,e2,e3⟩:=rdot_row I him (ext u x 0)
    rw [e1,dot_one _ _ c (by omega) (fun j hj hne => ?_),e3] at h0
    · have q:ent s.rows i c = s.div:=by rw [← ei];exact top_piv I hi
      have q2:ext u x 0 c = 1:=by unfold ext;rw [if_neg (by omega)];exact hx
      rw [q,q2] at h0
      apply I.d0
      have:((s.div:Int):Rat) = 0:=by grind
      exact_mod_cast this
    · rw [e3]
      by_cases h1:j < c
      · rw [I.tz i hi j (by rw [ei];exact h1)];simp
      · have:ext u x 0 j = 0:=by
          unfold ext
          split
          · rfl
          · exact hz j (by omega) (by omega)
        rw [this];grind
  · intro hn
    refine ⟨pivs s cs c, ?_,by unfold pivs;rw [if_pos rfl],fun j h1 h2 => ?_⟩
    · rw [ker_iff al I]
      have e:ext u (pivs s cs c) 0 = pivs s cs c:=by
        funext j
        unfold ext
        split
        · rename_i hj
          unfold pivs
          rw [if_neg (by omega),if_neg (fun z=>by have:=I.cs1 _ z;omega)]
        · rfl
      rw [e]
      intro r hr
      obtain ⟨i,h1,rfl⟩:=(mem_getD (d:=([] : List Int))).mp hr
      rw [I.len] at h1
      by_cases hi:i < s.rank
      · exact top_sol I hi hn (by omega)
      · rw [low_sol I (by omega) h1]
        have:pivs s cs c u = 0:=by
          unfold pivs
          rw [if_neg (by omega),if_neg (fun z=>by have:=I.cs1 _ z;omega)]
        rw [this];grind
    · unfold pivs
      rw [if_neg (by omega)]
      split
      · rename_i hm
        obtain ⟨i,hi,ei⟩:=piv_row I hm
        have nd:cs.Nodup:=I.csp.imp fun h=>Nat.ne_of_gt h
        have ix:cs.idxOf j = s.rank - 1 - i:=by
          have hlt:s.rank - 1 - i < cs.length:=by rw [I.csl];omega
          rw [← ei,List.getD_eq_getElem?_getD,List.getElem?_eq_getElem hlt]
          exact nd.idxOf_getElem _ hlt
        rw [ix,show s.rank - 1 - (s.rank - 1 - i) = i by omega,I.tz i hi c (by rw [ei];exact h1)]
        grind
      · rfl
theorem rank_is:s.rank = Wh.rank u l:=by
  rw [rank_eq al.widR (fun c=>decide (c ∈ cs)) fun c hc=>by rw [free_iff al I hc];simp]
  have e:(List.range u).filter (fun c=>decide (c ∈ cs)) = cs.reverse:=by
    refine inc_ext _ _ (List.Pairwise.filter _ List.pairwise_lt_range) (List.pairwise_reverse.mpr (I.csp.imp fun h=>h)) fun a => ?_
    rw [List.mem_filter,List.mem_range,List.mem_reverse]
    exact ⟨fun h=>of_decide_eq_true h.2,fun h=>⟨I.cs1 a h,decide_eq_true h⟩⟩
  rw [e,List.length_reverse,I.csl]
theorem solve_no (h:s.rank < u):solve u l = none:=by
  unfold solve
  rw [if_neg fun z=>by have:=rank_is al I;omega]
theorem full_piv (h:s.rank = u) {i:Nat} (hi:i < u):cs.getD (u - 1 - i) 0 = i:=by
  have e:cs.reverse = List.range' 0 u:=by
    have:=inc_range cs.reverse 0 (List.pairwise_reverse.mpr (I.csp.imp fun h=>h)) fun a ha=>by
      rw [List.mem_reverse] at ha
      have:=I.cs1 a ha
      rw [List.length_reverse,I.csl,h]
      omega
    rw [List.length_reverse,I.csl,h] at this
    exact this
  have hl:i < cs.reverse.length:=by rw [List.length_reverse,I.csl,h];exact hi
  have e2:cs.reverse[i]? = some i:=by rw [e,List.getElem?_range' hi];simp
  rw [List.getElem?_reverse (by rw [List.length_reverse] at hl;exact hl),I.csl,h] at e2
  rw [List.getD_eq_getElem?_getD,e2];rfl
theorem solve_yes (hm:m = u) (h0:rows0.length = m) (h:s.rank = u):solve u l = some ((List.range u).map fun i => - ((ent s.rows i u:Int):Rat) / (s.div:Rat)):=by
  rw [solve_iff al.widR]
  have hl:l.length = u:=by
    have h1:=al.len
    omega
  refine ⟨hl,(rank_full al.widR).mp (by rw [← rank_is al I,h]),by simp, ?_⟩
  rw [sat_iff al I]
  have key:∀ j,j < u + 1 → ext u (fun i=>((List.range u).map fun i => - ((ent s.rows i u:Int):Rat) / (s.div:Rat)).getD i 0) 1 j = pivs s cs u j:=fun j hj=>by
    unfold ext
    by_cases e:j = u
    · rw [if_pos e];unfold pivs;rw [if_pos e]
    · rw [if_neg e]
      have hj':j < u:=by omega
      have hp:=full_piv al I h hj'
      have hmem:j ∈ cs:=mem_getD.mpr ⟨u - 1 - j,by rw [I.csl,h];omega,hp⟩
      have nd:cs.Nodup:=I.csp.imp fun h=>Nat.ne_of_gt h
      have hlt:u - 1 - j < cs.length:=by rw [I.csl];omega
      have ix:cs.idxOf j = u - 1 - j:=by
        rw [List.getD_eq_getElem?_getD,List.getElem?_eq_getElem hlt] at hp
        have:=nd.idxOf_getElem _ hlt
        have hp:cs[u - 1 - j] = j:=hp
        rw [hp] at this
        exact this
      unfold pivs
      rw [if_neg e,if_pos hmem,ix,h,show u - 1 - (u - 1 - j) = j by omega]
      simp [hj']
  intro r hr
  obtain ⟨i,h1,rfl⟩:=(mem_getD (d:=([] : List Int))).mp hr
  rw [I.len] at h1
  rw [rdot_dot,dot_eq _ _ (pivs s cs u) fun j hj=>key j (by rw [rats_len,I.wid i h1] at hj;exact hj), ← rdot_dot]
  exact top_sol I (by omega) (fun z=>Nat.lt_irrefl _ (I.cs1 _ z)) (by omega)
end
end RedL

set_option Elab.async false
set_option linter.all false
set_option maxRecDepth 100000
set_option maxHeartbeats 2000000
namespace Lx
open PySem PySem.Spec PyProof.Rows L2
def hid (D:Addr) (H:Hp):Hp:=fun b=>if b = D then none else H b
theorem hid_ne {D b:Addr} {H:Hp} (h:b ≠ D):hid D H b = H b:=by unfold hid;rw [if_neg h]
theorem hid_le (D:Addr) (H:Hp):Same (hid D H) H:=fun b o e=>by
  unfold hid at e
  by_cases h:b = D
  · rw [if_pos h] at e;cases e
  · rw [if_neg h] at e;exact e
theorem hid_mono {D:Addr} {H H':Hp} (s:Same H H'):Same (hid D H) (hid D H'):=fun b o e=>by
  unfold hid at e ⊢
  by_cases h:b = D
  · rw [if_pos h] at e;cases e
  · rw [if_neg h] at e ⊢;exact s b o e
theorem hid_upd {D:Addr} {H:Hp} {u:HO} : Same (hid D H) (hid D (upd H D u)):=fun b o e=>by
  unfold hid at e ⊢
  by_cases h:b = D
  · rw [if_pos h] at e;cases e
  · rw [if_neg h] at e ⊢;rw [upd_ne h];exact e
theorem same_new {H:Hp} {l:Addr} {u:HO} (h:H l = none):Same H (upd H l u):=fun b o e=>by
  rw [upd_ne (ne_of_none e h)];exact e
theorem same_upd {H H':Hp} {l:Addr} {u:HO} (s:Same H H') (h:H l = none):Same H (upd H' l u):=fun b o e=>by
  rw [upd_ne (ne_of_none e h)];exact s b o e
theorem sqT_same {K:PySem.W.Frag} {H H':Hp} {a:Addr} {xs:List V} (e:Same H H') (h:SqT K H a xs):SqT K H' a xs:=by
  rcases h with (h | ⟨o,h⟩) | h
  · exact .inl (.inl (e _ _ h))
  · exact .inl (.inr ⟨o,e _ _ h⟩)
  · exact .inr h
theorem paired_eq {α β : Type} {f : α → β} : ∀ {l:List α} {ys:List β},Paired (fun c y=>y = f c) l ys → ys = l.map f
  | _,_, .nil=>rfl
  | _,_, .cons e t=>by rw [e,paired_eq t];rfl
theorem paired_take {α β : Type} {F : α → β → Prop} : ∀ {l:List α} {ys:List β} (n:Nat),Paired F l ys → Paired F (l.take n) (ys.take n)
  | _,_,0,_ => .nil
  | _,_,_ + 1, .nil => .nil
  | _,_,n + 1, .cons r t => .cons r (paired_take n t)
theorem paired_same {α : Type} {R : α → V → Hp → Prop} (hR:∀ c y H H',Same H H' → R c y H → R c y H') {H H':Hp} (s:Same H H') {l:List α} {ys:List V} (p:Paired (fun c y=>R c y H) l ys):Paired (fun c y=>R c y H') l ys :=
  p.mono fun c y h=>hR c y H H' s h
theorem filter_tt {α : Type} (l:List α):(l.filter fun _=>true) = l:=List.filter_eq_self.mpr fun _ _=>rfl
theorem take_snoc {α : Type} : ∀ {l:List α} {i:Nat} {x : α},l[i]? = some x → l.take (i + 1) = l.take i ++ [x]
  | [],i,x,h=>by simp at h
  | a :: l,0,x,h=>by
    have e:a = x:=Option.some.inj h
    subst e
    rfl
  | a :: l,i + 1,x,h=>by
    have ih:=take_snoc (l:=l) (i:=i) (x:=x) h
    show a :: l.take (i + 1) = a :: l.take i ++ [x]
    rw [ih]
    rfl
section
variable {X:Cx}
theorem pe_gi {x:Str} {n:Int} {pos:Pos} (hm:∃ t,X.mg x = some (.int n t)) (hg:Gl X x:=by rfl) (hd:(x == ("__debug__" : Str)) = false:=by decide):PE X (.Name x pos) (tC (.int n)):=by
  obtain ⟨t,hm⟩:=hm
  exact pe_glob hg hm ⟨t,rfl⟩ hd
theorem pe_gr {x:Str} {a:Addr} {pos:Pos} (hm:X.mg x = some (.ref a)) (hg:Gl X x:=by rfl) (hd:(x == ("__debug__" : Str)) = false:=by decide):PE X (.Name x pos) (tC (.ref a)):=pe_glob hg hm rfl hd
def tCl (sp:Sp) (t:TA):TE:=fun σ H Q=>t σ H fun vs H1=>sp vs H1 Q E0
theorem tCl_eq (sp:Sp) (t:TA):tCall sp [] E0 t = tCl sp t:=by
  funext σ H Q
  show (t σ H fun vs H1=>sp (vs ++ []) H1 Q E0) = _
  have e:(fun (vs:List V) (H1:Hp)=>sp (vs ++ []) H1 Q E0) = fun vs H1=>sp vs H1 Q E0:=by
    funext vs H1
    rw [List.append_nil]
  rw [e]
  rfl
def tMk (C:Addr) (sp:Sp) (t:TA):TE:=fun σ H Q=>t σ H fun vs H1 => ∀ x dx,H1 x = none → H1 dx = none → dx ≠ x → sp (.ref x :: vs) (upd (upd H1 dx (.own x)) x (.ins C dx [])) (fun v H2=>v = .non ∧ Q (.ref x) H2) E0
theorem tMk_eq (C:Addr) (sp:Sp) (t:TA):tMake C sp [] E0 t = tMk C sp t:=by
  funext σ H Q
  show (t σ H fun vs H1 => ∀ x dx,H1 x = none → H1 dx = none → dx ≠ x → sp (.ref x :: (vs ++ [])) (upd (upd H1 dx (.own x)) x (.ins C dx [])) (fun v H2=>v = .non ∧ Q (.ref x) H2) E0) = _
  have e:(fun (vs:List V) (H1:Hp) => ∀ x dx,H1 x = none → H1 dx = none → dx ≠ x → sp (.ref x :: (vs ++ [])) (upd (upd H1 dx (.own x)) x (.ins C dx [])) (fun v H2=>v = .non ∧ Q (.ref x) H2) E0) = fun vs H1 => ∀ x dx,H1 x = none → H1 dx = none → dx ≠ x → sp (.ref x :: vs) (upd (upd H1 dx (.own x)) x (.ins C dx [])) (fun v H2=>v = .non ∧ Q (.ref x) H2) E0:=by
    funext vs H1
    rw [List.append_nil]
  rw [e]
  rfl
end
structure Cal (P:Program) (w:World) (K:PySem.W.Frag) (mg:Str → Option Value) (base:Heap) (k:Nat) (x:Str) (ps:List Str) (sp:Sp):Prop where
  ex:∃ (f:Addr) (fd:FuncData),FnOk P w K mg base CX0 k f fd ps sp ∧ mg x = some (.ref f) ∧ PySem.W.keepIn K (.ref f) = true ∧ Binds K fd ps []
theorem Cal.mk' {P:Program} {w:World} {K:PySem.W.Frag} {mg:Str → Option Value} {base:Heap} {k:Nat} {x:Str} {ps:List Str} {sp:Sp} {f:Addr} {fd:FuncData} (F:FnOk P w K mg base CX0 k f fd ps sp) (hm:mg x = some (.ref f)) (hk:PySem.W.keepIn K (.ref f) = true) (hb:Binds K fd ps []) :
    Cal P w K mg base k x ps sp:=⟨f,fd,F,hm,hk,hb⟩
structure Mak (P:Program) (w:World) (K:PySem.W.Frag) (mg:Str → Option Value) (base:Heap) (k:Nat) (x:Str) (C:Addr) (ps:List Str) (sp:Sp):Prop where
  ex:∃ (f:Addr) (fd:FuncData),Mk K C f ∧ FnOk P w K mg base CX0 k f fd ps sp ∧ mg x = some (.ref C) ∧ Binds K fd ps []
section
variable {X:Cx} {k j:Nat} {x:Str} {ps:List Str} {sp:Sp} {e:Expr} {es:List Expr} {t:TA} {p pos:Pos} {C:Addr}
theorem pe_cal (F:Cal X.prog X.w X.K X.mg X.base k x ps sp) (hr:Room j X.A) (ha:PA X (e :: es) t) (hj:k ≤ j:=by decide) (hg:Gl X x:=by rfl) (hdb:(x == ("__debug__" : Str)) = false:=by decide) (he:starEach (e :: es) X.env = (false,eval e X.env) :: starEach es X.env:=by rfl) (hpl:(backTo pos (starEach es X.env)).any (·.1) = false:=by rfl) :
    PE X (.Call (.Name x p) (e :: es) [] pos) (tCl sp t):=by
  obtain ⟨f,fd,F,hm,hk,hb⟩:=F.ex
  rw [← tCl_eq]
  exact pe_call F (hr.mono hj) hg hm hk hb .nil pass0 ha hdb he hpl
theorem pe_mak (F:Mak X.prog X.w X.K X.mg X.base k x C ps sp) (hr:Room j X.A) (ha:PA X (e :: es) t) (hj:k + 1 ≤ j:=by decide) (hg:Gl X x:=by rfl) (hdb:(x == ("__debug__" : Str)) = false:=by decide) (he:starEach (e :: es) X.env = (false,eval e X.env) :: starEach es X.env:=by rfl) (hpl:(backTo pos (starEach es X.env)).any (·.1) = false:=by rfl) :
    PE X (.Call (.Name x p) (e :: es) [] pos) (tMk C sp t):=by
  obtain ⟨f,fd,M,F,hm,hb⟩:=F.ex
  rw [← tMk_eq]
  exact pe_make M F (hr.mono hj) hg hm hb .nil pass0 ha hdb he hpl
end
section
variable {X:Cx} {tg e a o value:Expr} {es:List Expr} {ta t:TA} {te to tv:TE} {pos pos' p:Pos} {f name:Str} {T:String}
theorem ix_listK (K:PySem.W.Frag) (h:X.K = K:=by rfl):IxR X (rIxL K):=h ▸ ix_list
theorem ix_tupK (K:PySem.W.Frag) (h:X.K = K:=by rfl):IxR X (rIxT K):=h ▸ ix_tup
theorem sl_listK (K:PySem.W.Frag) (h:X.K = K:=by rfl):SlR X (rSlL K):=h ▸ sl_list
theorem op_inK (K:PySem.W.Frag) (h:X.K = K:=by rfl):OpR X (compareOp .In) (rIn K false):=h ▸ op_in_seq
theorem op_notInK (K:PySem.W.Frag) (h:X.K = K:=by rfl):OpR X (compareOp .NotIn) (rIn K true):=h ▸ op_notIn_seq
theorem op_eqDK (K:PySem.W.Frag) (hu:X.A.units + 64 < cLine) (h:X.K = K:=by rfl):OpR X (compareOp .Eq) (rEqD K):=h ▸ op_eqD hu
def rLen (K:PySem.W.Frag):List V → Hp → VK → Prop:=fun xs H Q => ∃ p ys,xs = [.ref p] ∧ (SqL K H p ys ∨ SqT K H p ys) ∧ Q (.int ys.length) H
def rListOf (K:PySem.W.Frag):List V → Hp → VK → Prop:=fun xs H Q => ∃ p ys,xs = [.ref p] ∧ (SqL K H p ys ∨ SqT K H p ys) ∧ ∀ l,H l = none → Q (.ref l) (upd H l (.lst ys))
theorem call_lenK (K:PySem.W.Frag) (h:X.K = K:=by rfl):CallR X (.builtin "len") (rLen K):=h ▸ call_len_seq
theorem call_listK (K:PySem.W.Frag) (h:X.K = K:=by rfl):CallR X (.type "list") (rListOf K):=h ▸ call_list_of
theorem cr_sumK (K:PySem.W.Frag) (hc:X.calm = true) (h:X.K = K:=by rfl):CallR X (.builtin "sum") (rSum K):=h ▸ cr_sum hc
theorem cr_anyK (K:PySem.W.Frag) (hc:X.calm = true) (h:X.K = K:=by rfl):CallR X (.builtin "any") (rAny K):=h ▸ cr_any hc
theorem cr_allK (K:PySem.W.Frag) (hc:X.calm = true) (h:X.K = K:=by rfl):CallR X (.builtin "all") (rAll K):=h ▸ cr_all hc
theorem cr_sortedK (K:PySem.W.Frag) (h:X.K = K:=by rfl):CallR X (.builtin "sorted") (rSorted K):=h ▸ cr_sorted
theorem pi_listK (K:PySem.W.Frag) (hl:PE X e te) (h:X.K = K:=by rfl):PI X tg e (iList K te):=h ▸ pi_list hl
theorem pe_fldK (K:PySem.W.Frag) (he:PE X e te) (hb:attributeBase e f X.env (eval e X.env) = eval e X.env) (h:X.K = K:=by rfl):PE X (.Attribute e f pos) (tFld K te f):=h ▸ pe_fld he hb
theorem ps_fldK (K:PySem.W.Frag) (ha:PE X o to) (hv:PE X value tv) (hs:swapsWith value (some (.Attribute o f pos')) pos.line X.env = pure false) (h:X.K = K:=by rfl):PS X (.Assign [.Attribute o f pos'] value pos) (sFld K to tv f):=h ▸ ps_fld ha hv hs
def tTruV (K:PySem.W.Frag) (te:TE):TT:=fun σ H Q=>te σ H fun x H' => ∃ k,TruV K x H' k ∧ Q k H'
theorem pt_truthK (K:PySem.W.Frag) (ha:PE X a te) (he:∀ whole,isTrue a X.env whole = (do let v ← whole;standAt a.pos;holding [v] (truthy v))) (h:X.K = K:=by rfl):PT X a (tTruV K te):=h ▸ pt_truth ha he
theorem pg_tupK (K:PySem.W.Frag) {k:Nat} {t:TGs} {n:Nat} (hc:X.calm = true) (h:PGs X es t)
    (hn:(assignEach es X.env).length = n:=by rfl) (hst:(assignEach es X.env).findIdx? (·.1) = none:=by rfl) (hK:X.K = K:=by rfl):PG X (.Tuple es k pos) (gTup K n t):=hK ▸ pg_tup hc h hn hst
end
theorem lc_gen {α : Type} {J:It} {n:Nat} {item:Nat → V} {cs:List α} {g:TG} {tt:TT} {te:TE} {vs:List Nat} {σ : L2.St} {H1:Hp} {D:Addr} {Qd:Hp → Prop}
    (p : α → Bool) (R : α → V → Hp → Prop) (hR:∀ c y H H',Same H H' → R c y H → R c y H')
    (hn:n ≤ sizeLine) (hc:cs.length = n) (hD:H1 D = none)
    (hgo:∀ i H,i < n → Same H1 H → J.go i H) (hst:∀ H,Same H1 H → J.stop n H) (hy:∀ i H x H',i < n → Same H1 H → J.yld i H x H' → H' = H ∧ x = item i)
    (hs:∀ i c H (acc:List V) (Ny:V → Hp → Prop) (Nx:Hp → Prop),i < n → cs[i]? = some c → Same H1 H → H D = some (.lst acc) →
      (p c = true → ∀ y H4,Same H H4 → R c y (hid D H4) → Ny y H4) → (p c = false → ∀ H3,Same H H3 → Nx H3) →
      g (item i) (wipe σ vs) H fun σ2 H2=>wipe σ2 vs = wipe σ vs ∧ tt σ2 H2 fun b H3=>if b = true then te σ2 H3 Ny else Nx H3)
    (hd:∀ H ys,Same H1 H → H D = some (.lst ys) → Paired (fun c y=>R c y H) (cs.filter p) ys → Qd H) :
    ∃ W:Nat → Nat → Hp → Prop,(∃ m,W 0 m (upd H1 D (.lst []))) ∧ ∀ i m H,W i m H →
      (J.stop i H ∧ Qd H) ∨ (J.go i H ∧ ∃ Nx:Hp → Prop,(∀ H',Nx H' → ∃ m',m' < m ∧ W (i + 1) m' H') ∧ ∀ x H',J.yld i H x H' → g x (wipe σ vs) H' fun σ2 H2=>wipe σ2 vs = wipe σ vs ∧ tt σ2 H2 fun b H3 =>
        if b = true then te σ2 H3 fun y H4 => ∃ acc,H4 D = some (.lst acc) ∧ acc.length < sizeLine ∧ Nx (upd H4 D (.lst (acc ++ [y]))) else Nx H3):=by
  let Pv:Nat → Hp → Prop:=fun i H=>Same H1 H ∧ ∃ ys,H D = some (.lst ys) ∧ Paired (fun c y=>R c y (hid D H)) ((cs.take i).filter p) ys
  refine ⟨fun i m H=>m = n - i ∧ i ≤ n ∧ Pv i H,⟨n,by simp,Nat.zero_le _,same_new hD,[],upd_same, .nil⟩, ?_⟩
  rintro i m H ⟨rfl,hi,s1,ys,hy1,pr⟩
  by_cases hlt:i < n
  · refine .inr ⟨hgo i H hlt s1,Pv (i + 1),fun H' p'=>⟨n - (i + 1),by omega,rfl,hlt,p'⟩,fun x H' yl => ?_⟩
    obtain ⟨e1,e2⟩:=hy i H x H' hlt s1 yl
    subst e1 e2
    have hci:cs[i]? = some (cs[i]'(by omega)):=List.getElem?_eq_getElem (by omega)
    generalize cs[i]'(by omega) = c at hci
    refine hs i c H' ys _ _ hlt hci s1 hy1 (fun hp y H4 s4 r4 => ?_) (fun hp H3 s3 => ?_)
    · refine ⟨ys,s4 _ _ hy1, ?_,same_upd (s1.trans s4) hD,ys ++ [y],upd_same, ?_⟩
      · have:=pr.length
        have h2:=List.length_filter_le p (cs.take i)
        rw [List.length_take] at h2
        omega
      · rw [take_snoc hci,List.filter_append,List.filter_cons,if_pos hp,List.filter_nil]
        exact (paired_same hR ((hid_mono s4).trans hid_upd) pr).snoc (hR _ _ _ _ hid_upd r4)
    · refine ⟨s1.trans s3,ys,s3 _ _ hy1, ?_⟩
      rw [take_snoc hci,List.filter_append,List.filter_cons,if_neg (by rw [hp];simp),List.filter_nil,List.append_nil]
      exact paired_same hR (hid_mono s3) pr
  · have e:i = n:=by omega
    subst e
    refine .inl ⟨hst H s1,hd H ys s1 hy1 ?_⟩
    rw [List.take_of_length_le (Nat.le_of_eq hc)] at pr
    exact paired_same hR (hid_le D H) pr
theorem lc_lst {α : Type} {K:PySem.W.Frag} {a:Addr} {xs:List V} {cs:List α} {g:TG} {tt:TT} {te:TE} {vs:List Nat} {σ : L2.St} {H1:Hp} {D:Addr} {Qd:Hp → Prop}
    (p : α → Bool) (R : α → V → Hp → Prop) (hR:∀ c y H H',Same H H' → R c y H → R c y H')
    (ha:SqL K H1 a xs) (hn:xs.length ≤ sizeLine) (hc:cs.length = xs.length) (hD:H1 D = none)
    (hs:∀ (i:Nat) (x:V) (c : α) (H:Hp) (acc:List V) (Ny:V → Hp → Prop) (Nx:Hp → Prop),xs[i]? = some x → cs[i]? = some c → Same H1 H → H D = some (.lst acc) →
      (p c = true → ∀ y H4,Same H H4 → R c y (hid D H4) → Ny y H4) → (p c = false → ∀ H3,Same H H3 → Nx H3) →
      g x (wipe σ vs) H fun σ2 H2=>wipe σ2 vs = wipe σ vs ∧ tt σ2 H2 fun b H3=>if b = true then te σ2 H3 Ny else Nx H3)
    (hd:∀ H ys,Same H1 H → H D = some (.lst ys) → Paired (fun c y=>R c y H) (cs.filter p) ys → Qd H) :
    ∃ W:Nat → Nat → Hp → Prop,(∃ m,W 0 m (upd H1 D (.lst []))) ∧ ∀ i m H,W i m H →
      ((Itl K a).stop i H ∧ Qd H) ∨ ((Itl K a).go i H ∧ ∃ Nx:Hp → Prop,(∀ H',Nx H' → ∃ m',m' < m ∧ W (i + 1) m' H') ∧ ∀ x H',(Itl K a).yld i H x H' → g x (wipe σ vs) H' fun σ2 H2=>wipe σ2 vs = wipe σ vs ∧ tt σ2 H2 fun b H3 =>
        if b = true then te σ2 H3 fun y H4 => ∃ acc,H4 D = some (.lst acc) ∧ acc.length < sizeLine ∧ Nx (upd H4 D (.lst (acc ++ [y]))) else Nx H3):=by
  refine lc_gen (J:=Itl K a) (n:=xs.length) (item:=fun i=>xs.getD i .non) p R hR hn hc hD (fun i H hi s=>⟨xs,xs[i],s.seq ha,by simp [hi]⟩) (fun H s=>⟨xs,s.seq ha,Nat.le_refl _⟩) (fun i H x H' hi s yl => ?_) (fun i c H acc Ny Nx hi hci s hD1 h1 h2 => ?_) hd
  · obtain ⟨e,y⟩:=yl
    have:=y xs (s.seq ha)
    exact ⟨e,by rw [List.getD_eq_getElem?_getD,this];rfl⟩
  · have hx:xs[i]? = some (xs.getD i .non):=by rw [List.getD_eq_getElem?_getD,List.getElem?_eq_getElem hi];rfl
    exact hs i _ c H acc Ny Nx hx hci s hD1 h1 h2
theorem lc_rngC {α : Type} {lo st:Int} {n:Nat} {cs:List α} {g:TG} {tt:TT} {te:TE} {vs:List Nat} {σ : L2.St} {H1:Hp} {D:Addr} {Qd:Hp → Prop}
    (p : α → Bool) (R : α → V → Hp → Prop) (hR:∀ c y H H',Same H H' → R c y H → R c y H')
    (hn:n ≤ sizeLine) (hc:cs.length = n) (hD:H1 D = none)
    (hs:∀ i c H (acc:List V) (Ny:V → Hp → Prop) (Nx:Hp → Prop),i < n → cs[i]? = some c → Same H1 H → H D = some (.lst acc) →
      (p c = true → ∀ y H4,Same H H4 → R c y (hid D H4) → Ny y H4) → (p c = false → ∀ H3,Same H H3 → Nx H3) →
      g (.int (lo + (i:Nat) * st)) (wipe σ vs) H fun σ2 H2=>wipe σ2 vs = wipe σ vs ∧ tt σ2 H2 fun b H3=>if b = true then te σ2 H3 Ny else Nx H3)
    (hd:∀ H ys,Same H1 H → H D = some (.lst ys) → Paired (fun c y=>R c y H) (cs.filter p) ys → Qd H) :
    ∃ W:Nat → Nat → Hp → Prop,(∃ m,W 0 m (upd H1 D (.lst []))) ∧ ∀ i m H,W i m H →
      ((Itc lo st n).stop i H ∧ Qd H) ∨ ((Itc lo st n).go i H ∧ ∃ Nx:Hp → Prop,(∀ H',Nx H' → ∃ m',m' < m ∧ W (i + 1) m' H') ∧ ∀ x H',(Itc lo st n).yld i H x H' → g x (wipe σ vs) H' fun σ2 H2=>wipe σ2 vs = wipe σ vs ∧ tt σ2 H2 fun b H3 =>
        if b = true then te σ2 H3 fun y H4 => ∃ acc,H4 D = some (.lst acc) ∧ acc.length < sizeLine ∧ Nx (upd H4 D (.lst (acc ++ [y]))) else Nx H3) :=
  lc_gen (J:=Itc lo st n) (n:=n) (item:=fun i => .int (lo + (i:Nat) * st)) p R hR hn hc hD (fun i H hi s=>hi) (fun H s=>Nat.le_refl _) (fun i H x H' hi s yl=>yl) hs hd
theorem for_enum {K:PySem.W.Frag} {a:Addr} {xs:List V} {g:TG} {tb:TS} {D:Ends} {σ : L2.St} {H:Hp} (Pv:Nat → L2.St → Hp → Prop) (h0:Pv 0 σ H) (hl:∀ i σ H,i ≤ xs.length → Pv i σ H → SqL K H a xs)
    (hs:∀ i x σ H T,xs[i]? = some x → Pv i σ H → H T = none → g (.ref T) σ (upd H T (.tup [.int (i:Nat),x])) fun σ2 H2=>tb { D with nx:=Pv (i + 1),ct:=Pv (i + 1),bk:=D.nx } σ2 H2) (hd:∀ σ H,Pv xs.length σ H → D.nx σ H) :
    ∃ W:Nat → Nat → L2.St → Hp → Prop,(∃ m,W 0 m σ H) ∧ ∀ i m σ H,W i m σ H →
      ((Ite K a).stop i H ∧ D.nx σ H) ∨ ((Ite K a).go i H ∧ ∃ N:L2.St → Hp → Prop,(∀ σ' H',N σ' H' → ∃ m',m' < m ∧ W (i + 1) m' σ' H') ∧ ∀ x H',(Ite K a).yld i H x H' → g x σ H' fun σ2 H2=>tb { D with nx:=N,ct:=N,bk:=D.nx } σ2 H2):=by
  refine ⟨fun i m σ H=>m = xs.length - i ∧ i ≤ xs.length ∧ Pv i σ H,⟨xs.length,by simp,Nat.zero_le _,h0⟩, ?_⟩
  rintro i m σ H ⟨rfl,hi,p⟩
  have q:=hl i σ H hi p
  by_cases hlt:i < xs.length
  · refine .inr ⟨⟨xs,xs[i],q,by simp [hlt]⟩,Pv (i + 1),fun σ' H' p'=>⟨xs.length - (i + 1),by omega,rfl,hlt,p'⟩,fun x H' y => ?_⟩
    obtain ⟨T,x',e,hT,e2,y⟩:=y
    subst e e2
    exact hs i x' σ H T (y xs q) p hT
  · have e:i = xs.length:=by omega
    subst e
    exact .inl ⟨⟨xs,q,Nat.le_refl _⟩,hd σ H p⟩
def rNotInD (K:PySem.W.Frag):R2:=fun x y H Q => ∃ d ds,Dp K H x d ∧ Dp K H y (.list ds) ∧ SeqAt.shaped d = true ∧ SeqAt.shaped (PyData.list ds) = true ∧ Q (.bl (!(ds.any fun e=>PyData.eqv e d))) H
theorem op_notInD {X:Cx} (hu:X.A.units + 65 < cLine):OpR X (compareOp .NotIn) (rNotInD X.K):=by
  intro pins s σ H x y v u Q I rx ry h
  obtain ⟨d,ds,hd,he,sd,se,q⟩:=h
  obtain ⟨as,r1⟩:=Dp.reads I d x v hd rx
  obtain ⟨bs,r2⟩:=Dp.reads I (.list ds) y u he ry
  exact SeqAt.notIn_list_reads r2 r1 (SeqAt.canLay_of_shaped se) (SeqAt.canLay_of_shaped sd) (room_in_shaped sd hu) ⟨.bl _,H,I,rfl,q⟩
theorem op_notInDK {X:Cx} (K:PySem.W.Frag) (hu:X.A.units + 65 < cLine) (h:X.K = K:=by rfl):OpR X (compareOp .NotIn) (rNotInD K):=h ▸ op_notInD hu
def dInts (ns:List Int):PyData := .list (ns.map PyData.int)
theorem dp_ints {K:PySem.W.Frag} {H:Hp} : ∀ ns:List Int,DpAll K H (ns.map V.int) (ns.map PyData.int)
  | [] => .nil
  | n :: r => .cons (.int n) (dp_ints r)
theorem dp_list {K:PySem.W.Frag} {H:Hp} {a:Addr} {ns:List Int} (h:SqL K H a (ns.map V.int)):Dp K H (.ref a) (dInts ns) := .lst h (dp_ints ns)
theorem eqv_ints:∀ (ns ms:List Int),PyData.eqvAll (ns.map PyData.int) (ms.map PyData.int) = decide (ns = ms)
  | [],[] => rfl
  | [],m :: ms=>by simp [PyData.eqvAll]
  | n :: ns,[] => by simp [PyData.eqvAll]
  | n :: ns,m :: ms=>by
    rw [List.map_cons,List.map_cons,PyData.eqvAll,eqv_ints ns ms,PyData.eqv,Bool.eq_iff_iff]
    simp
theorem eqv_dInts (ns ms:List Int):PyData.eqv (dInts ns) (dInts ms) = decide (ns = ms):=by
  unfold dInts
  rw [PyData.eqv,eqv_ints]
theorem lay_ints:∀ ns:List Int,PyData.canLayAll0 (ns.map PyData.int) = true
  | [] => rfl
  | n :: r=>by rw [List.map_cons,PyData.canLayAll0,lay_ints r];rfl
theorem dep_ints:∀ ns:List Int,PyData.depthAll (ns.map PyData.int) = 0
  | [] => rfl
  | n :: r=>by rw [List.map_cons,PyData.depthAll,dep_ints r];rfl
theorem shaped_ints (ns:List Int):SeqAt.shaped (dInts ns) = true:=by
  unfold SeqAt.shaped dInts
  rw [PyData.canLay0,lay_ints,PyData.depth,dep_ints]
  rfl
theorem lay_rows:∀ l:List (List Int),PyData.canLayAll0 (l.map dInts) = true
  | [] => rfl
  | n :: r=>by
    rw [List.map_cons,PyData.canLayAll0,lay_rows r,Bool.and_true]
    unfold dInts
    rw [PyData.canLay0,lay_ints]
theorem dep_rows:∀ l:List (List Int),PyData.depthAll (l.map dInts) ≤ 1
  | [] => Nat.zero_le _
  | n :: r=>by
    rw [List.map_cons,PyData.depthAll]
    have h:=dep_rows r
    have h2:PyData.depth (dInts n) = 1:=by unfold dInts;rw [PyData.depth,dep_ints]
    omega
theorem shaped_rows (l:List (List Int)):SeqAt.shaped (PyData.list (l.map dInts)) = true:=by
  unfold SeqAt.shaped
  have h:=dep_rows l
  rw [PyData.canLay0,lay_rows,PyData.depth,Bool.true_and]
  exact decide_eq_true (by omega)
theorem any_rows (l:List (List Int)) (x:List Int):(l.map dInts).any (fun e=>PyData.eqv e (dInts x)) = decide (x ∈ l):=by
  rw [List.any_map,Bool.eq_iff_iff]
  simp only [List.any_eq_true,Function.comp,eqv_dInts,decide_eq_true_eq]
  constructor
  · rintro ⟨y,hy,rfl⟩;exact hy
  · intro h;exact ⟨x,h,rfl⟩
theorem cut_nat {xs:List V} (i j:Nat):cutV xs (some (i:Int)) (some (j:Int)) = (xs.drop i).take (j - i):=by
  unfold cutV
  rw [HT.sIx_nat,HT.sIx_nat]
  apply List.ext_getElem?
  intro n
  rw [List.getElem?_take,List.getElem?_take,List.getElem?_drop,List.getElem?_drop]
  by_cases hi:i ≤ xs.length
  · rw [Nat.min_eq_left hi]
    by_cases hn:i + n < xs.length
    · by_cases h:n < j - i
      · rw [if_pos h,if_pos (by omega)]
      · rw [if_neg h,if_neg (by omega)]
    · rw [List.getElem?_eq_none (show xs.length ≤ i + n by omega),ite_self,ite_self]
  · rw [List.getElem?_eq_none (show xs.length ≤ i + n by omega),List.getElem?_eq_none (show xs.length ≤ min i xs.length + n by omega),ite_self,ite_self]
theorem cut_to {xs:List V} (j:Nat):cutV xs none (some (j:Int)) = xs.take j:=by
  unfold cutV
  rw [HT.sIx_nat,HT.sIx_none,List.drop_zero,Nat.sub_zero]
  by_cases hj:j ≤ xs.length
  · rw [Nat.min_eq_left hj]
  · rw [Nat.min_eq_right (by omega),List.take_of_length_le (Nat.le_refl _),List.take_of_length_le (by omega)]
theorem ite_b {A B:Prop} {c:Prop} [Decidable c] (h1:c → A) (h2:¬ c → B):if decide c = true then A else B:=by
  by_cases h:c
  · rw [decide_eq_true h];exact iteT (h1 h)
  · rw [decide_eq_false h];exact iteF (h2 h)
theorem ite_n {A B:Prop} {c:Prop} [Decidable c] (h1:¬ c → A) (h2:c → B):if (!decide c) = true then A else B:=by
  by_cases h:c
  · rw [decide_eq_true h];exact iteF (h2 h)
  · rw [decide_eq_false h];exact iteT (h1 h)
theorem ite_v {A B:Prop} {b:Bool} (h1:b = true → A) (h2:b = false → B):if b = true then A else B:=by
  cases b with
  | true=>exact iteT (h1 rfl)
  | false=>exact iteF (h2 rfl)
end Lx

set_option Elab.async false
set_option linter.all false
set_option maxRecDepth 100000
set_option maxHeartbeats 2000000
namespace Lx
open PySem PySem.Spec PyProof.Rows L2
def Big (i:Int):Prop:=i.natAbs < 2 ^ 8000
theorem Big.log {i:Int} (h:Big i):i.natAbs.log2 < 9000:=by
  by_cases h0:i.natAbs = 0
  · rw [h0];decide +kernel
  · have:=(Nat.log2_lt h0).mpr h
    omega
theorem Big.bits {i:Int} (h:Big i):Builtin.Int.intBits i ≤ 8001:=by
  unfold Builtin.Int.intBits
  split
  · exact Nat.zero_le _
  · rename_i h0
    have h1:i.natAbs ≠ 0:=by
      intro z
      apply h0
      have:i = 0:=by omega
      rw [this];rfl
    have:=(Nat.log2_lt h1).mpr h
    omega
theorem Big.of {i:Int} {n:Nat} (h:i.natAbs ≤ 2 ^ n) (hn:n < 8000):Big i:=Nat.lt_of_le_of_lt h (Nat.pow_lt_pow_right (by decide) hn)
theorem Big.one {i:Int} (h:i.natAbs ≤ 1):Big i:=Big.of (n:=0) h (by decide)
def CBig (i j:Int):Prop:=Big i ∧ Big j
def CDivB (_ j:Int):Prop:=j ≠ 0 ∧ Big j
section
variable {X:Cx}
theorem op_mulB:OpR X (binaryOp .Mult) (rI CBig fun i j => .int (i * j)):=opI fun _ _ _ _ _ _ _ hc q=>mul_int q (.of_le hc.1.bits hc.2.bits (by decide))
theorem op_fdivB:OpR X (binaryOp .FloorDiv) (rI CDivB fun i j => .int (i.fdiv j)):=opI fun _ _ _ _ _ _ _ hc q=>floordiv_int hc.1 q (.inl (PyProof.noPylong_of_log2 hc.2.log))
theorem get_listK (K:PySem.W.Frag) (hK:X.K = K:=by rfl):PGet X (rIxL K):=by
  intro pins s σ H o i ov iv Q I ro ri h
  subst hK
  obtain ⟨p,xs,i,z,rfl,rfl,hq,he,q⟩:=h
  cases ro
  obtain ⟨t,rfl⟩:=ri
  obtain ⟨its,r,pl,hz⟩:=I.list hq
  obtain ⟨j,h1,h2,h3,h4,h5⟩:=atI_get he
  obtain ⟨w,ew,rw'⟩:=r.get h2
  have hl:=r.length
  have hn:=line63
  have fin:EP X pins σ Q w s:=⟨z,H,I,rw',q⟩
  by_cases h0:0 ≤ i
  · have hj:i.toNat = j:=by
      rw [seqIndex_of h0 h5] at h1
      exact Option.some.inj h1
    exact wpAny_getItem_list pl.isList h0 (by omega) (by rw [hj];simpa using ew) fin
  · have hj:(i + (its.toArray.size:Int)).toNat = j:=by
      rw [seqIndex_neg (by omega) h4] at h1
      rw [List.size_toArray, ← hl]
      exact Option.some.inj h1
    exact wpAny_getItem_list_neg pl.isList (by omega) (by rw [List.size_toArray] <;> omega) (by omega) (by rw [hj];simpa using ew) fin
theorem pi_tupK {tg e:Expr} {te:TE} (K:PySem.W.Frag) (hl:PE X e te) (h:X.K = K:=by rfl):PI X tg e (iTup K te):=h ▸ pi_tup hl
theorem pi_zipK {e e2:Expr} {ta:TA} {p pos tpos:Pos} {elts:List Expr} {kk:Nat} (K:PySem.W.Frag) (hg:Gl X "zip") (hm:X.mg "zip" = none) (ha:PA X [e,e2] ta) (h:X.K = K:=by rfl)
    (hs:starEach [e,e2] X.env = (false,eval e X.env) :: starEach [e2] X.env:=by rfl) (hpl:(backTo pos (starEach [e2] X.env)).any (·.1) = false:=by rfl) :
    PI X (.Tuple elts kk tpos) (.Call (.Name "zip" p) [e,e2] [] pos) (iZip K ta):=h ▸ pi_zip hg hm ha hs hpl
theorem pi_enumK {e:Expr} {ta:TA} {p pos tpos:Pos} {elts:List Expr} {kk:Nat} (K:PySem.W.Frag) (hg:Gl X "enumerate") (hm:X.mg "enumerate" = none) (ha:PA X [e] ta) (h:X.K = K:=by rfl) (hs:starEach [e] X.env = [(false,eval e X.env)]:=by rfl) :
    PI X (.Tuple elts kk tpos) (.Call (.Name "enumerate" p) [e] [] pos) (iEnum K ta):=h ▸ pi_enum hg hm ha hs
end
def tMt (C:Addr) (m:Str) (sp:Sp) (ta:TE) (t:TA):TE:=fun σ H Q=>ta σ H fun x H1 => ∃ a dx fs,x = .ref a ∧ H1 a = some (.ins C dx fs) ∧ fs.lookup m = none ∧ t σ H1 fun vs H2=>sp (x :: vs) H2 Q E0
theorem tMt_eq (C:Addr) (m:Str) (sp:Sp) (ta:TE) (t:TA):tMeth C m sp [] E0 ta t = tMt C m sp ta t:=by
  funext σ H Q
  unfold tMeth tMt
  have e:∀ x:V,(fun (vs:List V) (H2:Hp)=>sp (x :: (vs ++ [])) H2 Q E0) = fun vs H2=>sp (x :: vs) H2 Q E0:=by
    intro x
    funext vs H2
    rw [List.append_nil]
  congr 1
  funext x H1
  rw [e x]
structure Mth (P:Program) (w:World) (K:PySem.W.Frag) (mg:Str → Option Value) (base:Heap) (k:Nat) (C:Addr) (m:Str) (ps:List Str) (sp:Sp):Prop where
  ex:∃ (f:Addr) (fd:FuncData),Cls K C ∧ Meth K C m f ∧ FnOk P w K mg base CX0 k f fd ps sp ∧ Binds K fd ps []
section
variable {X:Cx} {k j:Nat} {m:Str} {ps:List Str} {sp:Sp} {o e:Expr} {es:List Expr} {t:TA} {ta:TE} {apos pos:Pos} {C:Addr}
theorem pe_mth {pl:Sem Bool} (F:Mth X.prog X.w X.K X.mg X.base k C m ps sp) (hr:Room j X.A) (he:PE X o ta) (ha:PA X (e :: es) t) (hj:k ≤ j:=by decide)
    (hst:starEach (e :: es) X.env = (false,eval e X.env) :: starEach es X.env:=by rfl) (hpl:(backTo pos (starEach es X.env)).any (·.1) = false:=by rfl)
    (ht:eval (.Call (.Attribute o m apos) (e :: es) [] pos) X.env = (do
      let ov ← eval o X.env
      standAt apos.atName
      let (f,first) ← holding [ov] (getMethod ov m pl)
      callWith pos f first (backTo pos (starEach (e :: es) X.env)) (backToKw pos (keywordEach [] X.env))):=by rfl) :
    PE X (.Call (.Attribute o m apos) (e :: es) [] pos) (tMt C m sp ta t):=by
  obtain ⟨f,fd,c,hm,F,hb⟩:=F.ex
  rw [← tMt_eq]
  exact pe_meth he c hm F (hr.mono hj) hb .nil pass0 ha hst hpl ht
theorem pe_mth0 {pl:Sem Bool} (F:Mth X.prog X.w X.K X.mg X.base k C m ps sp) (hr:Room j X.A) (he:PE X o ta) (hj:k ≤ j:=by decide)
    (ht:eval (.Call (.Attribute o m apos) [] [] pos) X.env = (do
      let ov ← eval o X.env
      standAt apos.atName
      let (f,first) ← holding [ov] (getMethod ov m pl)
      callWith pos f first (backTo pos (starEach [] X.env)) (backToKw pos (keywordEach [] X.env))):=by rfl) :
    PE X (.Call (.Attribute o m apos) [] [] pos) (tMt C m sp ta tNil):=by
  obtain ⟨f,fd,c,hm,F,hb⟩:=F.ex
  rw [← tMt_eq]
  exact pe_meth0 he c hm F (hr.mono hj) hb .nil pass0 ht
end
theorem lc_new {α : Type} {J:It} {n:Nat} {item:Nat → List V} {cs:List α} {g:TG} {tt:TT} {te:TE} {vs:List Nat} {σ : L2.St} {H1:Hp} {D:Addr} {Qd:Hp → Prop}
    (p : α → Bool) (R : α → V → Hp → Prop) (hR:∀ c y H H',Same H H' → R c y H → R c y H')
    (hn:n ≤ sizeLine) (hc:cs.length = n) (hD:H1 D = none)
    (hgo:∀ i H,i < n → Same H1 H → J.go i H) (hst:∀ H,Same H1 H → J.stop n H) (hy:∀ i H x H',i < n → Same H1 H → J.yld i H x H' → ∃ T,x = .ref T ∧ H T = none ∧ H' = upd H T (.tup (item i)))
    (hs:∀ i c H T (acc:List V) (Ny:V → Hp → Prop) (Nx:Hp → Prop),i < n → cs[i]? = some c → Same H1 H → H D = some (.lst acc) → H T = none →
      (p c = true → ∀ y H4,Same H H4 → R c y (hid D H4) → Ny y H4) → (p c = false → ∀ H3,Same H H3 → Nx H3) →
      g (.ref T) (wipe σ vs) (upd H T (.tup (item i))) fun σ2 H2=>wipe σ2 vs = wipe σ vs ∧ tt σ2 H2 fun b H3=>if b = true then te σ2 H3 Ny else Nx H3)
    (hd:∀ H ys,Same H1 H → H D = some (.lst ys) → Paired (fun c y=>R c y H) (cs.filter p) ys → Qd H) :
    ∃ W:Nat → Nat → Hp → Prop,(∃ m,W 0 m (upd H1 D (.lst []))) ∧ ∀ i m H,W i m H →
      (J.stop i H ∧ Qd H) ∨ (J.go i H ∧ ∃ Nx:Hp → Prop,(∀ H',Nx H' → ∃ m',m' < m ∧ W (i + 1) m' H') ∧ ∀ x H',J.yld i H x H' → g x (wipe σ vs) H' fun σ2 H2=>wipe σ2 vs = wipe σ vs ∧ tt σ2 H2 fun b H3 =>
        if b = true then te σ2 H3 fun y H4 => ∃ acc,H4 D = some (.lst acc) ∧ acc.length < sizeLine ∧ Nx (upd H4 D (.lst (acc ++ [y]))) else Nx H3):=by
  let Pv:Nat → Hp → Prop:=fun i H=>Same H1 H ∧ ∃ ys,H D = some (.lst ys) ∧ Paired (fun c y=>R c y (hid D H)) ((cs.take i).filter p) ys
  refine ⟨fun i m H=>m = n - i ∧ i ≤ n ∧ Pv i H,⟨n,by simp,Nat.zero_le _,same_new hD,[],upd_same, .nil⟩, ?_⟩
  rintro i m H ⟨rfl,hi,s1,ys,hy1,pr⟩
  by_cases hlt:i < n
  · refine .inr ⟨hgo i H hlt s1,Pv (i + 1),fun H' p'=>⟨n - (i + 1),by omega,rfl,hlt,p'⟩,fun x H' yl => ?_⟩
    obtain ⟨T,e1,hT,e2⟩:=hy i H x H' hlt s1 yl
    subst e1 e2
    have hci:cs[i]? = some (cs[i]'(by omega)):=List.getElem?_eq_getElem (by omega)
    generalize cs[i]'(by omega) = c at hci
    refine hs i c H T ys _ _ hlt hci s1 hy1 hT (fun hp y H4 s4 r4 => ?_) (fun hp H3 s3 => ?_)
    · refine ⟨ys,s4 _ _ hy1, ?_,same_upd (s1.trans s4) hD,ys ++ [y],upd_same, ?_⟩
      · have:=pr.length
        have h2:=List.length_filter_le p (cs.take i)
        rw [List.length_take] at h2
        omega
      · rw [take_snoc hci,List.filter_append,List.filter_cons,if_pos hp,List.filter_nil]
        exact (paired_same hR ((hid_mono s4).trans hid_upd) pr).snoc (hR _ _ _ _ hid_upd r4)
    · refine ⟨s1.trans s3,ys,s3 _ _ hy1, ?_⟩
      rw [take_snoc hci,List.filter_append,List.filter_cons,if_neg (by rw [hp];simp),List.filter_nil,List.append_nil]
      exact paired_same hR (hid_mono s3) pr
  · have e:i = n:=by omega
    subst e
    refine .inl ⟨hst H s1,hd H ys s1 hy1 ?_⟩
    rw [List.take_of_length_le (Nat.le_of_eq hc)] at pr
    exact paired_same hR (hid_le D H) pr
theorem lc_zip {α : Type} {K:PySem.W.Frag} {a b:Addr} {xs ys:List V} {cs:List α} {g:TG} {tt:TT} {te:TE} {vs:List Nat} {σ : L2.St} {H1:Hp} {D:Addr} {Qd:Hp → Prop}
    (p : α → Bool) (R : α → V → Hp → Prop) (hR:∀ c y H H',Same H H' → R c y H → R c y H')
    (ha:SqL K H1 a xs) (hb:SqL K H1 b ys) (hl:ys.length = xs.length) (hn:xs.length ≤ sizeLine) (hc:cs.length = xs.length) (hD:H1 D = none)
    (hs:∀ (i:Nat) (x y:V) (c : α) (H:Hp) (T:Addr) (acc:List V) (Ny:V → Hp → Prop) (Nx:Hp → Prop),xs[i]? = some x → ys[i]? = some y → cs[i]? = some c → Same H1 H → H D = some (.lst acc) → H T = none →
      (p c = true → ∀ y H4,Same H H4 → R c y (hid D H4) → Ny y H4) → (p c = false → ∀ H3,Same H H3 → Nx H3) →
      g (.ref T) (wipe σ vs) (upd H T (.tup [x,y])) fun σ2 H2=>wipe σ2 vs = wipe σ vs ∧ tt σ2 H2 fun b H3=>if b = true then te σ2 H3 Ny else Nx H3)
    (hd:∀ H ys,Same H1 H → H D = some (.lst ys) → Paired (fun c y=>R c y H) (cs.filter p) ys → Qd H) :
    ∃ W:Nat → Nat → Hp → Prop,(∃ m,W 0 m (upd H1 D (.lst []))) ∧ ∀ i m H,W i m H →
      ((Itz K a b).stop i H ∧ Qd H) ∨ ((Itz K a b).go i H ∧ ∃ Nx:Hp → Prop,(∀ H',Nx H' → ∃ m',m' < m ∧ W (i + 1) m' H') ∧ ∀ x H',(Itz K a b).yld i H x H' → g x (wipe σ vs) H' fun σ2 H2=>wipe σ2 vs = wipe σ vs ∧ tt σ2 H2 fun b H3 =>
        if b = true then te σ2 H3 fun y H4 => ∃ acc,H4 D = some (.lst acc) ∧ acc.length < sizeLine ∧ Nx (upd H4 D (.lst (acc ++ [y]))) else Nx H3):=by
  refine lc_new (J:=Itz K a b) (n:=xs.length) (item:=fun i=>[xs.getD i .non,ys.getD i .non]) p R hR hn hc hD (fun i H hi s=>⟨xs,ys,xs[i],ys[i]'(by omega),s.seq ha,s.seq hb,by simp [hi],by simp [hl,hi]⟩) (fun H s=>⟨xs,ys,s.seq ha,s.seq hb, .inl (Nat.le_refl _)⟩) (fun i H x H' hi s yl => ?_) (fun i c H T acc Ny Nx hi hci s hD1 hT h1 h2 => ?_) hd
  · obtain ⟨T,x',y',e1,hT,e2,k1,k2⟩:=yl
    refine ⟨T,e1,hT, ?_⟩
    rw [e2,List.getD_eq_getElem?_getD,List.getD_eq_getElem?_getD,k1 xs (s.seq ha),k2 ys (s.seq hb)]
    rfl
  · have hx:xs[i]? = some (xs.getD i .non):=by rw [List.getD_eq_getElem?_getD,List.getElem?_eq_getElem hi];rfl
    have hy:ys[i]? = some (ys.getD i .non):=by rw [List.getD_eq_getElem?_getD,List.getElem?_eq_getElem (by omega)];rfl
    exact hs i _ _ c H T acc Ny Nx hx hy hci s hD1 hT h1 h2
theorem lc_enum {α : Type} {K:PySem.W.Frag} {a:Addr} {xs:List V} {cs:List α} {g:TG} {tt:TT} {te:TE} {vs:List Nat} {σ : L2.St} {H1:Hp} {D:Addr} {Qd:Hp → Prop}
    (p : α → Bool) (R : α → V → Hp → Prop) (hR:∀ c y H H',Same H H' → R c y H → R c y H')
    (ha:SqL K H1 a xs) (hn:xs.length ≤ sizeLine) (hc:cs.length = xs.length) (hD:H1 D = none)
    (hs:∀ (i:Nat) (x:V) (c : α) (H:Hp) (T:Addr) (acc:List V) (Ny:V → Hp → Prop) (Nx:Hp → Prop),xs[i]? = some x → cs[i]? = some c → Same H1 H → H D = some (.lst acc) → H T = none →
      (p c = true → ∀ y H4,Same H H4 → R c y (hid D H4) → Ny y H4) → (p c = false → ∀ H3,Same H H3 → Nx H3) →
      g (.ref T) (wipe σ vs) (upd H T (.tup [.int (i:Nat),x])) fun σ2 H2=>wipe σ2 vs = wipe σ vs ∧ tt σ2 H2 fun b H3=>if b = true then te σ2 H3 Ny else Nx H3)
    (hd:∀ H ys,Same H1 H → H D = some (.lst ys) → Paired (fun c y=>R c y H) (cs.filter p) ys → Qd H) :
    ∃ W:Nat → Nat → Hp → Prop,(∃ m,W 0 m (upd H1 D (.lst []))) ∧ ∀ i m H,W i m H →
      ((Ite K a).stop i H ∧ Qd H) ∨ ((Ite K a).go i H ∧ ∃ Nx:Hp → Prop,(∀ H',Nx H' → ∃ m',m' < m ∧ W (i + 1) m' H') ∧ ∀ x H',(Ite K a).yld i H x H' → g x (wipe σ vs) H' fun σ2 H2=>wipe σ2 vs = wipe σ vs ∧ tt σ2 H2 fun b H3 =>
        if b = true then te σ2 H3 fun y H4 => ∃ acc,H4 D = some (.lst acc) ∧ acc.length < sizeLine ∧ Nx (upd H4 D (.lst (acc ++ [y]))) else Nx H3):=by
  refine lc_new (J:=Ite K a) (n:=xs.length) (item:=fun i=>[.int (i:Nat),xs.getD i .non]) p R hR hn hc hD (fun i H hi s=>⟨xs,xs[i],s.seq ha,by simp [hi]⟩) (fun H s=>⟨xs,s.seq ha,Nat.le_refl _⟩) (fun i H x H' hi s yl => ?_) (fun i c H T acc Ny Nx hi hci s hD1 hT h1 h2 => ?_) hd
  · obtain ⟨T,x',e1,hT,e2,k1⟩:=yl
    refine ⟨T,e1,hT, ?_⟩
    rw [e2,List.getD_eq_getElem?_getD,k1 xs (s.seq ha)]
    rfl
  · have hx:xs[i]? = some (xs.getD i .non):=by rw [List.getD_eq_getElem?_getD,List.getElem?_eq_getElem hi];rfl
    exact hs i _ c H T acc Ny Nx hx hci s hD1 hT h1 h2
theorem lc_tpl {α : Type} {K:PySem.W.Frag} {a:Addr} {xs:List V} {cs:List α} {g:TG} {tt:TT} {te:TE} {vs:List Nat} {σ : L2.St} {H1:Hp} {D:Addr} {Qd:Hp → Prop}
    (p : α → Bool) (R : α → V → Hp → Prop) (hR:∀ c y H H',Same H H' → R c y H → R c y H')
    (ha:SqT K H1 a xs) (hn:xs.length ≤ sizeLine) (hc:cs.length = xs.length) (hD:H1 D = none)
    (hs:∀ (i:Nat) (x:V) (c : α) (H:Hp) (acc:List V) (Ny:V → Hp → Prop) (Nx:Hp → Prop),xs[i]? = some x → cs[i]? = some c → Same H1 H → H D = some (.lst acc) →
      (p c = true → ∀ y H4,Same H H4 → R c y (hid D H4) → Ny y H4) → (p c = false → ∀ H3,Same H H3 → Nx H3) →
      g x (wipe σ vs) H fun σ2 H2=>wipe σ2 vs = wipe σ vs ∧ tt σ2 H2 fun b H3=>if b = true then te σ2 H3 Ny else Nx H3)
    (hd:∀ H ys,Same H1 H → H D = some (.lst ys) → Paired (fun c y=>R c y H) (cs.filter p) ys → Qd H) :
    ∃ W:Nat → Nat → Hp → Prop,(∃ m,W 0 m (upd H1 D (.lst []))) ∧ ∀ i m H,W i m H →
      ((Itt K a).stop i H ∧ Qd H) ∨ ((Itt K a).go i H ∧ ∃ Nx:Hp → Prop,(∀ H',Nx H' → ∃ m',m' < m ∧ W (i + 1) m' H') ∧ ∀ x H',(Itt K a).yld i H x H' → g x (wipe σ vs) H' fun σ2 H2=>wipe σ2 vs = wipe σ vs ∧ tt σ2 H2 fun b H3 =>
        if b = true then te σ2 H3 fun y H4 => ∃ acc,H4 D = some (.lst acc) ∧ acc.length < sizeLine ∧ Nx (upd H4 D (.lst (acc ++ [y]))) else Nx H3):=by
  refine lc_gen (J:=Itt K a) (n:=xs.length) (item:=fun i=>xs.getD i .non) p R hR hn hc hD (fun i H hi s=>⟨xs,xs[i],sqT_same s ha,by simp [hi]⟩) (fun H s=>⟨xs,sqT_same s ha,Nat.le_refl _⟩) (fun i H x H' hi s yl => ?_) (fun i c H acc Ny Nx hi hci s hD1 h1 h2 => ?_) hd
  · obtain ⟨e,y⟩:=yl
    have:=y xs (sqT_same s ha)
    exact ⟨e,by rw [List.getD_eq_getElem?_getD,this];rfl⟩
  · have hx:xs[i]? = some (xs.getD i .non):=by rw [List.getD_eq_getElem?_getD,List.getElem?_eq_getElem hi];rfl
    exact hs i _ c H acc Ny Nx hx hci s hD1 h1 h2
theorem for_zip {K:PySem.W.Frag} {a b:Addr} {xs ys:List V} {g:TG} {tb:TS} {D:Ends} {σ : L2.St} {H:Hp} (Pv:Nat → L2.St → Hp → Prop) (h0:Pv 0 σ H) (hxy:ys.length = xs.length) (hl:∀ i σ H,i ≤ xs.length → Pv i σ H → SqL K H a xs ∧ SqL K H b ys)
    (hs:∀ i x y σ H T,xs[i]? = some x → ys[i]? = some y → Pv i σ H → H T = none → g (.ref T) σ (upd H T (.tup [x,y])) fun σ2 H2=>tb { D with nx:=Pv (i + 1),ct:=Pv (i + 1),bk:=D.nx } σ2 H2) (hd:∀ σ H,Pv xs.length σ H → D.nx σ H) :
    ∃ W:Nat → Nat → L2.St → Hp → Prop,(∃ m,W 0 m σ H) ∧ ∀ i m σ H,W i m σ H →
      ((Itz K a b).stop i H ∧ D.nx σ H) ∨ ((Itz K a b).go i H ∧ ∃ N:L2.St → Hp → Prop,(∀ σ' H',N σ' H' → ∃ m',m' < m ∧ W (i + 1) m' σ' H') ∧ ∀ x H',(Itz K a b).yld i H x H' → g x σ H' fun σ2 H2=>tb { D with nx:=N,ct:=N,bk:=D.nx } σ2 H2):=by
  refine ⟨fun i m σ H=>m = xs.length - i ∧ i ≤ xs.length ∧ Pv i σ H,⟨xs.length,by simp,Nat.zero_le _,h0⟩, ?_⟩
  rintro i m σ H ⟨rfl,hi,p⟩
  obtain ⟨q1,q2⟩:=hl i σ H hi p
  by_cases hlt:i < xs.length
  · refine .inr ⟨⟨xs,ys,xs[i],ys[i]'(by omega),q1,q2,by simp [hlt],by simp [hxy,hlt]⟩,Pv (i + 1),fun σ' H' p'=>⟨xs.length - (i + 1),by omega,rfl,hlt,p'⟩,fun x H' y => ?_⟩
    obtain ⟨T,x',y',e,hT,e2,k1,k2⟩:=y
    subst e e2
    exact hs i x' y' σ H T (k1 xs q1) (k2 ys q2) p hT
  · have e:i = xs.length:=by omega
    subst e
    exact .inl ⟨⟨xs,ys,q1,q2, .inl (Nat.le_refl _)⟩,hd σ H p⟩
theorem paired_drop {α β : Type} {F : α → β → Prop} : ∀ {l:List α} {ys:List β} (n:Nat),Paired F l ys → Paired F (l.drop n) (ys.drop n)
  | _,_,0,h=>h
  | _,_,_ + 1, .nil => .nil
  | _,_,n + 1, .cons _ t=>paired_drop n t
theorem paired_set {α β : Type} {F : α → β → Prop} {a : α} {b : β} (r:F a b):∀ {l:List α} {ys:List β} (n:Nat),Paired F l ys → Paired F (l.set n a) (ys.set n b)
  | _,_,_, .nil => .nil
  | _,_,0, .cons _ t => .cons r t
  | _,_,n + 1, .cons q t => .cons q (paired_set r n t)
theorem paired_map {α γ β : Type} {F : γ → β → Prop} (g : α → γ):∀ {l:List α} {ys:List β},Paired (fun a y=>F (g a) y) l ys → Paired F (l.map g) ys
  | _,_, .nil => .nil
  | _,_, .cons r t => .cons r (paired_map g t)
theorem paired_append {α β : Type} {F : α → β → Prop} : ∀ {l l':List α} {m m':List β},Paired F l m → Paired F l' m' → Paired F (l ++ l') (m ++ m')
  | _,_,_,_, .nil,h=>h
  | _,_,_,_, .cons r t,h => .cons r (paired_append t h)
theorem cut_from {xs:List V} (j:Nat):cutV xs (some (j:Int)) none = xs.drop j:=by
  unfold cutV
  rw [HT.sIx_nat,HT.sIx_none]
  by_cases hj:j ≤ xs.length
  · rw [Nat.min_eq_left hj,List.take_of_length_le (by rw [List.length_drop];omega)]
  · rw [Nat.min_eq_right (by omega),List.drop_length,List.drop_eq_nil_of_le (by omega)]
    simp
theorem cut_last {xs:List V} : cutV xs none (some (-1)) = xs.dropLast:=by
  unfold cutV
  rw [HT.sIx_none,List.drop_zero,Nat.sub_zero,List.dropLast_eq_take]
  congr 1
  show (if (-1:Int) < 0 then (-1 + (xs.length:Int)).toNat else min (-1:Int).toNat xs.length) = _
  rw [if_pos (by decide)]
  omega
theorem at_last {xs:List V} {v:V} (h:xs[xs.length - 1]? = some v):atI xs (-1) = some v:=by
  have hl:xs.length - 1 < xs.length:=(List.getElem?_eq_some_iff.mp h).1
  unfold atI ixN
  rw [if_neg (by decide),if_pos (by omega)]
  show xs[(-1 + (xs.length:Int)).toNat]? = _
  rw [show (-1 + (xs.length:Int)).toNat = xs.length - 1 by omega]
  exact h
theorem ixN_nat {n j:Nat} (h:j < n):ixN n (j:Int) = some j:=by
  unfold ixN
  rw [if_pos (by omega),if_pos (by omega)]
  rfl
theorem rep_flat (k:Nat) (v:V):(List.replicate k [v]).flatten = List.replicate k v:=by
  induction k with
  | zero=>rfl
  | succ k ih=>rw [List.replicate_succ,List.flatten_cons,ih];rfl
end Lx

set_option linter.all false
set_option maxRecDepth 100000
namespace Le
open PySem PySem.Spec PyProof.Rows L2 Lx
open Sem (wp)
section
variable {prog:Program} {w:World} {A:Around} {E:Value → Shared → Prop} {s:Shared}
theorem init_kw {T nw:String} {me:Value} {rest:List Value} {kw:List (Str × Value)} (hl:typeLookup (.type T) "__init__" = pure (some (.builtin "object.__init__")))
    (hm:Bind.madeBy (.type T) = pure (some nw)) (hx:(some nw != some "object.__new__") = true) :
    Meets (Builtin.«object.__init__» ⟨me :: rest,kw⟩) (fun _ R s=>s.TypeIs me T ∧ R (.ok (.ret .none)) s):=by
  refine Meets.of_wp fun prog w A R s ⟨hT,hq⟩ => ?_
  cases rest with
  | nil =>
    cases kw with
    | nil=>exact wpAny_pure ⟨_,rfl,hq⟩
    | cons k kw =>
      repeat (any_goals (first | assumption | wp_step))
      exact ⟨_,rfl,hq⟩
  | cons a rest =>
    repeat (any_goals (first | assumption | wp_step))
    exact ⟨_,rfl,hq⟩
theorem callT_kw {T nw:String} {Bn:Builtin} {as:List Value} {kw:List (Str × Value)} {S:PySem.Spec} {Q:Value → Shared → Prop} (ft:TypeCalled T nw "object.__init__") (hx:(some nw != some "object.__new__") = true)
    (ct:checkTypeCall T ⟨as,kw⟩ = pure ()) (cn:checkBuiltinCall nw ⟨.type T :: as,kw⟩ = pure ()) (ok:∀ me,argsOk "object.__init__" ⟨me :: as,kw⟩) (en:entryFor table nw = some Bn)
    (g:Meets (Bn ⟨.type T :: as,kw⟩) S) (h:S A.in1 (wants (fun me s1=>s1.TypeIs me T ∧ Q me s1) E) s):wpAny (model prog w) A (call (.type T) as kw) Q E s:=by
  obtain ⟨c,tl,hmro⟩:=ft.mro
  have q1:=ft.made
  have q2:=ft.sub
  refine wpAny_call (codeAny_of_tree ?_)
  show wpAny _ _ (callAny (.type T) _) _ _ _
  refine wpAny_pure ⟨Code.quiet_builtin _ (by decide +kernel),codeAny_builtin F.entry_type_call ?_⟩
  rw [Around.under_plain (weight_type_call_type T as kw) (units_type_call_type T as kw)]
  have q3:=ft.notType
  have q4:=ft.canCreate
  repeat (any_goals (first | assumption | wp_step))
  refine codeAny_mono (codeAny_call_builtin ft.plain en (wpAny_of_eq cn (g prog w A.in1 _ s h))) fun r s1 hr => ?_
  cases r with
  | error e=>exact hr
  | ok fl =>
    cases fl with
    | ret me =>
      have q5:=ft.init.lookup
      have q6:=ft.init.bind me
      have hT:s1.TypeIs me T:=hr.1
      repeat (any_goals (first | assumption | wp_step))
      refine codeAny_mono (codeAny_call_builtin ft.init.plain F.entry_object_init (ft.init.check _ _ _ _ _ _ _ _ hT (ok me) (init_kw (kw:=kw) (rest:=as) q5 q1 hx prog w A.in1 (wants (fun r s2=>r = .none ∧ Q me s2) E) s1 ⟨hT,rfl,hr.2⟩))) fun r2 s2 h2 => ?_
      cases r2 with
      | error e=>exact h2
      | ok fl =>
        cases fl with
        | ret r =>
          obtain ⟨rfl,hq⟩:=h2
          repeat (any_goals (first | assumption | wp_step))
        | _=>exact h2.elim
    | _=>exact hr.elim
theorem tc_enum (a b:Value):checkTypeCall "enumerate" ⟨[a],[("start",b)]⟩ = pure ():=by kernel_rfl
theorem nc_enum (a b:Value):checkBuiltinCall "enumerate.__new__" ⟨[.type "enumerate",a],[("start",b)]⟩ = pure ():=by kernel_rfl
theorem ok_init (o a b:Value):argsOk "object.__init__" ⟨[o,a],[("start",b)]⟩:=by first | kernel_rfl | exact F.args_object_init_2 o a
open AutoSeq1 (wpAny_loadPart')
theorem new_from1 (l:Addr) (xs:Array Value) (n:Nat) (dc:Option Addr) (sl:Array (Option Value)) (t:Tok) :
    Meets (Builtin.«enumerate.__new__» ⟨[.type "enumerate", .ref l],[("start", .int 1 t)]⟩) (fun _ R s=>s.heap.get? l = some { cls := .type "list",dict:=dc,data := .seq xs n,slots:=sl } ∧
      R (.ok (.ret (.ref (s.heap.push { cls := .type "list_iterator",data := .fields #[.ref l, .int 0 0] }).objs.size)))
        { s with heap:=(s.heap.push { cls := .type "list_iterator",data := .fields #[.ref l, .int 0 0] }).push { cls := .type "enumerate",data := .fields #[.none, .bool false, .ref s.heap.objs.size,rawInt 1, .none, .none] } }) :=
  .of_wp fun prog w A R s h=>by
    obtain ⟨hp,gs,dr,tk,os⟩:=s;obtain ⟨hl,h⟩:=h
    have sb:=sub_enumerate
    have hL:Heap.IsList (Shared.heap ⟨hp,gs,dr,tk,os⟩) l xs:=⟨_,hl,rfl,n,rfl⟩
    wp_walk using wpAny_loadPart' hl
    refine wpAny_stack_any fun st=>wpAny_pure ?_
    split
    · rename_i c _ _ _ _ _
      cases (c == Value.type "enumerate")
      · wp_walk using wpAny_loadPart' hl,wpAny_pyIter_list hL
        exact ⟨_,rfl,h⟩
      · wp_walk using wpAny_loadPart' hl,wpAny_pyIter_list hL
        exact ⟨_,rfl,h⟩
    · wp_walk using wpAny_loadPart' hl,wpAny_pyIter_list hL
      exact ⟨_,rfl,h⟩
theorem call_from1 {l:Addr} {xs:Array Value} {t:Tok} {Q:Value → Shared → Prop} (hL:s.heap.IsList l xs)
    (h:∀ h',IsEnum h' (s.heap.objs.size + 1) s.heap.objs.size 1 .none → h'.IsListIter s.heap.objs.size l 0 → (∀ b o,s.heap.get? b = some o → h'.get? b = some o) → Q (.ref (s.heap.objs.size + 1)) { s with heap:=h' }) :
    wpAny (model prog w) A (call (.type "enumerate") [.ref l] [("start", .int 1 t)]) Q E s:=by
  obtain ⟨⟨c,dc,dt,sl⟩,hl,hc,n,hd⟩:=hL
  replace hc:c = .type "list":=hc
  replace hd:dt = .seq xs n:=hd
  subst hc hd
  refine callT_kw F.called_enumerate (by decide) (tc_enum _ _) (nc_enum _ _) (fun me=>ok_init me _ _) F.entry_enumerate_new (new_from1 l xs n dc sl t) ⟨hl, ?_⟩
  have z:(s.heap.push { cls := .type "list_iterator",data := .fields #[.ref l, .int 0 0] }).objs.size = s.heap.objs.size + 1:=Heap.size_push ..
  have he:IsEnum ((s.heap.push { cls := .type "list_iterator",data := .fields #[.ref l, .int 0 0] }).push { cls := .type "enumerate",data := .fields #[.none, .bool false, .ref s.heap.objs.size,rawInt 1, .none, .none] }) (s.heap.objs.size + 1) s.heap.objs.size 1 .none:=by
    have q:=Heap.get?_push_size (s.heap.push { cls := .type "list_iterator",data := .fields #[.ref l, .int 0 0] }) (o:={ cls := .type "enumerate",data := .fields #[.none, .bool false, .ref s.heap.objs.size,rawInt 1, .none, .none] }) rfl
    rw [z] at q;exact q
  show _ ∧ _
  rw [z]
  exact ⟨⟨_,he,rfl⟩,h _ he ⟨_,Heap.get?_push_of_some _ (Heap.get?_push_size _ rfl),rfl,rfl⟩ fun b o q=>Heap.get?_push_of_some _ (Heap.get?_push_of_some _ q)⟩
end
section
variable {M:Model} {A:Around} {E:Value → Shared → Prop} {s:Shared} {env:Env}
theorem with_kw {pos:Pos} {T:String} {args:List (Bool × Sem Value)} {kws:List (Option Str × Sem Value)} {Q:Value → Shared → Prop} (hp:args.any (·.1) = false) (hk:kws.any (·.1.isNone) = false)
    (h:wpAny M A (evalArgs (.type T) true args kws) (fun a s1=>wpAny M A (call (.type T) a.pos a.kw) Q E s1) E s):wpAny M A (callWith pos (.type T) [] args kws) Q E s:=by
  unfold callWith
  refine wpAny_bind (wpAny_holding (wpAny_mono h (fun a s1 h1=>wpAny_bind (wpAny_standAt ?_)) fun _ _ x=>x))
  simp only [hp,hk,Bool.or_false]
  exact wpAny_bind (wpAny_pure (wpAny_bind (wpAny_mono h1 (fun r s2 hr=>wpAny_bind (wpAny_holding (wpAny_point (wpAny_pure hr)))) fun _ _ x=>x)))
end
def Itf (K:PySem.W.Frag) (a:Addr):It :=
  ⟨fun i H => ∃ (xs:List V) (x:V),SqL K H a xs ∧ xs[i]? = some x,fun i H v H' => ∃ T x,v = .ref T ∧ H T = none ∧ H' = upd H T (.tup [.int ((i + 1:Nat):Int),x]) ∧ ∀ xs,SqL K H a xs → xs[i]? = some x,fun i H => ∃ xs:List V,SqL K H a xs ∧ xs.length ≤ i⟩
theorem shift {prog:Program} {w:World} {A:Around} {it:Addr} {fp:List Addr} {n:Nat} {P:Nat → Value → Prop} {St:Nat → Heap → Prop} (D:Draws prog w A it fp n P St) :
    Draws prog w A it fp (n + 1) (fun i=>P (i - 1)) (fun i h=>1 ≤ i ∧ St (i - 1) h) where
  live:=fun i h st=>D.live _ _ st.2
  frame:=fun i h h' st k=>⟨st.1,D.frame _ _ _ st.2 k⟩
  item:=fun i s Q E hi st hQ=>by
    obtain ⟨j,rfl⟩ : ∃ j,i = j + 1:=⟨i - 1,by have:=st.1;omega⟩
    exact D.item j s Q E (by omega) st.2 fun x h' tk p s1 sb=>hQ x h' tk p ⟨by omega,s1⟩ sb
  done:=fun s Q E st hE=>D.done s Q E st.2 hE
theorem turn_from1 {P:Program} {w:World} {K:PySem.W.Frag} {elts:List Expr} {kk:Nat} {tpos:Pos} (a e it:Addr) :
    Turn P w K (.Tuple elts kk tpos) (Itf K a) [e,it] e (fun i h=>(∃ old,IsEnum h e it ((i + 1:Nat):Int) old) ∧ h.IsListIter it a i ∧ e ≠ it) where
  mem:=by simp
  obj:=fun i h st b hb=>by
    obtain ⟨⟨old,he⟩,⟨o,ho,_,hd⟩,_⟩:=st
    rcases (by simpa using hb:b = e ∨ b = it) with z | z
    · rw [z];exact ⟨_,he,fun v q=>nomatch q⟩
    · rw [z];exact ⟨o,ho,fun v q=>by rw [hd] at q;cases q⟩
  keep:=fun i h h' ⟨⟨old,he⟩,hi,hne⟩ k=>⟨⟨old,k e (by simp) _ he⟩,hi.at fun o q=>k it (by simp) o q,hne⟩
  item:=by
    intro X hP hw hK hc i pins s σ H E I hf ⟨⟨old,he⟩,hit,hne⟩ ⟨xs,x,hq,hx⟩
    subst hP hw hK
    obtain ⟨its,rv,p,hz⟩:=I.list hq
    obtain ⟨u,hu,ru⟩:=rv.get hx
    have hel:=Heap.lt_size he
    have hil:it < s.heap.objs.size:=let ⟨_,q,_⟩:=hit;Heap.lt_size q
    have hai:a ≠ it:=fun z=>by
      obtain ⟨o1,g1,c1,d1⟩:=hit
      obtain ⟨o2,g2,c2,n2,d2⟩:=p.isList
      rw [z,g1] at g2
      cases g2
      rw [d1] at d2
      cases d2
    have hae:e ∉ [it,a]:=fun z=>by
      rcases (by simpa using z:e = it ∨ e = a) with z | z
      · exact hne z
      · obtain ⟨o2,g2,c2,n2,d2⟩:=p.isList
        rw [← z] at g2
        rw [show s.heap.get? e = some _ from he] at g2
        cases g2
        cases d2
    have hlt:i + 1 < its.toArray.size + 1:=by
      have:=(List.getElem?_eq_some_iff.mp hu).1
      simp only [List.size_toArray]
      omega
    have hin:X.A.in1.handled = none:=I.ok.hd hc
    refine wpAny_pyNext_enum_itemD (shift (Draws.list hin it a hai its.toArray)) he ⟨by omega,hit,p.isList⟩ hlt hne hae fun x' h' tk hP ho st hT hsz hk => ?_
    have hxu:x' = u:=by
      have h1:its.toArray[i + 1 - 1]? = some x':=hP
      rw [Nat.add_sub_cancel,List.getElem?_toArray,hu] at h1
      exact (Option.some.inj h1).symm
    subst hxu
    refine ⟨_,rfl,wpAny_letOwnedTupleGo_enum (s:={ s with heap:=h',toks:=tk + 1 }) ho fun h2 he2 sb => ?_⟩
    have hT2:h2.get? s.heap.objs.size = some { cls := .type "tuple",data := .seq #[.int ((i + 1:Nat):Int) tk,x'] }:=(sb.2 _ (Nat.ne_of_gt hel)).trans hT
    have new:ObjOk X.prog X.w (upd H s.heap.objs.size (.tup [.int ((i + 1:Nat):Int),x])) h2 s.heap.objs.size (.tup [.int ((i + 1:Nat):Int),x]) :=
      ⟨by show 2 ≤ sizeLine;decide,[.int ((i + 1:Nat):Int) tk,x'], .cons ⟨_,rfl⟩ (.cons ru .nil),⟨_,hT2,rfl,_,rfl⟩⟩
    have I1:Inv X pins σ (upd H s.heap.objs.size (.tup [.int ((i + 1:Nat):Int),x])) { s with heap:=h2,toks:=tk + 1 } :=
      I.turnedNew (ch:=[e,it]) (fun b ob hb q=>(sb.2 b (fun z=>hb (by simp [z]))).trans (hk b ob (fun z=>hb (by simp [z])) (fun z=>hb (by simp [z])) q)) hf (Nat.le_refl _) new
    refine ⟨.ref s.heap.objs.size,_,I1,rfl,⟨_,x,rfl,I.hok.fresh (Nat.le_refl _),rfl,fun ys hy=>by rw [I.list_inj hy hq];exact hx⟩,⟨⟨x',he2⟩,st.2.1.at fun o q=>(sb.2 it (Ne.symm hne)).trans q,hne⟩,fun b hb => ?_⟩
    have hb':b < s.heap.objs.size:=by
      rcases (by simpa using hb:b = e ∨ b = it) with z | z
      · rw [z];exact hel
      · rw [z];exact hil
    rw [upd_ne (Nat.ne_of_lt hb')]
    exact (hf b hb).1
  done:=by
    intro X hP hw hK hc i pins s σ H E I hf ⟨⟨old,he⟩,hit,hne⟩ ⟨xs,hq,hx⟩
    subst hP hw hK
    obtain ⟨its,rv,p,hz⟩:=I.list hq
    obtain ⟨f0,f1,f2,f3,f4,f5⟩:=hf it (by simp)
    have hl:=rv.length
    have hin:X.A.in1.handled = none:=I.ok.hd hc
    have D:Draws X.prog X.w X.A.in1 it [it,a] 0 (fun _ _=>True) (fun _ h=>h.IsListIter it a i ∧ h.IsList a its.toArray) :=
      ⟨fun _ _ st=>let ⟨o,ho,_⟩:=st.1;⟨o,ho⟩,fun _ _ _ st k=>⟨st.1.at fun o q=>k it (by simp) o q,st.2.at fun o q=>k a (by simp) o q⟩,fun _ _ _ _ h=>absurd h (Nat.not_lt_zero _),
        fun s Q E st hE=>wpAny_nextOf_list_end hin st.1 st.2 (by simp;omega) hE⟩
    exact wpAny_pyNext_enum_endD D he ⟨hit,p.isList⟩ fun h' eb=>⟨rfl,I.turned (t':=s.toks) (fun b o hb q=>eb b o hb q) f0 f1 f3 f4 f5⟩
  self:=fun A i s Q E st h=>let ⟨⟨_,he⟩,_⟩:=st;wpAny_pyIter_enum he h
def iFrom1 (K:PySem.W.Frag) (ta:TA):TI:=fun σ H R=>ta σ H fun vs H1 => ∃ a xs,vs = [.ref a] ∧ SqL K H1 a xs ∧ R (Itf K a) H1
theorem pi_from1 {X:Cx} {e:Expr} {ta:TA} {p pos tpos kp cp:Pos} {n kk:Nat} {elts:List Expr} (K:PySem.W.Frag) (hg:Gl X "enumerate") (hm:X.mg "enumerate" = none) (ha:PA X [e] ta) (hK:X.K = K:=by rfl) (hs:starEach [e] X.env = [(false,eval e X.env)]:=by rfl) :
    PI X (.Tuple elts kk tpos) (.Call (.Name "enumerate" p) [e] [⟨some "start", .Constant (.int 1) n cp,kp⟩] pos) (iFrom1 K ta):=by
  subst hK
  intro pins s σ H R I h
  refine wpAny_Call_Name_kw (ld_blt I hg hm boot_enumerate (with_kw (by rw [hs];rfl) rfl ?_))
  have hb:backTo pos (starEach [e] X.env) = (false,eval e X.env) :: []:=by rw [hs];rfl
  have q0:=ha pos pins s σ H _ I h
  rw [hb] at q0 ⊢
  refine evalArgs_kwB rfl (thn q0 fun us s1 ⟨vs,H1,I1,r1,q1⟩ => ?_)
  obtain ⟨a,xs,ex,hq,q⟩:=q1
  subst ex
  refine kws_cons (thn (pe_int (i:=1) (j:=n) (pos:=cp) pins s1 σ H1 (fun v H2=>v = .int 1 ∧ H2 = H1) I1 ⟨rfl,rfl⟩) fun v s2 ⟨v',H2,I2,r2,e1,e2⟩=>kws_nil ?_)
  subst e1 e2
  obtain ⟨tk,rfl⟩:=r2
  cases r1 with
  | cons r rr =>
    cases rr
    cases r
    obtain ⟨its,rv,p',hz⟩:=I2.list hq
    refine call_from1 p'.isList fun h' he hit hk=>wpAny_pyIter_enum he ?_
    have I3:Inv X pins σ H2 { s2 with heap:=h' }:=I2.kept (t':=s2.toks) hk
    refine ⟨s2.heap.objs.size + 1,[s2.heap.objs.size + 1,s2.heap.objs.size],_,_,H2,rfl,I3,turn_from1 a (s2.heap.objs.size + 1) s2.heap.objs.size,⟨⟨.none,he⟩,hit,Nat.succ_ne_self _⟩,fun b hb => ?_,q⟩
    have hle:s2.heap.objs.size ≤ b:=by
      rcases (by simpa using hb:b = s2.heap.objs.size + 1 ∨ b = s2.heap.objs.size) with z | z
      · rw [z];exact Nat.le_add_right _ _
      · rw [z];exact Nat.le_refl _
    exact I2.fpOk hle (I2.hok.fresh hle)
theorem lc_from1 {α : Type} {K:PySem.W.Frag} {a:Addr} {xs:List V} {cs:List α} {g:TG} {tt:TT} {te:TE} {vs:List Nat} {σ : L2.St} {H1:Hp} {D:Addr} {Qd:Hp → Prop}
    (p : α → Bool) (R : α → V → Hp → Prop) (hR:∀ c y H H',Same H H' → R c y H → R c y H')
    (ha:SqL K H1 a xs) (hn:xs.length ≤ sizeLine) (hc:cs.length = xs.length) (hD:H1 D = none)
    (hs:∀ (i:Nat) (x:V) (c : α) (H:Hp) (T:Addr) (acc:List V) (Ny:V → Hp → Prop) (Nx:Hp → Prop),xs[i]? = some x → cs[i]? = some c → Same H1 H → H D = some (.lst acc) → H T = none →
      (p c = true → ∀ y H4,Same H H4 → R c y (hid D H4) → Ny y H4) → (p c = false → ∀ H3,Same H H3 → Nx H3) →
      g (.ref T) (wipe σ vs) (upd H T (.tup [.int ((i + 1:Nat):Int),x])) fun σ2 H2=>wipe σ2 vs = wipe σ vs ∧ tt σ2 H2 fun b H3=>if b = true then te σ2 H3 Ny else Nx H3)
    (hd:∀ H ys,Same H1 H → H D = some (.lst ys) → Paired (fun c y=>R c y H) (cs.filter p) ys → Qd H) :
    ∃ W:Nat → Nat → Hp → Prop,(∃ m,W 0 m (upd H1 D (.lst []))) ∧ ∀ i m H,W i m H →
      ((Itf K a).stop i H ∧ Qd H) ∨ ((Itf K a).go i H ∧ ∃ Nx:Hp → Prop,(∀ H',Nx H' → ∃ m',m' < m ∧ W (i + 1) m' H') ∧ ∀ x H',(Itf K a).yld i H x H' → g x (wipe σ vs) H' fun σ2 H2=>wipe σ2 vs = wipe σ vs ∧ tt σ2 H2 fun b H3 =>
        if b = true then te σ2 H3 fun y H4 => ∃ acc,H4 D = some (.lst acc) ∧ acc.length < sizeLine ∧ Nx (upd H4 D (.lst (acc ++ [y]))) else Nx H3):=by
  refine lc_new (J:=Itf K a) (n:=xs.length) (item:=fun i=>[.int ((i + 1:Nat):Int),xs.getD i .non]) p R hR hn hc hD (fun i H hi s=>⟨xs,xs[i],s.seq ha,by simp [hi]⟩) (fun H s=>⟨xs,s.seq ha,Nat.le_refl _⟩) (fun i H x H' hi s yl => ?_) (fun i c H T acc Ny Nx hi hci s hD1 hT h1 h2 => ?_) hd
  · obtain ⟨T,x',e1,hT,e2,k1⟩:=yl
    refine ⟨T,e1,hT, ?_⟩
    rw [e2,List.getD_eq_getElem?_getD,k1 xs (s.seq ha)]
    rfl
  · have hx:xs[i]? = some (xs.getD i .non):=by rw [List.getD_eq_getElem?_getD,List.getElem?_eq_getElem hi];rfl
    exact hs i _ c H T acc Ny Nx hx hci s hD1 hT h1 h2
end Le

set_option Elab.async false
set_option linter.all false
set_option maxRecDepth 100000
set_option maxHeartbeats 2000000
namespace Jw
open PySem PySem.Spec PyProof.Rows L2 Lx
open PySem.W (Codec)
theorem units65 {A:Around} {k:Nat} (hr:Room k A):A.units + 65 < cLine:=by have:=hr.un;omega
theorem units64 {A:Around} {k:Nat} (hr:Room k A):A.units + 64 < cLine:=by have:=hr.un;omega
def pfs (c:List Int) (l:Addr):List (Str × V):=putF "bottom" (.int (Jm.bt c)) (putF "top" (.int (Jm.tp c)) (putF "places" (.ref l) (putF "kind" (.int (Jm.kd c)) [])))
theorem pfs_kind (c:List Int) (l:Addr):(pfs c l).lookup ("kind" : Str) = some (.int (Jm.kd c)):=by
  unfold pfs
  rw [lookup_putF,if_neg (by decide +kernel),lookup_putF,if_neg (by decide +kernel),lookup_putF,if_neg (by decide +kernel),lookup_putF,if_pos rfl]
theorem pfs_places (c:List Int) (l:Addr):(pfs c l).lookup ("places" : Str) = some (.ref l):=by
  unfold pfs
  rw [lookup_putF,if_neg (by decide +kernel),lookup_putF,if_neg (by decide +kernel),lookup_putF,if_pos rfl]
theorem pfs_top (c:List Int) (l:Addr):(pfs c l).lookup ("top" : Str) = some (.int (Jm.tp c)):=by
  unfold pfs
  rw [lookup_putF,if_neg (by decide +kernel),lookup_putF,if_pos rfl]
theorem pfs_bottom (c:List Int) (l:Addr):(pfs c l).lookup ("bottom" : Str) = some (.int (Jm.bt c)):=by
  unfold pfs
  rw [lookup_putF,if_pos rfl]
def PartAt (C:Addr) (H:Hp) (a:Addr) (c:List Int):Prop := ∃ dx l,H a = some (.ins C dx (pfs c l)) ∧ H l = some (.lst ((Jm.pl c).map V.int))
theorem PartAt.same {C:Addr} {H H':Hp} {a:Addr} {c:List Int} (s:Same H H') (h:PartAt C H a c):PartAt C H' a c:=by
  obtain ⟨dx,l,h1,h2⟩:=h
  exact ⟨dx,l,s _ _ h1,s _ _ h2⟩
def PV (C:Addr) (c:List Int) (y:V) (H:Hp):Prop := ∃ a,y = .ref a ∧ PartAt C H a c
theorem PV.same {C:Addr} : ∀ (c:List Int) (y:V) (H H':Hp),Same H H' → PV C c y H → PV C c y H':=fun c y H H' s ⟨a,e,h⟩=>⟨a,e,h.same s⟩
def PsAt (K:PySem.W.Frag) (C:Addr) (H:Hp) (l:Addr) (cs:List (List Int)):Prop := ∃ ys,SqL K H l ys ∧ Paired (fun c y=>PV C c y H) cs ys
theorem PsAt.same {K:PySem.W.Frag} {C:Addr} {H H':Hp} {l:Addr} {cs:List (List Int)} (s:Same H H') (h:PsAt K C H l cs):PsAt K C H' l cs:=by
  obtain ⟨ys,h1,h2⟩:=h
  exact ⟨ys,s.seq h1,paired_same PV.same s h2⟩
theorem sqL_ins {K:PySem.W.Frag} {C:Addr} {H:Hp} {a p dx:Addr} {fs:List (Str × V)} {xs:List V} {u:HO} (h:SqL K H a xs) (hp:H p = some (.ins C dx fs)):SqL K (upd H p u) a xs:=by
  rcases h with (h | ⟨o,h⟩) | h
  · exact .inl (.inl (by rw [upd_ne (ne_of h hp (by intro z;cases z))];exact h))
  · exact .inl (.inr ⟨o,by rw [upd_ne (ne_of h hp (by intro z;cases z))];exact h⟩)
  · exact .inr h
theorem small_line {n:Nat} (h:n ≤ 1000):n ≤ sizeLine:=Nat.le_of_lt (small1000 h)
theorem rgc7 {n:Nat} {j:Int} (hn:n ≤ 1000) (hj:j = 7 * n + 1):RgC 1 j 7 n:=by
  have hs:Builtin.Range.rangeSize 1 j 7 = (n:Int):=by
    unfold Builtin.Range.rangeSize
    rw [if_pos (by decide)]
    split <;> omega
  refine ⟨by decide,by decide, ?_,hs⟩
  unfold Builtin.Range.small
  rw [hs]
  simp only [Builtin.Range.rangeFitsLong,Bool.and_eq_true,Bool.or_eq_true,decide_eq_true_eq,beq_iff_eq,show ((7:Int) > 0) by decide,if_true]
  omega
theorem count_at {c:List Int} (g:Jm.Good c) {l:List Int} (hl:l.length = 14):atI (l.map V.int) (Jm.kd c) = some (V.int (l.getD (Jm.kd c).toNat 0)):=by
  obtain ⟨k,a,b,d,e,t,q,F⟩:=g.facts
  have h0:=F.k0
  have h1:=F.k1
  obtain ⟨rfl,_⟩:=F
  show atI (l.map V.int) k = some (V.int (l.getD k.toNat 0))
  refine at_of (j:=k.toNat) (by omega) ?_
  rw [List.getElem?_map,List.getD_eq_getElem?_getD,List.getElem?_eq_getElem (show k.toNat < l.length by omega)]
  rfl
theorem nodeC_nn (n:Nat):0 ≤ Jm.nodeCounts.getD n 0:=by
  by_cases h:n < 14
  · have key:∀ i:Fin 14,0 ≤ Jm.nodeCounts.getD i.1 0:=by decide
    exact key ⟨n,h⟩
  · rw [List.getD_eq_getElem?_getD,List.getElem?_eq_none (show Jm.nodeCounts.length ≤ n by show 14 ≤ n;omega)]
    decide
theorem cut_toI {xs:List V} {z:Int} (hz:0 ≤ z):cutV xs none (some z) = xs.take z.toNat:=by
  have e:z = ((z.toNat:Nat):Int):=by omega
  rw [e,cut_to]
  rfl
theorem sort2_of {ns:List Int} {u v:Int} (hp:ns.Perm [u,v]) (hs:ns.Pairwise (· ≤ ·)):ns = Jm.sort2 [u,v]:=by
  have hl:=hp.length_eq
  match ns,hl with
  | [a,b],_ =>
    have hab:a ≤ b:=by
      have:=List.pairwise_cons.mp hs
      exact this.1 b (by simp)
    have ha:a ∈ [u,v]:=hp.mem_iff.mp (by simp)
    have hb:b ∈ [u,v]:=hp.mem_iff.mp (by simp)
    have hu:u ∈ [a,b]:=hp.mem_iff.mpr (by simp)
    have hv:v ∈ [a,b]:=hp.mem_iff.mpr (by simp)
    simp only [List.mem_cons,List.not_mem_nil,or_false] at ha hb hu hv
    show [a,b] = (if u ≤ v then [u,v] else [v,u])
    split <;> simp only [List.cons.injEq,and_true] <;> omega
theorem rows_dp {α : Type} {K:PySem.W.Frag} {H:Hp} {g : α → List Int} : ∀ {l:List α} {ys:List V},Paired (fun c y => ∃ q,y = V.ref q ∧ H q = some (.lst ((g c).map V.int))) l ys → DpAll K H ys ((l.map g).map dInts)
  | _,_, .nil => .nil
  | _,_, .cons ⟨q,e,h⟩ t=>by
    subst e
    exact .cons (dp_list (SqL.of h)) (rows_dp t)
theorem flat_ints:∀ ns:List Int,(ns.map V.int).all flatV = true
  | [] => rfl
  | n :: r=>by rw [List.map_cons,List.all_cons,flat_ints r];rfl
theorem inV_ints (x:Int) (ns:List Int):inV (.int x) (ns.map V.int) = decide (x ∈ ns):=by
  unfold inV
  rw [List.any_map,Bool.eq_iff_iff]
  simp only [List.any_eq_true,Function.comp,eqV,beq_iff_eq,decide_eq_true_eq]
  constructor
  · rintro ⟨y,hy,rfl⟩;exact hy
  · intro h;exact ⟨x,h,rfl⟩
theorem num_small {c:List Int} (g:Jm.Good c):(-(2 ^ 64) < Jm.tp c ∧ Jm.tp c < 2 ^ 64) ∧ (-(2 ^ 64) < Jm.bt c ∧ Jm.bt c < 2 ^ 64):=by
  obtain ⟨k,a,b,d,e,t,q,F⟩:=g.facts
  have h0:=F.t0
  have h1:=F.t1
  have h2:=F.q0
  have h3:=F.q1
  obtain ⟨rfl,_⟩:=F
  show (-(2 ^ 64) < t ∧ t < 2 ^ 64) ∧ (-(2 ^ 64) < q ∧ q < 2 ^ 64)
  omega
theorem pl_at {c:List Int} (g:Jm.Good c) {j:Nat} (hj:j < 4):atI ((Jm.pl c).map V.int) (j:Int) = some (V.int ((Jm.pl c).getD j 0)):=by
  have hl:(Jm.pl c).length = 4:=by
    unfold Jm.pl
    rw [List.length_take,List.length_drop,g.len]
    rfl
  refine atI_nat ?_
  rw [List.getElem?_map,List.getD_eq_getElem?_getD,List.getElem?_eq_getElem (by omega)]
  rfl
theorem near_M {c:List Int} {cs:List (List Int)} (g:Jm.Good c) (hM:Jm.kd c = 3) (h:Jm.mayRef c cs = true):(0 ≤ (Jm.pl c).getD 0 0 ∧ (Jm.pl c).getD 0 0 < cs.length) ∧ (0 ≤ (Jm.pl c).getD 1 0 ∧ (Jm.pl c).getD 1 0 < cs.length):=by
  obtain ⟨u,v,e1,_,e3,e4⟩:=Jm.refs_M g hM
  unfold Jm.mayRef at h
  by_cases far:((Jm.refsOf c).any fun x=>decide ((cs.length:Int) ≤ x)) = true
  · rw [if_pos far] at h
    cases h
  · have n1:¬ (cs.length:Int) ≤ u:=fun z=>far (List.any_eq_true.mpr ⟨u,by rw [e1];simp,decide_eq_true z⟩)
    have n2:¬ (cs.length:Int) ≤ v:=fun z=>far (List.any_eq_true.mpr ⟨v,by rw [e1];simp,decide_eq_true z⟩)
    rw [e3,e4]
    omega
theorem first_len (cs:List (List Int)) (n:Int):(Jm.firstFault cs n).length ≤ 2:=by
  have key:∀ (r pre:List (List Int)),(Jm.firstFrom n pre r).length ≤ 2:=by
    intro r
    induction r with
    | nil=>intro pre;exact Nat.zero_le _
    | cons c r ih =>
      intro pre
      show (if Jm.fault c pre n ≠ 0 then [(pre.length:Int),Jm.fault c pre n] else Jm.firstFrom n (pre ++ [c]) r).length ≤ 2
      split
      · exact Nat.le_refl _
      · exact ih _
  exact key cs []
def spInit (K:PySem.W.Frag) (C:Addr):Sp:=fun vs H Q _ => ∃ (p dx a:Addr) (c:List Int),vs = [.ref p, .ref a] ∧ H p = some (.ins C dx []) ∧ SqL K H a (c.map V.int) ∧ c.length = 7 ∧
  ∀ (H':Hp) (l:Addr),H' p = some (.ins C dx (pfs c l)) → H l = none → H' l = some (.lst ((Jm.pl c).map V.int)) → (∀ b o,H b = some o → b ≠ p → H' b = some o) → Q .non H'
def spParts (K:PySem.W.Frag) (C:Addr):Sp:=fun vs H Q _ => ∃ (a:Addr) (ns:List Int) (n:Nat),vs = [.ref a] ∧ SqL K H a (ns.map V.int) ∧ ns.length = 7 * n + 1 ∧ n ≤ 1000 ∧
  ∀ (H':Hp) (l:Addr),Same H H' → PsAt K C H' l (Jm.parts ns) → Q (.ref l) H'
def spPt (C:Addr) (G:List Int → Prop) (f:List Int → V):Sp:=fun vs H Q _ => ∃ (a:Addr) (c:List Int),vs = [.ref a] ∧ PartAt C H a c ∧ G c ∧ ∀ H':Hp,Same H H' → Q (f c) H'
def spPtL (C:Addr) (G:List Int → Prop) (f:List Int → List Int):Sp:=fun vs H Q _ => ∃ (a:Addr) (c:List Int),vs = [.ref a] ∧ PartAt C H a c ∧ G c ∧ ∀ (H':Hp) (l:Addr),Same H H' → H' l = some (.lst ((f c).map V.int)) → Q (.ref l) H'
def spPs (K:PySem.W.Frag) (C:Addr) (G:List Int → Prop) (f:List (List Int) → Int):Sp:=fun vs H Q _ => ∃ (l:Addr) (cs:List (List Int)),vs = [.ref l] ∧ PsAt K C H l cs ∧ (∀ c ∈ cs,G c) ∧ cs.length ≤ 1000 ∧ ∀ H':Hp,Same H H' → Q (.int (f cs)) H'
def spPB (K:PySem.W.Frag) (C:Addr) (G:List Int → List (List Int) → Prop) (f:List Int → List (List Int) → V):Sp:=fun vs H Q _ => ∃ (a l:Addr) (c:List Int) (cs:List (List Int)),vs = [.ref a, .ref l] ∧ PartAt C H a c ∧ PsAt K C H l cs ∧ Jm.Good c ∧ (∀ c ∈ cs,Jm.Good c) ∧ cs.length ≤ 1000 ∧ G c cs ∧ ∀ H':Hp,Same H H' → Q (f c cs) H'
def spPair (K:PySem.W.Frag) (C:Addr):Sp:=fun vs H Q _ => ∃ (a l:Addr) (u v:Int) (cs:List (List Int)),vs = [.ref a, .ref l] ∧ SqL K H a ([u,v].map V.int) ∧ PsAt K C H l cs ∧ (∀ c ∈ cs,Jm.Good c) ∧ cs.length ≤ 1000 ∧ ∀ H':Hp,Same H H' → Q (.bl (Jm.newPair [u,v] cs)) H'
def spFault (K:PySem.W.Frag) (C:Addr):Sp:=fun vs H Q _ => ∃ (a l:Addr) (n:Int) (c:List Int) (cs:List (List Int)),vs = [.ref a, .ref l, .int n] ∧ PartAt C H a c ∧ PsAt K C H l cs ∧ Jm.Good c ∧ (∀ c ∈ cs,Jm.Good c) ∧ cs.length ≤ 1000 ∧ ∀ H':Hp,Same H H' → Q (.int (Jm.fault c cs n)) H'
def spFirst (K:PySem.W.Frag) (C:Addr):Sp:=fun vs H Q _ => ∃ (l:Addr) (n:Int) (cs:List (List Int)),vs = [.ref l, .int n] ∧ PsAt K C H l cs ∧ (∀ c ∈ cs,Jm.Good c) ∧ cs.length ≤ 1000 ∧ ∀ (H':Hp) (p:Addr),Same H H' → H' p = some (.lst ((Jm.firstFault cs n).map V.int)) → Q (.ref p) H'
def spRow (K:PySem.W.Frag) (f:List Int → V):Sp:=fun vs H Q _ => ∃ (a:Addr) (ns:List Int),vs = [.ref a] ∧ SqL K H a (ns.map V.int) ∧ ns.length ≤ 120 ∧ ∀ H':Hp,Same H H' → Q (f ns) H'
def spNet (K:PySem.W.Frag) (f:List Int → List Int):Sp:=fun vs H Q _ => ∃ (a:Addr) (ns:List Int),vs = [.ref a] ∧ SqL K H a (ns.map V.int) ∧ ns.length ≤ 120 ∧ ∀ (H':Hp) (p:Addr),Same H H' → H' p = some (.lst ((f ns).map V.int)) → Q (.ref p) H'
theorem parts_n {ns:List Int} {n:Nat} (h:ns.length = 7 * n + 1) (hl:ns.length ≤ 120):n ≤ 1000:=by omega
end Jw

namespace Fm
open Jm
def cc (c:List Int):Nat:=(curCounts.getD (kd c).toNat 0).toNat
def cur (N:Nat) (cs:List (List Int)) (k:Nat):Nat:=N + 1 + ((cs.take k).map cc).sum
def one (N:Nat) (cs:List (List Int)):Nat:=N + 1 + (cs.map cc).sum
def curL (N:Nat) (cs:List (List Int)):List Int:=(List.range cs.length).map fun k=>(cur N cs k:Int)
def pn (c:List Int) (i:Nat):Nat:=((pl c).getD i 0).toNat
def zero (w:Nat):List Int:=List.replicate (w + 1) 0
def single (w j:Nat):List Int:=(zero w).set j 1
def between (w a b:Nat):List Int:=((zero w).set a 1).set b (((zero w).set a 1).getD b 0 - 1)
def times (q:Int) (f:List Int):List Int:=f.map fun x=>q * x
def less (f g:List Int):List Int:=(f.zip g).map fun (x:Int × Int)=>x.1 - x.2
def dotI (f g:List Int):Int:=((f.zip g).map fun (x:Int × Int)=>x.1 * x.2).sum
structure LawD where
  told:List Int
  fac:List Int
  top:Int
  bot:Int
def LawD.form (l:LawD):List Int:=less (times l.bot l.told) (times l.top l.fac)
def setsV (c:List Int) (st:Int):Bool:=if kd c = 12 then decide (tp c ≠ 0) else if kd c = 13 then decide (st = 1) else decide (kd c ∈ [0,2,4,6,8,10])
section
variable (N:Nat) (cs:List (List Int))
def toldF (k:Nat) (st:Int):List Int:=let c:=cs.getD k []
  if kd c = 11 then between (one N cs) (pn c 2) (pn c 3) else if setsV c st = true then between (one N cs) (pn c 0) (pn c 1) else single (one N cs) (cur N cs k)
def facF (k:Nat) (st:Int):List Int:=let c:=cs.getD k []
  if kd c = 0 then single (one N cs) (cur N cs k)
  else if (kd c = 4 ∨ kd c = 5) ∨ (kd c = 13 ∧ st = 1) then single (one N cs) (one N cs)
  else if kd c = 6 ∨ kd c = 7 ∨ kd c = 10 then between (one N cs) (pn c 2) (pn c 3)
  else if kd c = 8 ∨ kd c = 9 then single (one N cs) (cur N cs (pn c 2))
  else zero (one N cs)
def lawsOf (k:Nat) (st:Int):List LawD:=let c:=cs.getD k []
  if cc c = 0 then [] else ⟨toldF N cs k st,facF N cs k st,tp c,bt c⟩ :: (if kd c = 10 then [⟨single (one N cs) (cur N cs k + 1),times (-1) (single (one N cs) (cur N cs k)),tp c,bt c⟩] else [])
def allLaws (sts:List Int):List LawD:=(List.range sts.length).flatMap fun k=>lawsOf N cs k (sts.getD k 0)
def branchAt (k:Nat):List (Nat × Nat × Nat):=let c:=cs.getD k []
  (if 0 < cc c then [(pn c 0,pn c 1,cur N cs k)] else []) ++ (if kd c = 10 then [(pn c 2,pn c 3,cur N cs k + 1)] else [])
def branches:List (Nat × Nat × Nat):=(List.range cs.length).flatMap (branchAt N cs)
end
def bump (fs:List (List Int)) (v j:Nat) (d:Int):List (List Int):=fs.set v ((fs.getD v []).set j ((fs.getD v []).getD j 0 + d))
def bump2 (fs:List (List Int)) (b:Nat × Nat × Nat):List (List Int):=bump (bump fs b.1 b.2.2 1) b.2.1 b.2.2 (-1)
section
variable (N:Nat) (cs:List (List Int))
def nodeAll:List (List Int):=(branches N cs).foldl bump2 (List.replicate (N + 1) (zero (one N cs)))
def nodeForms:List (List Int):=(nodeAll N cs).drop 1
def lawForms (sts:List Int):List (List Int):=nodeForms N cs ++ (allLaws N cs sts).map LawD.form
end
def redL (forms:List (List Int)) (w:Nat):Red.St:=Red.upto (forms.map fun f=>f.drop 1) (w - 1)
structure SolD where
  tops:List Int
  bot:Int
def lastI (r:List Int):Int:=r.getD (r.length - 1) 0
def solOf (forms:List (List Int)) (w:Nat):Option SolD :=
  if (redL forms w).rank < w - 1 then none
  else some ⟨[0] ++ (redL forms w).rows.map (fun r=>(if 0 < (redL forms w).div then -1 else 1) * lastI r) ++ [((redL forms w).div.natAbs:Int)],((redL forms w).div.natAbs:Int)⟩
def choices (c:List Int):List Int:=if kd c = 13 then [0,1] else [0]
def longer (rows:List (List Int)) (c:List Int):List (List Int):=rows.flatMap fun r=>(choices c).map fun s=>r ++ [s]
def stateRows (cs:List (List Int)):List (List Int):=cs.foldl longer [[]]
def diodeIx (cs:List (List Int)):List Nat:=(List.range cs.length).filter fun k=>decide (kd (cs.getD k []) = 13)
section
variable (N:Nat) (cs:List (List Int))
def condH (k:Nat) (st:Int) (s:SolD):Bool:=if st = 1 then decide (0 ≤ dotI (single (one N cs) (cur N cs k)) s.tops)
  else decide (dotI (between (one N cs) (pn (cs.getD k []) 0) (pn (cs.getD k []) 1)) s.tops * bt (cs.getD k []) ≤ tp (cs.getD k []) * s.bot)
def condsH (sts:List Int) (s:SolD):Bool:=(diodeIx cs).all fun k=>condH N cs k (sts.getD k 0) s
def tryRow (sts:List Int):Option (List Int × SolD):=match solOf (lawForms N cs sts) (one N cs) with
  | none=>none
  | some s=>if condsH N cs sts s = true then some (sts,s) else none
def opPoint:Option (List Int × SolD):=(stateRows cs).findSome? (tryRow N cs)
end
structure Right (N:Nat) (cs:List (List Int)):Prop where
  n1:1 ≤ N
  n8:N ≤ 8
  len:cs.length ≤ 14
  dio:diodes cs ≤ 5
  good:∀ c ∈ cs,Good c
  nodes:∀ c ∈ cs, ∀ v ∈ nodesOf c,v ≤ (N:Int)
  num:∀ c ∈ cs,mayNum c = true
  ref:∀ k c,cs[k]? = some c → kd c = 8 ∨ kd c = 9 → pn c 2 < k ∧ kd (cs.getD (pn c 2) []) ≠ 3
theorem len_zero (w:Nat):(zero w).length = w + 1:=by simp [zero]
theorem len_single (w j:Nat):(single w j).length = w + 1:=by simp [single,zero]
theorem len_between (w a b:Nat):(between w a b).length = w + 1:=by simp [between,zero]
theorem len_times (q:Int) (f:List Int):(times q f).length = f.length:=by simp [times]
theorem len_less {f g:List Int} (h:f.length = g.length):(less f g).length = f.length:=by simp [less,h]
theorem cc_le (c:List Int):cc c ≤ 2:=by
  unfold cc
  by_cases h:(kd c).toNat < 14
  · have key:∀ i:Fin 14,(curCounts.getD i.1 0).toNat ≤ 2:=by decide
    exact key ⟨_,h⟩
  · rw [List.getD_eq_getElem?_getD,List.getElem?_eq_none (show curCounts.length ≤ (kd c).toNat by show 14 ≤ _;omega)]
    decide
theorem sum_le:∀ (l:List (List Int)),(l.map cc).sum ≤ 2 * l.length
  | [] => Nat.le_refl _
  | c :: l=>by
    rw [List.map_cons,List.sum_cons,List.length_cons]
    have:=sum_le l
    have:=cc_le c
    omega
theorem sum_take_le (cs:List (List Int)) (k:Nat):((cs.take k).map cc).sum ≤ (cs.map cc).sum:=by
  have:(cs.map cc).sum = ((cs.take k).map cc).sum + ((cs.drop k).map cc).sum:=by
    rw [← List.sum_append, ← List.map_append,List.take_append_drop]
  omega
theorem cur_le (N:Nat) (cs:List (List Int)) (k:Nat):cur N cs k ≤ one N cs:=by
  have:=sum_take_le cs k
  unfold cur one
  omega
theorem cur_succ {N:Nat} {cs:List (List Int)} {k:Nat} {c:List Int} (h:cs[k]? = some c):cur N cs (k + 1) = cur N cs k + cc c:=by
  unfold cur
  have hl:=(List.getElem?_eq_some_iff.mp h).1
  have e:cs.take (k + 1) = cs.take k ++ [c]:=by
    rw [List.take_add_one,h];rfl
  rw [e,List.map_append,List.sum_append]
  simp
  omega
theorem cur_lt {N:Nat} {cs:List (List Int)} {k:Nat} {c:List Int} (h:cs[k]? = some c):cur N cs k + cc c ≤ one N cs:=by
  rw [← cur_succ h];exact cur_le _ _ _
theorem one_le {N:Nat} {cs:List (List Int)} (h:N ≤ 8) (hl:cs.length ≤ 14):one N cs ≤ 37:=by
  have:=sum_le cs
  unfold one
  omega
theorem len_told (N:Nat) (cs:List (List Int)) (k:Nat) (st:Int):(toldF N cs k st).length = one N cs + 1:=by
  unfold toldF
  dsimp only
  split
  · exact len_between _ _ _
  · split
    · exact len_between _ _ _
    · exact len_single _ _
theorem len_fac (N:Nat) (cs:List (List Int)) (k:Nat) (st:Int):(facF N cs k st).length = one N cs + 1:=by
  unfold facF
  dsimp only
  split
  · exact len_single _ _
  · split
    · exact len_single _ _
    · split
      · exact len_between _ _ _
      · split
        · exact len_single _ _
        · exact len_zero _
theorem lawsOf_len (N:Nat) (cs:List (List Int)) (k:Nat) (st:Int):(lawsOf N cs k st).length ≤ 2:=by
  unfold lawsOf
  dsimp only
  split
  · exact Nat.zero_le _
  · split
    · exact Nat.le_refl _
    · exact Nat.le_succ _
theorem branchAt_len (N:Nat) (cs:List (List Int)) (k:Nat):(branchAt N cs k).length ≤ 2:=by
  unfold branchAt
  dsimp only
  rw [List.length_append]
  have h1:(if 0 < cc (cs.getD k []) then [(pn (cs.getD k []) 0,pn (cs.getD k []) 1,cur N cs k)] else []).length ≤ 1:=by
    split
    · exact Nat.le_refl _
    · exact Nat.zero_le _
  have h2:(if kd (cs.getD k []) = 10 then [(pn (cs.getD k []) 2,pn (cs.getD k []) 3,cur N cs k + 1)] else []).length ≤ 1:=by
    split
    · exact Nat.le_refl _
    · exact Nat.zero_le _
  omega
theorem abs_set {l:List Int} {j:Nat} {v:Int} {b:Nat} (h:∀ x ∈ l,x.natAbs ≤ b) (hv:v.natAbs ≤ b):∀ x ∈ l.set j v,x.natAbs ≤ b:=fun x hx=>by
  rcases List.mem_or_eq_of_mem_set hx with e | e
  · exact h x e
  · rw [e];exact hv
theorem abs_zero (w:Nat):∀ x ∈ zero w,x.natAbs ≤ 1:=fun x hx=>by
  rw [List.eq_of_mem_replicate hx];decide
theorem abs_single (w j:Nat):∀ x ∈ single w j,x.natAbs ≤ 1:=abs_set (abs_zero w) (by decide)
theorem abs_between (w a b:Nat):∀ x ∈ between w a b,x.natAbs ≤ 1:=by
  refine abs_set (abs_single w a) ?_
  have h:((zero w).set a 1).getD b 0 = 0 ∨ ((zero w).set a 1).getD b 0 = 1:=by
    rw [Red.getD_set]
    split
    · exact .inr rfl
    · left
      unfold zero
      rw [List.getD_eq_getElem?_getD,List.getElem?_replicate]
      split <;> rfl
  omega
theorem nodes_are {c:List Int} (g:Good c) {i:Nat} (h:i < (nodeCounts.getD (kd c).toNat 0).toNat) (h4:i < 4):(pl c).getD i 0 ∈ nodesOf c:=by
  have hl:(pl c).length = 4:=by
    unfold pl
    rw [List.length_take,List.length_drop,g.len]
    rfl
  unfold nodesOf
  generalize nodeCounts.getD (kd c).toNat 0 = n at h ⊢
  rw [List.getD_eq_getElem?_getD,List.getElem?_eq_getElem (show i < (pl c).length by omega),Option.getD_some,List.mem_take_iff_getElem]
  exact ⟨i,by omega,rfl⟩
theorem pn_le {N:Nat} {cs:List (List Int)} (R:Right N cs) {c:List Int} (hc:c ∈ cs) {i:Nat} (h:i < (nodeCounts.getD (kd c).toNat 0).toNat) (h4:i < 4):pn c i ≤ N:=by
  have:=R.nodes c hc _ (nodes_are (R.good c hc) h h4)
  unfold pn
  omega
theorem node_le {N:Nat} {cs:List (List Int)} (R:Right N cs) {c:List Int} (hc:c ∈ cs) (h:(nodeCounts.getD (kd c).toNat 0).toNat = 4):pn c 2 ≤ Fm.one N cs ∧ pn c 3 ≤ Fm.one N cs:=by
  have h2:=pn_le R hc (i:=2) (by omega) (by decide)
  have h3:=pn_le R hc (i:=3) (by omega) (by decide)
  unfold one
  omega
theorem node2_le {N:Nat} {cs:List (List Int)} (R:Right N cs) {c:List Int} (hc:c ∈ cs) (h:cc c ≠ 0):pn c 0 ≤ Fm.one N cs ∧ pn c 1 ≤ Fm.one N cs:=by
  have hn:2 ≤ (nodeCounts.getD (kd c).toNat 0).toNat:=by
    unfold cc at h
    generalize (kd c).toNat = n at h
    by_cases hn:n < 14
    · have key:∀ i:Fin 14,(curCounts.getD i.1 0).toNat ≠ 0 → 2 ≤ (nodeCounts.getD i.1 0).toNat:=by decide
      exact key ⟨n,hn⟩ h
    · rw [List.getD_eq_getElem?_getD,List.getElem?_eq_none (show curCounts.length ≤ n by show 14 ≤ n;omega)] at h
      exact absurd rfl h
  have h0:=pn_le R hc (i:=0) (by omega) (by decide)
  have h1:=pn_le R hc (i:=1) (by omega) (by decide)
  unfold one
  omega
theorem len_bump (fs:List (List Int)) (v j:Nat) (d:Int):(bump fs v j d).length = fs.length:=by simp [bump]
theorem len_bump2 (fs:List (List Int)) (b:Nat × Nat × Nat):(bump2 fs b).length = fs.length:=by simp [bump2,len_bump]
theorem wid_bump {fs:List (List Int)} {v j w:Nat} {d:Int} (h:∀ r ∈ fs,r.length = w) (hv:v < fs.length):∀ r ∈ bump fs v j d,r.length = w:=fun r hr=>by
  unfold bump at hr
  rcases List.mem_or_eq_of_mem_set hr with e | e
  · exact h r e
  · rw [e,List.length_set]
    exact h _ (Red.mem_getD.mpr ⟨v,hv,rfl⟩)
theorem wid_bump2 {fs:List (List Int)} {b:Nat × Nat × Nat} {w:Nat} (h:∀ r ∈ fs,r.length = w) (h1:b.1 < fs.length) (h2:b.2.1 < fs.length):∀ r ∈ bump2 fs b,r.length = w :=
  wid_bump (wid_bump h h1) (by rw [len_bump];exact h2)
theorem branch_ok {N:Nat} {cs:List (List Int)} (R:Right N cs):∀ b ∈ branches N cs,b.1 ≤ N ∧ b.2.1 ≤ N ∧ b.2.2 < one N cs:=fun b hb=>by
  unfold branches at hb
  obtain ⟨k,hk,hm⟩:=List.mem_flatMap.mp hb
  have hk':k < cs.length:=List.mem_range.mp hk
  have hc:cs[k]? = some (cs.getD k []):=by rw [List.getD_eq_getElem?_getD,List.getElem?_eq_getElem hk'];rfl
  have hcm:=List.mem_of_getElem? hc
  have hcl:=cur_lt (N:=N) hc
  unfold branchAt at hm
  dsimp only at hm
  generalize cs.getD k [] = c at *
  rcases List.mem_append.mp hm with e | e
  · split at e
    · rename_i h0
      rw [List.mem_singleton.mp e]
      have hn:2 ≤ (nodeCounts.getD (kd c).toNat 0).toNat:=by
        unfold cc at h0
        generalize (kd c).toNat = n at h0
        by_cases hn:n < 14
        · have key:∀ i:Fin 14,0 < (curCounts.getD i.1 0).toNat → 2 ≤ (nodeCounts.getD i.1 0).toNat:=by decide
          exact key ⟨n,hn⟩ h0
        · rw [List.getD_eq_getElem?_getD,List.getElem?_eq_none (show curCounts.length ≤ n by show 14 ≤ n;omega)] at h0
          exact absurd h0 (by decide)
      exact ⟨pn_le R hcm (by omega) (by decide),pn_le R hcm (by omega) (by decide),by show cur N cs k < _;omega⟩
    · cases e
  · split at e
    · rename_i h10
      rw [List.mem_singleton.mp e]
      have h4:(nodeCounts.getD (kd c).toNat 0).toNat = 4:=by rw [h10];decide
      have h2:cc c = 2:=by unfold cc;rw [h10];decide
      exact ⟨pn_le R hcm (by omega) (by decide),pn_le R hcm (by omega) (by decide),by show cur N cs k + 1 < _;omega⟩
    · cases e
theorem flat_len {α : Type} (g:Nat → List α) (h:∀ k,(g k).length ≤ 2):∀ n,((List.range n).flatMap g).length ≤ 2 * n
  | 0=>Nat.le_refl _
  | n + 1=>by
    rw [List.range_succ,List.flatMap_append,List.length_append,List.flatMap_singleton]
    have:=flat_len g h n
    have:=h n
    omega
theorem allLaws_len (N:Nat) (cs:List (List Int)) (sts:List Int):(allLaws N cs sts).length ≤ 2 * sts.length:=flat_len _ (fun k=>lawsOf_len N cs k _) _
theorem nodeAll_len (N:Nat) (cs:List (List Int)):(nodeAll N cs).length = N + 1:=by
  unfold nodeAll
  have:∀ (bs:List (Nat × Nat × Nat)) (fs:List (List Int)),(bs.foldl bump2 fs).length = fs.length:=by
    intro bs
    induction bs with
    | nil=>intro fs;rfl
    | cons b bs ih=>intro fs;rw [List.foldl_cons,ih,len_bump2]
  rw [this,List.length_replicate]
theorem nodeForms_len (N:Nat) (cs:List (List Int)):(nodeForms N cs).length = N:=by
  unfold nodeForms
  rw [List.length_drop,nodeAll_len]
  omega
theorem first_nil {n:Int} : ∀ (r pre:List (List Int)),firstFrom n pre r = [] → ∀ k c,r[k]? = some c → fault c (pre ++ r.take k) n = 0
  | [],_,_,k,c,h=>by simp at h
  | c0 :: r,pre,h,k,c,hk=>by
    have h':(if fault c0 pre n ≠ 0 then [(pre.length:Int),fault c0 pre n] else firstFrom n (pre ++ [c0]) r) = []:=h
    by_cases z:fault c0 pre n ≠ 0
    · rw [if_pos z] at h';cases h'
    · rw [if_neg z] at h'
      cases k with
      | zero =>
        have:c0 = c:=Option.some.inj hk
        subst this
        rw [List.take_zero,List.append_nil]
        exact Decidable.not_not.mp z
      | succ k =>
        have:=first_nil r (pre ++ [c0]) h' k c hk
        rw [List.append_assoc] at this
        exact this
theorem right_of {ns:List Int} (h:refusal ns = []):Right (ns.headD 0).toNat (parts ns):=by
  unfold refusal at h
  cases hr:isRow ns with
  | false=>rw [if_pos hr] at h;cases h
  | true =>
    rw [if_neg (by rw [hr];simp)] at h
    have hf:firstFault (parts ns) (ns.headD 0) = []:=by
      by_cases z:firstFault (parts ns) (ns.headD 0) = []
      · exact z
      · rw [if_neg z] at h;cases h
    obtain ⟨_,hN,hg⟩:=good_of hr
    have hf0:∀ k c,(parts ns)[k]? = some c → fault c ((parts ns).take k) (ns.headD 0) = 0:=fun k c hk=>by
      have:=first_nil (parts ns) [] hf k c hk
      rw [List.nil_append] at this
      exact this
    have hcount:(parts ns).length ≤ 14 ∧ diodes (parts ns) ≤ 5:=by
      unfold isRow at hr
      split at hr
      · cases hr
      · split at hr
        · cases hr
        · omega
    have hat:∀ c ∈ parts ns, ∃ k,(parts ns)[k]? = some c:=fun c hc=>by
      obtain ⟨k,hk,e⟩:=List.mem_iff_getElem.mp hc
      exact ⟨k,by rw [List.getElem?_eq_getElem hk,e]⟩
    have eN:((ns.headD 0).toNat:Int) = ns.headD 0:=by omega
    refine ⟨by omega,by omega,hcount.1,hcount.2,hg,fun c hc v hv => ?_,fun c hc => ?_,fun k c hk h89 => ?_⟩
    · obtain ⟨k,hk⟩:=hat c hc
      have:=hf0 k c hk
      unfold fault at this
      split at this
      · cases this
      · rename_i hno
        rw [eN]
        refine Int.not_lt.mp fun hlt=>hno ?_
        exact List.any_eq_true.mpr ⟨v,hv,decide_eq_true hlt⟩
    · obtain ⟨k,hk⟩:=hat c hc
      have:=hf0 k c hk
      unfold fault at this
      split at this
      · cases this
      · split at this
        · cases this
        · rename_i hm
          cases z:mayNum c with
          | true=>rfl
          | false=>exact absurd z hm
    · have:=hf0 k c hk
      unfold fault at this
      split at this
      · cases this
      · split at this
        · cases this
        · split at this
          · cases this
          · rename_i hm
            have hm:mayRef c ((parts ns).take k) = true:=by
              cases z:mayRef c ((parts ns).take k) with
              | true=>rfl
              | false=>exact absurd z hm
            have g:=hg c (List.mem_of_getElem? hk)
            have hk3:kd c ≠ 3:=by rcases h89 with e | e <;> rw [e] <;> decide
            have hpl:(pl c).length = 4:=by
              unfold pl
              rw [List.length_take,List.length_drop,g.len]
              rfl
            have er:refsOf c = [(pl c).getD 2 0]:=by
              unfold refsOf
              rw [if_neg hk3,if_pos h89]
              match h4:pl c,hpl with
              | [a,b,d,e],_=>rfl
            have hnn:=(pl_nn g ((pl c).getD 2 0) (by rw [List.getD_eq_getElem?_getD,List.getElem?_eq_getElem (by omega)];exact List.getElem_mem _)).1
            have hkl:=(List.getElem?_eq_some_iff.mp hk).1
            unfold mayRef at hm
            rw [er] at hm
            split at hm
            · cases hm
            · rename_i hfar
              have hlt:(pl c).getD 2 0 < (k:Int):=by
                refine Int.not_le.mp fun z=>hfar ?_
                rw [List.any_eq_true]
                refine ⟨_,List.mem_singleton.mpr rfl,decide_eq_true ?_⟩
                rw [List.length_take]
                omega
              have hpn:pn c 2 < k:=by unfold pn;omega
              refine ⟨hpn,fun z => ?_⟩
              have e3:kdAt ((parts ns).take k) ((pl c).getD 2 0) = 3:=by
                unfold kdAt
                have:((parts ns).take k).getD ((pl c).getD 2 0).toNat [] = (parts ns).getD (pn c 2) []:=by
                  show ((parts ns).take k).getD (pn c 2) [] = _
                  rw [List.getD_eq_getElem?_getD,List.getD_eq_getElem?_getD,List.getElem?_take,if_pos hpn]
                rw [this]
                exact z
              rw [List.map_singleton,e3] at hm
              simp at hm
theorem found_is {N:Nat} {cs:List (List Int)} {i:Nat} {p:List Int × SolD} (hi:i < (stateRows cs).length) (h:∀ j,j < i → tryRow N cs ((stateRows cs).getD j []) = none) (hp:tryRow N cs ((stateRows cs).getD i []) = some p):opPoint N cs = some p:=by
  unfold opPoint
  generalize stateRows cs = l at *
  induction l generalizing i with
  | nil=>simp at hi
  | cons a l ih =>
    cases i with
    | zero =>
      have hp':tryRow N cs a = some p:=hp
      rw [List.findSome?_cons,hp']
    | succ i =>
      have h0:tryRow N cs a = none:=h 0 (by omega)
      rw [List.findSome?_cons,h0]
      exact ih (by simpa using hi) (fun j hj=>h (j + 1) (by omega)) hp
theorem found_no {N:Nat} {cs:List (List Int)} (h:∀ j,j < (stateRows cs).length → tryRow N cs ((stateRows cs).getD j []) = none):opPoint N cs = none:=by
  unfold opPoint
  rw [List.findSome?_eq_none_iff]
  intro x hx
  obtain ⟨j,hj,e⟩:=(Red.mem_getD (d:=[])).mp hx
  rw [← e]
  exact h j hj
theorem point_mem {N:Nat} {cs:List (List Int)} {p:List Int × SolD} (h:opPoint N cs = some p):p.1 ∈ stateRows cs ∧ solOf (lawForms N cs p.1) (one N cs) = some p.2 ∧ condsH N cs p.1 p.2 = true:=by
  unfold opPoint at h
  obtain ⟨x,hx,e⟩:=List.exists_of_findSome?_eq_some h
  unfold tryRow at e
  split at e
  · cases e
  · rename_i s hs
    split at e
    · rename_i hc
      have:=Option.some.inj e
      subst this
      exact ⟨hx,hs,hc⟩
    · cases e
end Fm

set_option Elab.async false
set_option linter.all false
set_option maxRecDepth 100000
set_option maxHeartbeats 2000000
namespace Jw
open PySem PySem.Spec PyProof.Rows L2 Lx
def RV (r:List Int) (y:V) (H:Hp):Prop := ∃ q,y = .ref q ∧ H q = some (.lst (r.map V.int))
theorem RV.same:∀ (r:List Int) (y:V) (H H':Hp),Same H H' → RV r y H → RV r y H':=fun r y H H' s ⟨q,e,h⟩=>⟨q,e,s _ _ h⟩
def MatAt (H:Hp) (l:Addr) (rows:List (List Int)):Prop := ∃ ys,H l = some (.lst ys) ∧ Paired (fun r y=>RV r y H) rows ys
theorem MatAt.same {H H':Hp} {l:Addr} {rows:List (List Int)} (s:Same H H') (h:MatAt H l rows):MatAt H' l rows:=by
  obtain ⟨ys,h1,h2⟩:=h
  exact ⟨ys,s _ _ h1,paired_same RV.same s h2⟩
theorem mat_get {H:Hp} {rows:List (List Int)} {ys:List V} (pr:Paired (fun r y=>RV r y H) rows ys) {i:Nat} (hi:i < rows.length):∃ q,ys[i]? = some (.ref q) ∧ H q = some (.lst ((rows.getD i []).map V.int)):=by
  have hc:rows[i]? = some (rows.getD i []):=by rw [List.getD_eq_getElem?_getD,List.getElem?_eq_getElem hi];rfl
  obtain ⟨y,hy,q,rfl,h⟩:=L2.paired_get pr hc
  exact ⟨q,hy,h⟩
theorem at_int {f:List Int} {j:Nat} (h:j < f.length):atI (f.map V.int) (j:Int) = some (V.int (f.getD j 0)):=by
  refine atI_nat ?_
  rw [List.getElem?_map,List.getD_eq_getElem?_getD,List.getElem?_eq_getElem h]
  rfl
theorem at_last_int {f:List Int} (h:0 < f.length):atI (f.map V.int) (-1) = some (V.int (Fm.lastI f)):=by
  refine at_last ?_
  rw [List.length_map,List.getElem?_map,List.getElem?_eq_getElem (show f.length - 1 < f.length by omega)]
  unfold Fm.lastI
  rw [List.getD_eq_getElem?_getD,List.getElem?_eq_getElem (show f.length - 1 < f.length by omega)]
  rfl
def Ret (H:Hp) (Q:VK) (f:List Int):Prop := ∀ (H':Hp) (l:Addr),Same H H' → H l = none → H' l = some (.lst (f.map V.int)) → Q (.ref l) H'
def RetM (H:Hp) (Q:VK) (rows:List (List Int)):Prop := ∀ (H':Hp) (l:Addr),Same H H' → MatAt H' l rows → Q (.ref l) H'
theorem Ret.same {H H':Hp} {Q:VK} {f:List Int} (s:Same H H') (k:Ret H Q f):Ret H' Q f:=fun H2 l s2 n g=>k H2 l (s.trans s2) (s.free n) g
theorem pl_at' {c:List Int} (g:Jm.Good c) {j:Nat} (hj:j < 4):atI ((Jm.pl c).map V.int) (j:Int) = some (V.int (Fm.pn c j:Nat)):=by
  rw [pl_at g hj]
  have hl:(Jm.pl c).length = 4:=by
    unfold Jm.pl
    rw [List.length_take,List.length_drop,g.len]
    rfl
  have:=(Jm.pl_nn g ((Jm.pl c).getD j 0) (by rw [List.getD_eq_getElem?_getD,List.getElem?_eq_getElem (by omega)];exact List.getElem_mem _)).1
  unfold Fm.pn
  rw [show (((Jm.pl c).getD j 0).toNat:Int) = (Jm.pl c).getD j 0 by omega]
theorem small_line' {n:Nat} (h:n ≤ 1000):n < sizeLine:=small1000 h
theorem zip_get {α β : Type} {u:List α} {v:List β} {i:Nat} {x : α} {y : β} (h:(u.zip v)[i]? = some (x,y)):u[i]? = some x ∧ v[i]? = some y:=by
  obtain ⟨hl,e⟩:=List.getElem?_eq_some_iff.mp h
  rw [List.getElem_zip] at e
  rw [List.length_zip] at hl
  have e1:=congrArg Prod.fst e
  have e2:=congrArg Prod.snd e
  dsimp only at e1 e2
  rw [← e1, ← e2]
  exact ⟨List.getElem?_eq_getElem (by omega),List.getElem?_eq_getElem (by omega)⟩
def newer (H H':Hp):Hp:=fun b=>match H b with
  | none=>H' b
  | some _=>none
theorem newer_at {H H':Hp} {b:Addr} {o:HO} (h:H b = none) (h':H' b = some o):newer H H' b = some o:=by
  unfold newer;rw [h];exact h'
theorem newer_le (H H':Hp):Same (newer H H') H':=fun b o e=>by
  unfold newer at e
  cases h:H b with
  | none=>rw [h] at e;exact e
  | some u=>rw [h] at e;cases e
theorem newer_mono {H H' H'':Hp} (s:Same H' H''):Same (newer H H') (newer H H''):=fun b o e=>by
  unfold newer at e ⊢
  cases h:H b with
  | none=>rw [h] at e;exact s _ _ e
  | some u=>rw [h] at e;cases e
theorem newer_upd {H H':Hp} {q:Addr} {u:HO} (hq:H q = none):newer H (upd H' q u) = upd (newer H H') q u:=by
  funext b
  by_cases e:b = q
  · rw [e,upd_same,newer_at hq upd_same]
  · rw [upd_ne e]
    unfold newer
    cases h:H b with
    | none=>exact upd_ne e
    | some u=>rfl
theorem newer_old {H H':Hp} {q:Addr} {o:HO} (h:H q = some o):newer H H' q = none:=by
  unfold newer;rw [h]
theorem newer_hid {H H':Hp} {q:Addr} {u:HO} (hq:H q = some u):Same (newer H H') (hid q H'):=fun b o e=>by
  have hb:b ≠ q:=fun z=>by
    unfold newer at e
    rw [z,hq] at e
    cases e
  rw [hid_ne hb]
  exact newer_le H H' b o e
theorem made_same {H:Hp} {x dx C:Addr} (nx:H x = none) (nd:H dx = none):Same H (upd (upd H dx (.own x)) x (.ins C dx [])):=fun b o e=>by
  rw [upd_ne (ne_of_none e nx),upd_ne (ne_of_none e nd)];exact e
theorem part_at {K:PySem.W.Frag} {C:Addr} {H:Hp} {cs:List (List Int)} {ys:List V} (pr:Paired (fun c y=>PV C c y H) cs ys) {k:Nat} (hk:k < cs.length):∃ b,ys[k]? = some (.ref b) ∧ PartAt C H b (cs.getD k []) ∧ cs[k]? = some (cs.getD k []):=by
  have hc:cs[k]? = some (cs.getD k []):=by rw [List.getD_eq_getElem?_getD,List.getElem?_eq_getElem hk];rfl
  obtain ⟨y,hy,b,rfl,hp⟩:=L2.paired_get pr hc
  exact ⟨b,hy,hp,hc⟩
theorem cc_cast {c:List Int} : ((Fm.cc c:Nat):Int) = Jm.curCounts.getD (Jm.kd c).toNat 0:=by
  unfold Fm.cc
  have h:0 ≤ Jm.curCounts.getD (Jm.kd c).toNat 0:=by
    generalize (Jm.kd c).toNat = n
    by_cases h:n < 14
    · have key:∀ i:Fin 14,0 ≤ Jm.curCounts.getD i.1 0:=by decide
      exact key ⟨n,h⟩
    · rw [List.getD_eq_getElem?_getD,List.getElem?_eq_none (show Jm.curCounts.length ≤ n by show 14 ≤ n;omega)]
      decide
  omega
theorem in_eq (x:Int) (ns:List Int):(if false = true then !inV (.int x) (ns.map V.int) else inV (.int x) (ns.map V.int)) = decide (x ∈ ns):=by
  rw [if_neg (by simp),inV_ints]
theorem ite_in {A B:Prop} (x:Int) (ns:List Int) (h1:x ∈ ns → A) (h2:x ∉ ns → B):if (if false = true then !inV (.int x) (ns.map V.int) else inV (.int x) (ns.map V.int)) = true then A else B:=by
  rw [in_eq]
  exact ite_b h1 h2
def cfs (N:Nat) (cs:List (List Int)) (l:Addr):List (Str × V):=putF "one" (.int (Fm.one N cs:Nat)) (putF "currents" (.ref l) (putF "nodes" (.int ((N:Int) + 1)) []))
theorem cfs_nodes (N:Nat) (cs:List (List Int)) (l:Addr):(cfs N cs l).lookup ("nodes" : Str) = some (.int ((N:Int) + 1)):=by
  unfold cfs
  rw [lookup_putF,if_neg (by decide +kernel),lookup_putF,if_neg (by decide +kernel),lookup_putF,if_pos rfl]
theorem cfs_currents (N:Nat) (cs:List (List Int)) (l:Addr):(cfs N cs l).lookup ("currents" : Str) = some (.ref l):=by
  unfold cfs
  rw [lookup_putF,if_neg (by decide +kernel),lookup_putF,if_pos rfl]
theorem cfs_one (N:Nat) (cs:List (List Int)) (l:Addr):(cfs N cs l).lookup ("one" : Str) = some (.int (Fm.one N cs:Nat)):=by
  unfold cfs
  rw [lookup_putF,if_pos rfl]
theorem cfs_no (N:Nat) (cs:List (List Int)) (l:Addr) {x:Str} (h1:(x == ("one" : Str)) = false) (h2:(x == ("currents" : Str)) = false) (h3:(x == ("nodes" : Str)) = false):(cfs N cs l).lookup x = none:=by
  have n1:x ≠ "one":=fun z=>by rw [z] at h1;simp at h1
  have n2:x ≠ "currents":=fun z=>by rw [z] at h2;simp at h2
  have n3:x ≠ "nodes":=fun z=>by rw [z] at h3;simp at h3
  unfold cfs
  rw [lookup_putF,if_neg n1,lookup_putF,if_neg n2,lookup_putF,if_neg n3]
  rfl
structure ColsAt (C:Addr) (H:Hp) (a:Addr) (N:Nat) (cs:List (List Int)):Prop where
  ex:∃ dx l,H a = some (.ins C dx (cfs N cs l)) ∧ H l = some (.lst ((Fm.curL N cs).map V.int))
theorem ColsAt.same {C:Addr} {H H':Hp} {a:Addr} {N:Nat} {cs:List (List Int)} (s:Same H H') (h:ColsAt C H a N cs):ColsAt C H' a N cs:=by
  obtain ⟨dx,l,h1,h2⟩:=h.ex
  exact ⟨dx,l,s _ _ h1,s _ _ h2⟩
theorem cur_at {N:Nat} {cs:List (List Int)} {k:Nat} (h:k < cs.length):atI ((Fm.curL N cs).map V.int) (k:Int) = some (V.int (Fm.cur N cs k:Nat)):=by
  have hl:k < (Fm.curL N cs).length:=by simp [Fm.curL,h]
  rw [at_int hl]
  unfold Fm.curL
  simp [h]
def spNothing (C:Addr):Sp:=fun vs H Q _ => ∃ (a:Addr) (N:Nat) (cs:List (List Int)),vs = [.ref a] ∧ ColsAt C H a N cs ∧ Fm.one N cs ≤ 100 ∧ Ret H Q (Fm.zero (Fm.one N cs))
def spSingle (C:Addr):Sp:=fun vs H Q _ => ∃ (a:Addr) (N:Nat) (cs:List (List Int)) (j:Nat),vs = [.ref a, .int (j:Int)] ∧ ColsAt C H a N cs ∧ Fm.one N cs ≤ 100 ∧ j ≤ Fm.one N cs ∧ Ret H Q (Fm.single (Fm.one N cs) j)
def spBetween (C:Addr):Sp:=fun vs H Q _ => ∃ (a:Addr) (N:Nat) (cs:List (List Int)) (i j:Nat),vs = [.ref a, .int (i:Int), .int (j:Int)] ∧ ColsAt C H a N cs ∧ Fm.one N cs ≤ 100 ∧ i ≤ Fm.one N cs ∧ j ≤ Fm.one N cs ∧ Ret H Q (Fm.between (Fm.one N cs) i j)
def spCols (K:PySem.W.Frag) (CP C:Addr):Sp:=fun vs H Q _ => ∃ (p dx a:Addr) (N:Nat) (cs:List (List Int)), ∃ H0:Hp,vs = [.ref p, .ref a, .int (N:Int)] ∧ H p = some (.ins C dx []) ∧ Same H0 H ∧ H0 p = none ∧ PsAt K CP H0 a cs ∧ (∀ c ∈ cs,Jm.Good c) ∧ cs.length ≤ 100 ∧
  ∀ (H':Hp) (l:Addr),Same H0 H' → H' p = some (.ins C dx (cfs N cs l)) → H' l = some (.lst ((Fm.curL N cs).map V.int)) → Q .non H'
def spTimes (K:PySem.W.Frag):Sp:=fun vs H Q _ => ∃ (a:Addr) (q:Int) (f:List Int),vs = [.int q, .ref a] ∧ SqL K H a (f.map V.int) ∧ Big q ∧ (∀ x ∈ f,Big x) ∧ f.length ≤ 1000 ∧ Ret H Q (Fm.times q f)
def spLess (K:PySem.W.Frag):Sp:=fun vs H Q _ => ∃ (a b:Addr) (f g:List Int),vs = [.ref a, .ref b] ∧ SqL K H a (f.map V.int) ∧ SqL K H b (g.map V.int) ∧ g.length = f.length ∧ f.length ≤ 1000 ∧ Ret H Q (Fm.less f g)
def spProduct (K:PySem.W.Frag):Sp:=fun vs H Q _ => ∃ (a b:Addr) (f g:List Int),vs = [.ref a, .ref b] ∧ SqL K H a (f.map V.int) ∧ SqL K H b (g.map V.int) ∧ g.length = f.length ∧ f.length ≤ 1000 ∧ (∀ x ∈ f,Big x) ∧ (∀ x ∈ g,Big x) ∧ ∀ H',Same H H' → Q (.int (Fm.dotI f g)) H'
def lfs (d:Fm.LawD) (t f:Addr):List (Str × V):=putF "bottom" (.int d.bot) (putF "top" (.int d.top) (putF "factor" (.ref f) (putF "told" (.ref t) [])))
theorem lfs_told (d:Fm.LawD) (t f:Addr):(lfs d t f).lookup ("told" : Str) = some (.ref t):=by
  unfold lfs
  rw [lookup_putF,if_neg (by decide +kernel),lookup_putF,if_neg (by decide +kernel),lookup_putF,if_neg (by decide +kernel),lookup_putF,if_pos rfl]
theorem lfs_factor (d:Fm.LawD) (t f:Addr):(lfs d t f).lookup ("factor" : Str) = some (.ref f):=by
  unfold lfs
  rw [lookup_putF,if_neg (by decide +kernel),lookup_putF,if_neg (by decide +kernel),lookup_putF,if_pos rfl]
theorem lfs_top (d:Fm.LawD) (t f:Addr):(lfs d t f).lookup ("top" : Str) = some (.int d.top):=by
  unfold lfs
  rw [lookup_putF,if_neg (by decide +kernel),lookup_putF,if_pos rfl]
theorem lfs_bottom (d:Fm.LawD) (t f:Addr):(lfs d t f).lookup ("bottom" : Str) = some (.int d.bot):=by
  unfold lfs
  rw [lookup_putF,if_pos rfl]
theorem lfs_no (d:Fm.LawD) (t f:Addr) {x:Str} (h1:(x == ("bottom" : Str)) = false) (h2:(x == ("top" : Str)) = false) (h3:(x == ("factor" : Str)) = false) (h4:(x == ("told" : Str)) = false):(lfs d t f).lookup x = none:=by
  have n1:x ≠ "bottom":=fun z=>by rw [z] at h1;simp at h1
  have n2:x ≠ "top":=fun z=>by rw [z] at h2;simp at h2
  have n3:x ≠ "factor":=fun z=>by rw [z] at h3;simp at h3
  have n4:x ≠ "told":=fun z=>by rw [z] at h4;simp at h4
  unfold lfs
  rw [lookup_putF,if_neg n1,lookup_putF,if_neg n2,lookup_putF,if_neg n3,lookup_putF,if_neg n4]
  rfl
def LV (C:Addr) (d:Fm.LawD) (y:V) (H:Hp):Prop := ∃ a dx t f,y = .ref a ∧ H a = some (.ins C dx (lfs d t f)) ∧ H t = some (.lst (d.told.map V.int)) ∧ H f = some (.lst (d.fac.map V.int))
theorem LV.same {C:Addr} : ∀ (d:Fm.LawD) (y:V) (H H':Hp),Same H H' → LV C d y H → LV C d y H':=fun d y H H' s ⟨a,dx,t,f,e,h1,h2,h3⟩=>⟨a,dx,t,f,e,s _ _ h1,s _ _ h2,s _ _ h3⟩
def LawsAt (C:Addr) (H:Hp) (l:Addr) (ds:List Fm.LawD):Prop := ∃ ys,H l = some (.lst ys) ∧ Paired (fun d y=>LV C d y H) ds ys
def spLawInit (CP C:Addr):Sp:=fun vs H Q _ => ∃ (p dx t f a:Addr) (u v c:List Int), ∃ H0:Hp,vs = [.ref p, .ref t, .ref f, .ref a] ∧ H p = some (.ins C dx []) ∧ Same H0 H ∧ H0 p = none ∧ PartAt CP H0 a c ∧
  ∀ H':Hp,Same H0 H' → H' p = some (.ins C dx (lfs ⟨u,v,Jm.tp c,Jm.bt c⟩ t f)) → Q .non H'
structure Mild (d:Fm.LawD):Prop where
  ll:d.fac.length = d.told.length
  ls:d.told.length ≤ 1000
  bt:Big d.bot
  tp:Big d.top
  bx:∀ x ∈ d.told,Big x
  by_:∀ x ∈ d.fac,Big x
theorem good_big {c:List Int} (g:Jm.Good c):Big (Jm.tp c) ∧ Big (Jm.bt c):=by
  have h:=num_small g
  have e:(2:Int) ^ 64 = ((2 ^ 64:Nat):Int):=by norm_cast
  refine ⟨.of (n:=64) ?_ (by decide), .of (n:=64) ?_ (by decide)⟩ <;> omega
theorem mild_laws {N:Nat} {cs:List (List Int)} (R:Fm.Right N cs) {sts:List Int} (hl:sts.length = cs.length):∀ d ∈ Fm.allLaws N cs sts,Mild d:=by
  intro d hd
  unfold Fm.allLaws at hd
  obtain ⟨k,hk,hm⟩:=List.mem_flatMap.mp hd
  have hk':k < cs.length:=by rw [← hl];exact List.mem_range.mp hk
  have hc:cs[k]? = some (cs.getD k []):=by rw [List.getD_eq_getElem?_getD,List.getElem?_eq_getElem hk'];rfl
  have g:=good_big (R.good _ (List.mem_of_getElem? hc))
  have hw:=Fm.one_le R.n8 R.len
  have told1:∀ st, ∀ x ∈ Fm.toldF N cs k st,x.natAbs ≤ 1:=fun st=>by
    unfold Fm.toldF
    dsimp only
    split
    · exact Fm.abs_between _ _ _
    · split
      · exact Fm.abs_between _ _ _
      · exact Fm.abs_single _ _
  have fac1:∀ st, ∀ x ∈ Fm.facF N cs k st,x.natAbs ≤ 1:=fun st=>by
    unfold Fm.facF
    dsimp only
    split
    · exact Fm.abs_single _ _
    · split
      · exact Fm.abs_single _ _
      · split
        · exact Fm.abs_between _ _ _
        · split
          · exact Fm.abs_single _ _
          · exact Fm.abs_zero _
  unfold Fm.lawsOf at hm
  dsimp only at hm
  split at hm
  · cases hm
  · rcases List.mem_cons.mp hm with e | e
    · rw [e]
      exact ⟨by rw [Fm.len_fac,Fm.len_told],by rw [Fm.len_told];omega,g.2,g.1,fun x hx => .one (told1 _ x hx),fun x hx => .one (fac1 _ x hx)⟩
    · split at e
      · rw [List.mem_singleton.mp e]
        refine ⟨by rw [Fm.len_times,Fm.len_single,Fm.len_single],by rw [Fm.len_single];omega,g.2,g.1,fun x hx => .one (Fm.abs_single _ _ x hx),fun x hx => .one ?_⟩
        obtain ⟨z,hz,rfl⟩:=List.mem_map.mp hx
        have:=Fm.abs_single _ _ z hz
        omega
      · cases e
def spForm (C:Addr) (g:Fm.LawD → List Int):Sp:=fun vs H Q _ => ∃ (a:Addr) (d:Fm.LawD),vs = [.ref a] ∧ LV C d (.ref a) H ∧ Mild d ∧ Ret H Q (g d)
def spSets (CP:Addr):Sp:=fun vs H Q _ => ∃ (a:Addr) (st:Int) (c:List Int),vs = [.ref a, .int st] ∧ PartAt CP H a c ∧ Jm.Good c ∧ ∀ H',Same H H' → Q (.bl (Fm.setsV c st)) H'
def Elt (K:PySem.W.Frag) (CP CC:Addr) (H:Hp) (l a:Addr) (N:Nat) (cs:List (List Int)) (k:Nat):Prop:=PsAt K CP H l cs ∧ ColsAt CC H a N cs ∧ Fm.Right N cs ∧ k < cs.length
def spEltF (K:PySem.W.Frag) (CP CC:Addr) (g:Nat → List (List Int) → Nat → Int → List Int):Sp:=fun vs H Q _ => ∃ (l a:Addr) (N:Nat) (cs:List (List Int)) (k:Nat) (st:Int),vs = [.ref l, .int (k:Int), .int st, .ref a] ∧ Elt K CP CC H l a N cs k ∧ Fm.cc (cs.getD k []) ≠ 0 ∧ Ret H Q (g N cs k st)
def spPartLaws (K:PySem.W.Frag) (CP CC CL:Addr):Sp:=fun vs H Q _ => ∃ (l a:Addr) (N:Nat) (cs:List (List Int)) (k:Nat) (st:Int),vs = [.ref l, .int (k:Int), .int st, .ref a] ∧ Elt K CP CC H l a N cs k ∧ ∀ H' q,Same H H' → LawsAt CL (newer H H') q (Fm.lawsOf N cs k st) → Q (.ref q) H'
def spAllLaws (K:PySem.W.Frag) (CP CC CL:Addr):Sp:=fun vs H Q _ => ∃ (l t a:Addr) (N:Nat) (cs:List (List Int)) (sts:List Int),vs = [.ref l, .ref t, .ref a] ∧ PsAt K CP H l cs ∧ ColsAt CC H a N cs ∧ Fm.Right N cs ∧ H t = some (.lst (sts.map V.int)) ∧ sts.length = cs.length ∧ ∀ H' q,Same H H' → LawsAt CL H' q (Fm.allLaws N cs sts) → Q (.ref q) H'
def BV (b:Nat × Nat × Nat) (y:V) (H:Hp):Prop := ∃ q,y = .ref q ∧ H q = some (.tup [.int (b.1:Int), .int (b.2.1:Int), .int (b.2.2:Int)])
theorem BV.same:∀ (b:Nat × Nat × Nat) (y:V) (H H':Hp),Same H H' → BV b y H → BV b y H':=fun b y H H' s ⟨q,e,h⟩=>⟨q,e,s _ _ h⟩
theorem bv_upd {b:Nat × Nat × Nat} {y:V} {H:Hp} {q:Addr} {xs:List V} {u:HO} (hq:H q = some (.lst xs)) (h:BV b y H):BV b y (upd H q u):=by
  obtain ⟨p,e,hp⟩:=h
  exact ⟨p,e,by rw [upd_ne (ne_of hp hq (by intro z;cases z))];exact hp⟩
def spBranches (K:PySem.W.Frag) (CP CC:Addr):Sp:=fun vs H Q _ => ∃ (l a:Addr) (N:Nat) (cs:List (List Int)),vs = [.ref l, .ref a] ∧ PsAt K CP H l cs ∧ ColsAt CC H a N cs ∧ Fm.Right N cs ∧ ∀ H' q ys,Same H H' → newer H H' q = some (.lst ys) → Paired (fun b y=>BV b y (newer H H')) (Fm.branches N cs) ys → Q (.ref q) H'
def spNodes (K:PySem.W.Frag) (CP CC:Addr):Sp:=fun vs H Q _ => ∃ (l a:Addr) (N:Nat) (cs:List (List Int)),vs = [.ref l, .ref a] ∧ PsAt K CP H l cs ∧ ColsAt CC H a N cs ∧ Fm.Right N cs ∧ RetM H Q (Fm.nodeForms N cs)
def spLawForms (K:PySem.W.Frag) (CP CC:Addr):Sp:=fun vs H Q _ => ∃ (l t a:Addr) (N:Nat) (cs:List (List Int)) (sts:List Int),vs = [.ref l, .ref t, .ref a] ∧ PsAt K CP H l cs ∧ ColsAt CC H a N cs ∧ Fm.Right N cs ∧ H t = some (.lst (sts.map V.int)) ∧ sts.length = cs.length ∧ RetM H Q (Fm.lawForms N cs sts)
structure Own (H0 H:Hp) (D:Addr) (qs:List Addr) (rows:List (List Int)):Prop where
  s:Same H0 H
  d0:H0 D = none
  d:H D = some (.lst (qs.map V.ref))
  nd:qs.Nodup
  nD:D ∉ qs
  q0:∀ q ∈ qs,H0 q = none
  len:qs.length = rows.length
  at_:∀ i,i < rows.length → H (qs.getD i 0) = some (.lst ((rows.getD i []).map V.int))
theorem own_snoc {H0 H H4:Hp} {D l:Addr} {qs:List Addr} {rows:List (List Int)} {r:List Int} (O:Own H0 H D qs rows) (s4:Same H H4) (nl:H l = none) (hl:H4 l = some (.lst (r.map V.int))):Own H0 (upd H4 D (.lst (qs.map V.ref ++ [.ref l]))) D (qs ++ [l]) (rows ++ [r]):=by
  have hlD:l ≠ D:=fun z=>by rw [z,O.d] at nl;cases nl
  have hlq:l ∉ qs:=fun hm=>by
    obtain ⟨i,hi,e⟩:=(Red.mem_getD (d:=0)).mp hm
    rw [O.len] at hi
    have:=O.at_ i hi
    rw [e,nl] at this
    cases this
  refine ⟨same_upd (O.s.trans s4) O.d0,O.d0,by rw [upd_same,List.map_append];rfl, ?_, ?_, ?_,by simp [O.len], ?_⟩
  · exact L2.nd_snoc O.nd hlq
  · intro hm
    rcases List.mem_append.mp hm with q | q
    · exact O.nD q
    · exact hlD (List.mem_singleton.mp q).symm
  · intro q hq
    rcases List.mem_append.mp hq with e | e
    · exact O.q0 q e
    · rw [List.mem_singleton.mp e];exact O.s.free nl
  · intro i hi
    rw [List.length_append,List.length_singleton] at hi
    by_cases e:i < rows.length
    · have e1:(qs ++ [l]).getD i 0 = qs.getD i 0:=by simp only [List.getD_eq_getElem?_getD];rw [List.getElem?_append_left (by rw [O.len];exact e)]
      have e2:(rows ++ [r]).getD i [] = rows.getD i []:=by simp only [List.getD_eq_getElem?_getD];rw [List.getElem?_append_left e]
      have hne:qs.getD i 0 ≠ D:=fun z=>O.nD (by rw [← z];exact Red.mem_getD.mpr ⟨i,by rw [O.len];exact e,rfl⟩)
      rw [e1,e2,upd_ne hne]
      exact s4 _ _ (O.at_ i e)
    · have ei:i = rows.length:=by omega
      have e1:(qs ++ [l]).getD i 0 = l:=by rw [ei, ← O.len];simp
      have e2:(rows ++ [r]).getD i [] = r:=by rw [ei];simp
      rw [e1,e2,upd_ne hlD]
      exact hl
theorem own_bump {H0 H:Hp} {D:Addr} {qs:List Addr} {rows:List (List Int)} {v j:Nat} {d:Int} (O:Own H0 H D qs rows) (hv:v < rows.length):Own H0 (upd H (qs.getD v 0) (.lst (((rows.getD v []).map V.int).set j (.int ((rows.getD v []).getD j 0 + d))))) D qs (Fm.bump rows v j d):=by
  have hm:qs.getD v 0 ∈ qs:=Red.mem_getD.mpr ⟨v,by rw [O.len];exact hv,rfl⟩
  refine ⟨same_upd O.s (O.q0 _ hm),O.d0, ?_,O.nd,O.nD,O.q0,by simp [Fm.bump,O.len], ?_⟩
  · have hne:D ≠ qs.getD v 0:=fun z=>O.nD (by rw [z];exact hm)
    rw [upd_ne hne];exact O.d
  · intro i hi
    unfold Fm.bump at hi ⊢
    rw [List.length_set] at hi
    rw [Red.getD_set]
    by_cases e:i = v
    · subst e
      rw [if_pos ⟨rfl,hv⟩,upd_same,List.map_set]
    · have hne:qs.getD i 0 ≠ qs.getD v 0:=fun z=>e (by
        have a1:qs[i]? = some (qs.getD i 0):=by rw [List.getD_eq_getElem?_getD,List.getElem?_eq_getElem (by rw [O.len];exact hi)];rfl
        have a2:qs[v]? = some (qs.getD v 0):=by rw [List.getD_eq_getElem?_getD,List.getElem?_eq_getElem (by rw [O.len];exact hv)];rfl
        exact L2.nd_ix O.nd (a1.trans (by rw [z])) a2)
      rw [if_neg fun z=>e z.1,upd_ne hne]
      exact O.at_ i hi
theorem Own.same {H0 H H':Hp} {D:Addr} {qs:List Addr} {rows:List (List Int)} (O:Own H0 H D qs rows) (s:Same H H'):Own H0 H' D qs rows :=
  ⟨O.s.trans s,O.d0,s _ _ O.d,O.nd,O.nD,O.q0,O.len,fun i hi=>s _ _ (O.at_ i hi)⟩
theorem Own.get {H0 H:Hp} {D:Addr} {qs:List Addr} {rows:List (List Int)} (O:Own H0 H D qs rows) {v:Nat} (hv:v < rows.length):(qs.map V.ref)[v]? = some (.ref (qs.getD v 0)):=by
  rw [List.getElem?_map,List.getD_eq_getElem?_getD,List.getElem?_eq_getElem (by rw [O.len];exact hv)]
  rfl
theorem paired_ix {α : Type} {F : α → V → Prop} : ∀ {l:List α} {ys:List V} (d : α),l.length = ys.length → (∀ i,i < l.length → F (l.getD i d) (ys.getD i .non)) → Paired F l ys
  | [],[],_,_,_ => .nil
  | [],_ :: _,_,h,_=>by simp at h
  | _ :: _,[],_,h,_=>by simp at h
  | a :: l,y :: ys,d,h,f => .cons (f 0 (by simp)) (paired_ix d (by simpa using h) fun i hi=>f (i + 1) (by simpa using hi))
theorem Own.mat {H0 H:Hp} {D:Addr} {qs:List Addr} {rows:List (List Int)} (O:Own H0 H D qs rows):Paired (fun r y=>RV r y H) rows (qs.map V.ref) :=
  paired_ix [] (by rw [List.length_map,O.len]) fun i hi=>⟨qs.getD i 0,by
    have:=O.get hi
    rw [List.getD_eq_getElem?_getD,this];rfl,O.at_ i hi⟩
def rfs (s:Red.St) (r:Addr):List (Str × V):=putF "divisor" (.int s.div) (putF "rank" (.int (s.rank:Nat)) (putF "rows" (.ref r) []))
theorem rfs_rows (s:Red.St) (r:Addr):(rfs s r).lookup ("rows" : Str) = some (.ref r):=by
  unfold rfs
  rw [lookup_putF,if_neg (by decide +kernel),lookup_putF,if_neg (by decide +kernel),lookup_putF,if_pos rfl]
theorem rfs_rank (s:Red.St) (r:Addr):(rfs s r).lookup ("rank" : Str) = some (.int (s.rank:Nat)):=by
  unfold rfs
  rw [lookup_putF,if_neg (by decide +kernel),lookup_putF,if_pos rfl]
theorem rfs_div (s:Red.St) (r:Addr):(rfs s r).lookup ("divisor" : Str) = some (.int s.div):=by
  unfold rfs
  rw [lookup_putF,if_pos rfl]
def RedAt (C:Addr) (H:Hp) (a:Addr) (s:Red.St):Prop := ∃ dx r,H a = some (.ins C dx (rfs s r)) ∧ MatAt H r s.rows
def spRedInit (C:Addr):Sp:=fun vs H Q _ => ∃ (p dx r:Addr) (s:Red.St), ∃ H0:Hp,vs = [.ref p, .ref r, .int (s.rank:Nat), .int s.div] ∧ H p = some (.ins C dx []) ∧ Same H0 H ∧ H0 p = none ∧
  ∀ H':Hp,Same H0 H' → H' p = some (.ins C dx (rfs s r)) → Q .non H'
def placeV:Option Nat → V
  | none => .non
  | some k => .int (k:Nat)
def spPlace:Sp:=fun vs H Q _ => ∃ (r:Addr) (rows:List (List Int)) (b c:Nat),vs = [.ref r, .int (b:Nat), .int (c:Nat)] ∧ MatAt H r rows ∧ rows.length ≤ 1000 ∧ b ≤ rows.length ∧ (∀ x ∈ rows,c < x.length) ∧ ∀ H',Same H H' → Q (placeV (Red.place rows b c)) H'
def spExch:Sp:=fun vs H Q _ => ∃ (r:Addr) (rows:List (List Int)) (i j:Nat),vs = [.ref r, .int (i:Nat), .int (j:Nat)] ∧ MatAt H r rows ∧ i < rows.length ∧ j < rows.length ∧ RetM H Q (Red.exch rows i j)
def spCleared:Sp:=fun vs H Q _ => ∃ (a b:Addr) (r p:List Int) (c:Nat) (d:Int),vs = [.ref a, .ref b, .int (c:Nat), .int d] ∧ H a = some (.lst (r.map V.int)) ∧ H b = some (.lst (p.map V.int)) ∧ p.length = r.length ∧ r.length ≤ 1000 ∧ c < r.length ∧ d ≠ 0 ∧ Big d ∧ (∀ x ∈ r,Big x) ∧ (∀ x ∈ p,Big x) ∧ Ret H Q (Red.clr p r c d)
structure Safe (rows:List (List Int)) (m u:Nat):Prop where
  len:rows.length = m
  wid:∀ r ∈ rows,r.length = u + 1
  ms:m ≤ 1000
  us:u ≤ 900
  big:∀ n,n ≤ u → Big (Red.upto rows n).div ∧ ∀ r ∈ (Red.upto rows n).rows, ∀ x ∈ r,Big x
def spReduced (C:Addr):Sp:=fun vs H Q _ => ∃ (a:Addr) (rows:List (List Int)) (m u:Nat),vs = [.ref a, .int (u:Nat)] ∧ MatAt H a rows ∧ Safe rows m u ∧ ∀ H' q,Same H H' → RedAt C H' q (Red.upto rows u) → Q (.ref q) H'
def sfs (s:Fm.SolD) (t:Addr):List (Str × V):=putF "bottom" (.int s.bot) (putF "tops" (.ref t) [])
theorem sfs_tops (s:Fm.SolD) (t:Addr):(sfs s t).lookup ("tops" : Str) = some (.ref t):=by
  unfold sfs
  rw [lookup_putF,if_neg (by decide +kernel),lookup_putF,if_pos rfl]
theorem sfs_bottom (s:Fm.SolD) (t:Addr):(sfs s t).lookup ("bottom" : Str) = some (.int s.bot):=by
  unfold sfs
  rw [lookup_putF,if_pos rfl]
theorem sfs_no (s:Fm.SolD) (t:Addr) {x:Str} (h1:(x == ("bottom" : Str)) = false) (h2:(x == ("tops" : Str)) = false):(sfs s t).lookup x = none:=by
  have n1:x ≠ "bottom":=fun z=>by rw [z] at h1;simp at h1
  have n2:x ≠ "tops":=fun z=>by rw [z] at h2;simp at h2
  unfold sfs
  rw [lookup_putF,if_neg n1,lookup_putF,if_neg n2]
  rfl
def SolAt (C:Addr) (H:Hp) (a:Addr) (s:Fm.SolD):Prop := ∃ dx t,H a = some (.ins C dx (sfs s t)) ∧ H t = some (.lst (s.tops.map V.int))
theorem SolAt.same {C:Addr} {H H':Hp} {a:Addr} {s:Fm.SolD} (z:Same H H') (h:SolAt C H a s):SolAt C H' a s:=by
  obtain ⟨dx,t,h1,h2⟩:=h
  exact ⟨dx,t,z _ _ h1,z _ _ h2⟩
def spSolInit (C:Addr):Sp:=fun vs H Q _ => ∃ (p dx t:Addr) (s:Fm.SolD), ∃ H0:Hp,vs = [.ref p, .ref t, .int s.bot] ∧ H p = some (.ins C dx []) ∧ Same H0 H ∧ H0 p = none ∧
  ∀ H':Hp,Same H0 H' → H' p = some (.ins C dx (sfs s t)) → Q .non H'
def spTopOf (K:PySem.W.Frag) (C:Addr):Sp:=fun vs H Q _ => ∃ (a b:Addr) (s:Fm.SolD) (f:List Int),vs = [.ref a, .ref b] ∧ SolAt C H a s ∧ SqL K H b (f.map V.int) ∧ s.tops.length = f.length ∧ f.length ≤ 1000 ∧ (∀ x ∈ f,Big x) ∧ (∀ x ∈ s.tops,Big x) ∧ ∀ H',Same H H' → Q (.int (Fm.dotI f s.tops)) H'
structure Fine (N:Nat) (cs:List (List Int)) (forms:List (List Int)):Prop where
  pos:1 ≤ Fm.one N cs
  wid:∀ f ∈ forms,f.length = Fm.one N cs + 1
  safe:Safe (forms.map fun f=>f.drop 1) (Fm.one N cs - 1) (Fm.one N cs - 1)
def spRedLaws (CC CR:Addr):Sp:=fun vs H Q _ => ∃ (a b:Addr) (N:Nat) (cs forms:List (List Int)),vs = [.ref a, .ref b] ∧ MatAt H a forms ∧ ColsAt CC H b N cs ∧ Fine N cs forms ∧ ∀ H' q,Same H H' → RedAt CR H' q (Fm.redL forms (Fm.one N cs)) → Q (.ref q) H'
def solV (C:Addr) (H:Hp) (y:V):Option Fm.SolD → Prop
  | none=>y = .non
  | some s => ∃ q,y = .ref q ∧ SolAt C H q s
def spSolution (CC CS:Addr):Sp:=fun vs H Q _ => ∃ (a b:Addr) (N:Nat) (cs forms:List (List Int)),vs = [.ref a, .ref b] ∧ MatAt H a forms ∧ ColsAt CC H b N cs ∧ Fine N cs forms ∧ ∀ H' y,Same H H' → solV CS H' y (Fm.solOf forms (Fm.one N cs)) → Q y H'
def tfs (t s:Addr):List (Str × V):=putF "solution" (.ref s) (putF "states" (.ref t) [])
theorem tfs_states (t s:Addr):(tfs t s).lookup ("states" : Str) = some (.ref t):=by
  unfold tfs
  rw [lookup_putF,if_neg (by decide +kernel),lookup_putF,if_pos rfl]
theorem tfs_solution (t s:Addr):(tfs t s).lookup ("solution" : Str) = some (.ref s):=by
  unfold tfs
  rw [lookup_putF,if_pos rfl]
def PtAt (C CS:Addr) (H:Hp) (a:Addr) (p:List Int × Fm.SolD):Prop := ∃ dx t s,H a = some (.ins C dx (tfs t s)) ∧ H t = some (.lst (p.1.map V.int)) ∧ SolAt CS H s p.2
theorem PtAt.same {C CS:Addr} {H H':Hp} {a:Addr} {p:List Int × Fm.SolD} (z:Same H H') (h:PtAt C CS H a p):PtAt C CS H' a p:=by
  obtain ⟨dx,t,s,h1,h2,h3⟩:=h
  exact ⟨dx,t,s,z _ _ h1,z _ _ h2,h3.same z⟩
def spPtInit (C:Addr):Sp:=fun vs H Q _ => ∃ (p dx t s:Addr), ∃ H0:Hp,vs = [.ref p, .ref t, .ref s] ∧ H p = some (.ins C dx []) ∧ Same H0 H ∧ H0 p = none ∧
  ∀ H':Hp,Same H0 H' → H' p = some (.ins C dx (tfs t s)) → Q .non H'
def spStates (K:PySem.W.Frag) (CP:Addr):Sp:=fun vs H Q _ => ∃ (l:Addr) (cs:List (List Int)),vs = [.ref l] ∧ PsAt K CP H l cs ∧ (∀ c ∈ cs,Jm.Good c) ∧ cs.length ≤ 14 ∧ Jm.diodes cs ≤ 5 ∧ RetM H Q (Fm.stateRows cs)
theorem len_longer (c:List Int):∀ rows:List (List Int),(Fm.longer rows c).length ≤ 2 * rows.length
  | [] => Nat.le_refl _
  | r :: rows=>by
    unfold Fm.longer
    rw [List.flatMap_cons,List.length_append,List.length_cons,List.length_map]
    have:=len_longer c rows
    unfold Fm.longer at this
    have h2:(Fm.choices c).length ≤ 2:=by unfold Fm.choices;split <;> decide
    omega
theorem len_states:∀ (cs:List (List Int)) (rows:List (List Int)),(cs.foldl Fm.longer rows).length ≤ 2 ^ cs.length * rows.length
  | [],rows=>by simp
  | c :: cs,rows=>by
    rw [List.foldl_cons,List.length_cons,Nat.pow_succ]
    have h1:=len_states cs (Fm.longer rows c)
    have h2:=len_longer c rows
    refine Nat.le_trans h1 ?_
    rw [Nat.mul_assoc]
    exact Nat.mul_le_mul_left _ h2
theorem wid_states:∀ (cs:List (List Int)) (rows:List (List Int)) (n:Nat),(∀ r ∈ rows,r.length = n) → ∀ r ∈ cs.foldl Fm.longer rows,r.length = n + cs.length
  | [],rows,n,h=>h
  | c :: cs,rows,n,h=>by
    rw [List.foldl_cons,List.length_cons]
    have h1:=wid_states cs (Fm.longer rows c) (n + 1) fun r hr=>by
      obtain ⟨r0,h0,hm⟩:=List.mem_flatMap.mp hr
      obtain ⟨s,_,rfl⟩:=List.mem_map.mp hm
      rw [List.length_append,h r0 h0]
      rfl
    intro r hr
    rw [h1 r hr]
    omega
theorem states_len {cs:List (List Int)} : ∀ r ∈ Fm.stateRows cs,r.length = cs.length:=fun r hr=>by
  have:=wid_states cs [[]] 0 (by simp) r hr
  omega
def nats (l:List Nat):List Int:=l.map fun (k:Nat)=>(k:Int)
def spDiodes (K:PySem.W.Frag) (CP:Addr):Sp:=fun vs H Q _ => ∃ (l:Addr) (cs:List (List Int)),vs = [.ref l] ∧ PsAt K CP H l cs ∧ cs.length ≤ 1000 ∧ Ret H Q (nats (Fm.diodeIx cs))
structure Tame (N:Nat) (cs:List (List Int)) (s:Fm.SolD):Prop where
  len:s.tops.length = Fm.one N cs + 1
  bt:Big s.bot
  tb:∀ x ∈ s.tops,Big x
  db:∀ i j,Big (Fm.dotI (Fm.between (Fm.one N cs) i j) s.tops)
def spCond (K:PySem.W.Frag) (CP CC CS:Addr):Sp:=fun vs H Q _ => ∃ (l a b:Addr) (N:Nat) (cs:List (List Int)) (k:Nat) (st:Int) (s:Fm.SolD),vs = [.ref l, .int (k:Int), .int st, .ref a, .ref b] ∧ Elt K CP CC H l a N cs k ∧ Jm.kd (cs.getD k []) = 13 ∧ SolAt CS H b s ∧ Tame N cs s ∧ ∀ H',Same H H' → Q (.bl (Fm.condH N cs k st s)) H'
def spConds (K:PySem.W.Frag) (CP CC CS:Addr):Sp:=fun vs H Q _ => ∃ (l t a b:Addr) (N:Nat) (cs:List (List Int)) (sts:List Int) (s:Fm.SolD),vs = [.ref l, .ref t, .ref a, .ref b] ∧ PsAt K CP H l cs ∧ ColsAt CC H a N cs ∧ Fm.Right N cs ∧ H t = some (.lst (sts.map V.int)) ∧ sts.length = cs.length ∧ SolAt CS H b s ∧ Tame N cs s ∧ ∀ H',Same H H' → Q (.bl (Fm.condsH N cs sts s)) H'
def ptV (C CS:Addr) (H:Hp) (y:V):Option (List Int × Fm.SolD) → Prop
  | none=>y = .non
  | some p => ∃ q,y = .ref q ∧ PtAt C CS H q p
def spOp (K:PySem.W.Frag) (CP CC CS CT:Addr):Sp:=fun vs H Q _ => ∃ (l a:Addr) (N:Nat) (cs:List (List Int)),vs = [.ref l, .ref a] ∧ PsAt K CP H l cs ∧ ColsAt CC H a N cs ∧ Fm.Right N cs ∧ ∀ H' y,Same H H' → ptV CT CS H' y (Fm.opPoint N cs) → Q y H'
end Jw

set_option Elab.async false
set_option linter.all false
set_option maxRecDepth 100000
set_option maxHeartbeats 2000000
namespace Jw
open PySem PySem.Spec PyProof.Rows L2 Lx
theorem pow27 {m u:Nat} (hm:m ≤ 36) (hu:u ≤ 36):(m * 2 ^ 21) ^ (u + 1) ≤ 2 ^ 999:=by
  have h1:m * 2 ^ 21 ≤ 2 ^ 27:=by omega
  refine Nat.le_trans (Nat.pow_le_pow_left h1 (u + 1)) ?_
  rw [← Nat.pow_mul]
  exact Nat.pow_le_pow_right (by decide) (by omega)
structure Sizes (rows:List (List Int)) (m u e:Nat):Prop where
  len:rows.length = m
  wid:∀ r ∈ rows,r.length = u + 1
  m1:1 ≤ m
  ms:m ≤ 36
  us:u ≤ 36
  small:∀ i,i < m → ∀ j,j < u → (Red.ent rows i j).natAbs ≤ 2 ^ 21
  last:∀ i,i < m → (Red.ent rows i u).natAbs ≤ 2 ^ e
theorem size_upto {rows:List (List Int)} {m u e:Nat} (z:Sizes rows m u e) (n:Nat) (hn:n ≤ u):(Red.upto rows n).div.natAbs ≤ 2 ^ 999 ∧ (∀ i,i < m → ∀ j,j < u → (Red.ent (Red.upto rows n).rows i j).natAbs ≤ 2 ^ 999) ∧ (∀ i,i < m → (Red.ent (Red.upto rows n).rows i u).natAbs ≤ 2 ^ (e + 1005)):=by
  obtain ⟨cs,rs, π,I⟩:=Red.inv_upto z.len z.wid n (by omega)
  have h1:1 ≤ m * 2 ^ 21:=by have:=z.m1;omega
  obtain ⟨a,b,c⟩:=Red.inv_size I hn ⟨z.small,z.last⟩ h1
  have hp:=pow27 z.ms z.us
  refine ⟨Nat.le_trans a hp,fun i hi j hj=>Nat.le_trans (b i hi j hj) hp,fun i hi=>Nat.le_trans (c i hi) ?_⟩
  have hm:m ≤ 2 ^ 6:=by have:=z.ms;omega
  have h2:m * 2 ^ e * (m * 2 ^ 21) ^ (u + 1) ≤ 2 ^ 6 * 2 ^ e * 2 ^ 999:=Nat.mul_le_mul (Nat.mul_le_mul_right _ hm) hp
  have h3:2 ^ 6 * 2 ^ e * 2 ^ 999 = 2 ^ (e + 1005):=by
    rw [← Nat.pow_add, ← Nat.pow_add]
    congr 1
    omega
  rw [h3] at h2
  exact h2
theorem safe_of {rows:List (List Int)} {m u e:Nat} (z:Sizes rows m u e) (he:e ≤ 3000):Safe rows m u:=by
  refine ⟨z.len,z.wid,by have:=z.ms;omega,by have:=z.us;omega,fun n hn => ?_⟩
  obtain ⟨a,b,c⟩:=size_upto z n hn
  obtain ⟨cs,rs, π,I⟩:=Red.inv_upto z.len z.wid n (by omega)
  refine ⟨.of (n:=999) a (by decide),fun r hr x hx => ?_⟩
  obtain ⟨i,hi,er⟩:=(Red.mem_getD (d:=[])).mp hr
  obtain ⟨j,hj,ex⟩:=(Red.mem_getD (d:=(0:Int))).mp hx
  rw [I.len] at hi
  have hw:=I.wid i hi
  rw [er] at hw
  have e0:x = Red.ent (Red.upto rows n).rows i j:=by
    unfold Red.ent
    rw [er,ex]
  by_cases hju:j < u
  · rw [e0];exact .of (n:=999) (b i hi j hju) (by decide)
  · have:j = u:=by omega
    rw [e0,this];exact .of (n:=e + 1005) (c i hi) (by omega)
theorem abs_bump {fs:List (List Int)} {v j:Nat} {d:Int} {b:Nat} (hd:d.natAbs ≤ 1) (h:∀ r ∈ fs, ∀ x ∈ r,x.natAbs ≤ b):∀ r ∈ Fm.bump fs v j d, ∀ x ∈ r,x.natAbs ≤ b + 1:=fun r hr x hx=>by
  unfold Fm.bump at hr
  rcases List.mem_or_eq_of_mem_set hr with e | e
  · exact Nat.le_succ_of_le (h r e x hx)
  · rw [e] at hx
    have hv:∀ y ∈ fs.getD v [],y.natAbs ≤ b:=fun y hy=>by
      by_cases hl:v < fs.length
      · exact h _ (Red.mem_getD.mpr ⟨v,hl,rfl⟩) y hy
      · rw [List.getD_eq_getElem?_getD,List.getElem?_eq_none (by omega)] at hy
        cases hy
    rcases List.mem_or_eq_of_mem_set hx with q | q
    · exact Nat.le_succ_of_le (hv x q)
    · have:((fs.getD v []).getD j 0).natAbs ≤ b:=by
        by_cases hl:j < (fs.getD v []).length
        · exact hv _ (Red.mem_getD.mpr ⟨j,hl,rfl⟩)
        · rw [List.getD_eq_getElem?_getD,List.getElem?_eq_none (by omega)]
          exact Nat.zero_le _
      rw [q]
      omega
theorem abs_nodes (N:Nat) (cs:List (List Int)):∀ r ∈ Fm.nodeAll N cs, ∀ x ∈ r,x.natAbs ≤ 1 + 2 * (Fm.branches N cs).length:=by
  unfold Fm.nodeAll
  have key:∀ (bs:List (Nat × Nat × Nat)) (fs:List (List Int)) (b:Nat),(∀ r ∈ fs, ∀ x ∈ r,x.natAbs ≤ b) → ∀ r ∈ bs.foldl Fm.bump2 fs, ∀ x ∈ r,x.natAbs ≤ b + 2 * bs.length:=by
    intro bs
    induction bs with
    | nil=>intro fs b h;exact h
    | cons p bs ih =>
      intro fs b h r hr x hx
      have:=ih (Fm.bump2 fs p) (b + 2) (abs_bump (by decide) (abs_bump (by decide) h)) r hr x hx
      rw [List.length_cons]
      omega
  exact key _ _ 1 fun r hr x hx=>by
    rw [List.eq_of_mem_replicate hr] at hx
    exact Fm.abs_zero _ x hx
theorem abs_less {f g:List Int} {b c:Nat} (hf:∀ x ∈ f,x.natAbs ≤ b) (hg:∀ x ∈ g,x.natAbs ≤ c):∀ x ∈ Fm.less f g,x.natAbs ≤ b + c:=fun x hx=>by
  obtain ⟨⟨u,v⟩,hm,rfl⟩:=List.mem_map.mp hx
  have h1:=hf u (List.of_mem_zip hm).1
  have h2:=hg v (List.of_mem_zip hm).2
  show (u - v).natAbs ≤ b + c
  omega
theorem abs_times {q:Int} {f:List Int} {a b:Nat} (hq:q.natAbs ≤ a) (hf:∀ x ∈ f,x.natAbs ≤ b):∀ x ∈ Fm.times q f,x.natAbs ≤ a * b:=fun x hx=>by
  obtain ⟨y,hy,rfl⟩:=List.mem_map.mp hx
  rw [Int.natAbs_mul]
  exact Nat.mul_le_mul hq (hf y hy)
structure Tiny (w:Nat) (d:Fm.LawD):Prop where
  lt:d.told.length = w + 1
  lf:d.fac.length = w + 1
  bt:d.bot.natAbs ≤ 1000000
  b1:1 ≤ d.bot
  tp:d.top.natAbs ≤ 1000000
  tx:∀ x ∈ d.told,x.natAbs ≤ 1
  fx:∀ x ∈ d.fac,x.natAbs ≤ 1
theorem tiny_of {N:Nat} {cs:List (List Int)} (hg:∀ c ∈ cs,Jm.Good c) {k:Nat} (hk:k < cs.length) (st:Int):∀ d ∈ Fm.lawsOf N cs k st,Tiny (Fm.one N cs) d:=by
  intro d hm
  have hc:cs[k]? = some (cs.getD k []):=by rw [List.getD_eq_getElem?_getD,List.getElem?_eq_getElem hk];rfl
  have g:=hg _ (List.mem_of_getElem? hc)
  have hb:(Jm.bt (cs.getD k [])).natAbs ≤ 1000000 ∧ 1 ≤ Jm.bt (cs.getD k []) ∧ (Jm.tp (cs.getD k [])).natAbs ≤ 1000000:=by
    obtain ⟨k0,a0,b0,d0,e0,t0,q0,F⟩:=g.facts
    have h1:=F.t0
    have h2:=F.t1
    have h3:=F.q0
    have h4:=F.q1
    rw [F.eq]
    show q0.natAbs ≤ 1000000 ∧ 1 ≤ q0 ∧ t0.natAbs ≤ 1000000
    omega
  have told1:∀ st, ∀ x ∈ Fm.toldF N cs k st,x.natAbs ≤ 1:=fun st=>by
    unfold Fm.toldF
    dsimp only
    split
    · exact Fm.abs_between _ _ _
    · split
      · exact Fm.abs_between _ _ _
      · exact Fm.abs_single _ _
  have fac1:∀ st, ∀ x ∈ Fm.facF N cs k st,x.natAbs ≤ 1:=fun st=>by
    unfold Fm.facF
    dsimp only
    split
    · exact Fm.abs_single _ _
    · split
      · exact Fm.abs_single _ _
      · split
        · exact Fm.abs_between _ _ _
        · split
          · exact Fm.abs_single _ _
          · exact Fm.abs_zero _
  unfold Fm.lawsOf at hm
  dsimp only at hm
  split at hm
  · cases hm
  · rcases List.mem_cons.mp hm with e | e
    · rw [e]
      exact ⟨Fm.len_told _ _ _ _,Fm.len_fac _ _ _ _,hb.1,hb.2.1,hb.2.2,told1 _,fac1 _⟩
    · split at e
      · rw [List.mem_singleton.mp e]
        refine ⟨Fm.len_single _ _,by rw [Fm.len_times,Fm.len_single],hb.1,hb.2.1,hb.2.2,Fm.abs_single _ _, ?_⟩
        exact abs_times (a:=1) (by decide) (Fm.abs_single _ _)
      · cases e
theorem tiny_all {N:Nat} {cs:List (List Int)} (hg:∀ c ∈ cs,Jm.Good c) {sts:List Int} (hl:sts.length = cs.length):∀ d ∈ Fm.allLaws N cs sts,Tiny (Fm.one N cs) d:=fun d hd=>by
  obtain ⟨k,hk,hm⟩:=List.mem_flatMap.mp hd
  exact tiny_of hg (by rw [← hl];exact List.mem_range.mp hk) _ d hm
theorem Tiny.form {w:Nat} {d:Fm.LawD} (t:Tiny w d):d.form.length = w + 1 ∧ ∀ x ∈ d.form,x.natAbs ≤ 2000000:=by
  unfold Fm.LawD.form
  refine ⟨by rw [Fm.len_less (by rw [Fm.len_times,Fm.len_times,t.lt,t.lf]),Fm.len_times,t.lt], ?_⟩
  exact abs_less (b:=1000000) (c:=1000000) (fun x hx=>abs_times t.bt t.tx x hx) (fun x hx=>abs_times t.tp t.fx x hx)
theorem cc_kind {c:List Int} (g:Jm.Good c):Fm.cc c = if Jm.kd c = 3 then 0 else if Jm.kd c = 10 then 2 else 1:=by
  unfold Fm.cc
  obtain ⟨k0,a0,b0,d0,e0,t0,q0,F⟩:=g.facts
  have h0:=F.k0
  have h1:=F.k1
  rw [F.eq]
  show (Jm.curCounts.getD k0.toNat 0).toNat = if k0 = 3 then 0 else if k0 = 10 then 2 else 1
  exact Jm.kinds_cases (P:=fun k0=>(Jm.curCounts.getD k0.toNat 0).toNat = if k0 = 3 then 0 else if k0 = 10 then 2 else 1) h0 h1 rfl rfl rfl rfl rfl rfl rfl rfl rfl rfl rfl rfl rfl rfl
theorem laws_cc {N:Nat} {cs:List (List Int)} (hg:∀ c ∈ cs,Jm.Good c) {k:Nat} (hk:k < cs.length) (st:Int):(Fm.lawsOf N cs k st).length = Fm.cc (cs.getD k []):=by
  have hc:cs[k]? = some (cs.getD k []):=by rw [List.getD_eq_getElem?_getD,List.getElem?_eq_getElem hk];rfl
  have g:=hg _ (List.mem_of_getElem? hc)
  have e:=cc_kind g
  unfold Fm.lawsOf
  dsimp only
  split
  · rename_i h0;rw [h0];rfl
  · rename_i h0
    rw [e] at h0 ⊢
    split
    · rename_i h10
      rw [if_neg (by rw [h10];decide)];rfl
    · rename_i h10
      split
      · rename_i h3;rw [if_pos h3] at h0;exact absurd rfl h0
      · rfl
theorem laws_count {N:Nat} {cs:List (List Int)} (hg:∀ c ∈ cs,Jm.Good c) {sts:List Int} (hl:sts.length = cs.length):(Fm.allLaws N cs sts).length = (cs.map Fm.cc).sum:=by
  unfold Fm.allLaws
  rw [hl]
  have key:∀ n,n ≤ cs.length → ((List.range n).flatMap fun k=>Fm.lawsOf N cs k (sts.getD k 0)).length = ((cs.take n).map Fm.cc).sum:=by
    intro n
    induction n with
    | zero=>intro _;rfl
    | succ n ih =>
      intro hn
      have hc:cs[n]? = some (cs.getD n []):=by rw [List.getD_eq_getElem?_getD,List.getElem?_eq_getElem (show n < cs.length by omega)];rfl
      rw [List.range_succ,List.flatMap_append,List.length_append,List.flatMap_singleton,ih (by omega),laws_cc hg (by omega),take_snoc hc,List.map_append,List.sum_append]
      simp
  have:=key cs.length (Nat.le_refl _)
  rw [List.take_length] at this
  exact this
theorem ent_map_drop {forms:List (List Int)} {i j:Nat} : Red.ent (forms.map fun f=>f.drop 1) i j = (forms.getD i []).getD (j + 1) 0:=by
  unfold Red.ent
  have e:(forms.map fun (f:List Int)=>f.drop 1).getD i [] = (forms.getD i []).drop 1:=by
    simp only [List.getD_eq_getElem?_getD,List.getElem?_map]
    cases forms[i]? <;> rfl
  rw [e]
  simp only [List.getD_eq_getElem?_getD,List.getElem?_drop]
  rw [Nat.add_comm]
theorem sizes_of {N:Nat} {cs forms:List (List Int)} {e:Nat} (R:Fm.Right N cs) (hl:forms.length = Fm.one N cs - 1) (hw:∀ f ∈ forms,f.length = Fm.one N cs + 1)
    (h1:∀ f ∈ forms, ∀ j,j < Fm.one N cs → (f.getD j 0).natAbs ≤ 2 ^ 21) (h2:∀ f ∈ forms,(f.getD (Fm.one N cs) 0).natAbs ≤ 2 ^ e):Sizes (forms.map fun f=>f.drop 1) (Fm.one N cs - 1) (Fm.one N cs - 1) e:=by
  have ho:=Fm.one_le R.n8 R.len
  have h2n:2 ≤ Fm.one N cs:=by have:=R.n1;unfold Fm.one;omega
  refine ⟨by rw [List.length_map,hl],fun r hr => ?_,by omega,by omega,by omega,fun i hi j hj => ?_,fun i hi => ?_⟩
  · obtain ⟨f,hf,rfl⟩:=List.mem_map.mp hr
    rw [List.length_drop,hw f hf]
    omega
  · rw [ent_map_drop]
    exact h1 _ (Red.mem_getD.mpr ⟨i,by omega,rfl⟩) _ (by omega)
  · rw [ent_map_drop,show Fm.one N cs - 1 + 1 = Fm.one N cs by omega]
    exact h2 _ (Red.mem_getD.mpr ⟨i,by omega,rfl⟩)
theorem getD_abs {f:List Int} {b:Nat} (h:∀ x ∈ f,x.natAbs ≤ b) (j:Nat):(f.getD j 0).natAbs ≤ b:=by
  by_cases hj:j < f.length
  · exact h _ (Red.mem_getD.mpr ⟨j,hj,rfl⟩)
  · rw [List.getD_eq_getElem?_getD,List.getElem?_eq_none (by omega)]
    exact Nat.zero_le _
theorem wid_nodes {N:Nat} {cs:List (List Int)} (R:Fm.Right N cs):∀ r ∈ Fm.nodeAll N cs,r.length = Fm.one N cs + 1:=by
  unfold Fm.nodeAll
  have key:∀ (bs:List (Nat × Nat × Nat)) (fs:List (List Int)),(∀ b ∈ bs,b.1 < fs.length ∧ b.2.1 < fs.length) → (∀ r ∈ fs,r.length = Fm.one N cs + 1) → ∀ r ∈ bs.foldl Fm.bump2 fs,r.length = Fm.one N cs + 1:=by
    intro bs
    induction bs with
    | nil=>intro fs _ h;exact h
    | cons p bs ih =>
      intro fs hb h
      have hp:=hb p List.mem_cons_self
      exact ih (Fm.bump2 fs p) (fun b hm=>by rw [Fm.len_bump2];exact hb b (List.mem_cons_of_mem _ hm)) (Fm.wid_bump2 h hp.1 hp.2)
  refine key _ _ (fun b hb => ?_) (fun r hr=>by rw [List.eq_of_mem_replicate hr,Fm.len_zero])
  have:=Fm.branch_ok R b hb
  rw [List.length_replicate]
  omega
theorem node_small {N:Nat} {cs:List (List Int)} (R:Fm.Right N cs):∀ f ∈ Fm.nodeForms N cs,f.length = Fm.one N cs + 1 ∧ ∀ x ∈ f,x.natAbs ≤ 2 ^ 21:=fun f hf=>by
  have hf':f ∈ Fm.nodeAll N cs:=List.mem_of_mem_drop hf
  refine ⟨wid_nodes R f hf',fun x hx=>Nat.le_trans (abs_nodes N cs f hf' x hx) ?_⟩
  have hb:(Fm.branches N cs).length ≤ 2 * cs.length:=Fm.flat_len _ (Fm.branchAt_len N cs) _
  have:=R.len
  omega
theorem law_small {N:Nat} {cs:List (List Int)} (R:Fm.Right N cs) {sts:List Int} (hl:sts.length = cs.length):(Fm.lawForms N cs sts).length = Fm.one N cs - 1 ∧ ∀ f ∈ Fm.lawForms N cs sts,f.length = Fm.one N cs + 1 ∧ ∀ x ∈ f,x.natAbs ≤ 2 ^ 21:=by
  unfold Fm.lawForms
  refine ⟨?_,fun f hf => ?_⟩
  · rw [List.length_append,List.length_map,Fm.nodeForms_len,laws_count R.good hl]
    unfold Fm.one
    omega
  · rcases List.mem_append.mp hf with e | e
    · exact node_small R f e
    · obtain ⟨d,hd,rfl⟩:=List.mem_map.mp e
      obtain ⟨t1,t2⟩:=(tiny_all R.good hl d hd).form
      exact ⟨t1,fun x hx=>Nat.le_trans (t2 x hx) (by decide)⟩
theorem sizes_laws {N:Nat} {cs:List (List Int)} (R:Fm.Right N cs) {sts:List Int} (hl:sts.length = cs.length):Sizes ((Fm.lawForms N cs sts).map fun f=>f.drop 1) (Fm.one N cs - 1) (Fm.one N cs - 1) 21:=by
  obtain ⟨h1,h2⟩:=law_small R hl
  exact sizes_of R h1 (fun f hf=>(h2 f hf).1) (fun f hf j _=>getD_abs (h2 f hf).2 j) (fun f hf=>getD_abs (h2 f hf).2 _)
theorem fine_of {N:Nat} {cs forms:List (List Int)} {e:Nat} (R:Fm.Right N cs) (z:Sizes (forms.map fun f=>f.drop 1) (Fm.one N cs - 1) (Fm.one N cs - 1) e) (he:e ≤ 3000) (hw:∀ f ∈ forms,f.length = Fm.one N cs + 1):Fine N cs forms :=
  ⟨by unfold Fm.one;omega,hw,safe_of z he⟩
theorem fine_laws {N:Nat} {cs:List (List Int)} (R:Fm.Right N cs) {sts:List Int} (hl:sts.length = cs.length):Fine N cs (Fm.lawForms N cs sts) :=
  fine_of R (sizes_laws R hl) (by decide) fun f hf=>((law_small R hl).2 f hf).1
theorem dot_abs:∀ (f g:List Int) (a b:Nat),(∀ x ∈ f,x.natAbs ≤ a) → (∀ x ∈ g,x.natAbs ≤ b) → (Fm.dotI f g).natAbs ≤ f.length * (a * b)
  | [],g,a,b,_,_=>by simp [Fm.dotI]
  | x :: f,[],a,b,_,_=>by simp [Fm.dotI]
  | x :: f,y :: g,a,b,hf,hg=>by
    have ih:=dot_abs f g a b (fun z hz=>hf z (List.mem_cons_of_mem _ hz)) (fun z hz=>hg z (List.mem_cons_of_mem _ hz))
    have h1:(x * y).natAbs ≤ a * b:=by rw [Int.natAbs_mul];exact Nat.mul_le_mul (hf x List.mem_cons_self) (hg y List.mem_cons_self)
    show (x * y + Fm.dotI f g).natAbs ≤ (f.length + 1) * (a * b)
    rw [Nat.add_mul]
    omega
structure SolSize (N:Nat) (cs:List (List Int)) (s:Fm.SolD) (e:Nat):Prop where
  len:s.tops.length = Fm.one N cs + 1
  b1:1 ≤ s.bot
  bb:s.bot.natAbs ≤ 2 ^ 999
  tb:∀ x ∈ s.tops,x.natAbs ≤ 2 ^ (e + 1005)
theorem sol_size {N:Nat} {cs forms:List (List Int)} {e:Nat} (R:Fm.Right N cs) (z:Sizes (forms.map fun f=>f.drop 1) (Fm.one N cs - 1) (Fm.one N cs - 1) e) {s:Fm.SolD} (h:Fm.solOf forms (Fm.one N cs) = some s):SolSize N cs s e:=by
  have h2n:2 ≤ Fm.one N cs:=by have:=R.n1;unfold Fm.one;omega
  unfold Fm.solOf at h
  split at h
  · cases h
  · have e1:=Option.some.inj h
    obtain ⟨a,b,c⟩:=size_upto z (Fm.one N cs - 1) (Nat.le_refl _)
    obtain ⟨cs',rs, π,I⟩:=Red.inv_upto z.len z.wid (Fm.one N cs - 1) (by omega)
    have hr:Fm.redL forms (Fm.one N cs) = Red.upto (forms.map fun f=>f.drop 1) (Fm.one N cs - 1):=rfl
    rw [← hr] at a b c I
    generalize Fm.redL forms (Fm.one N cs) = st at *
    have d0:=I.d0
    subst e1
    refine ⟨?_,by show (1:Int) ≤ (st.div.natAbs:Int);omega,by show (st.div.natAbs:Int).natAbs ≤ _;rw [Int.natAbs_natCast];exact a,fun x hx => ?_⟩
    · show ([0] ++ st.rows.map (fun r=>(if 0 < st.div then -1 else 1) * Fm.lastI r) ++ [(st.div.natAbs:Int)]).length = _
      rw [List.length_append,List.length_append,List.length_map,I.len]
      show 1 + (Fm.one N cs - 1) + 1 = _
      omega
    · have hx:x ∈ [0] ++ st.rows.map (fun r=>(if 0 < st.div then -1 else 1) * Fm.lastI r) ++ [(st.div.natAbs:Int)]:=hx
      rcases List.mem_append.mp hx with q | q
      · rcases List.mem_append.mp q with q' | q'
        · rw [List.mem_singleton.mp q'];exact Nat.zero_le _
        · obtain ⟨r,hrm,rfl⟩:=List.mem_map.mp q'
          obtain ⟨i,hi,er⟩:=(Red.mem_getD (d:=[])).mp hrm
          rw [I.len] at hi
          have hw:=I.wid i hi
          have el:Fm.lastI r = Red.ent st.rows i (Fm.one N cs - 1):=by
            unfold Fm.lastI Red.ent
            rw [er] at hw
            rw [er,hw]
            rfl
          have:=c i hi
          rw [el]
          split <;> omega
      · rw [List.mem_singleton.mp q,Int.natAbs_natCast]
        exact Nat.le_trans a (Nat.pow_le_pow_right (by decide) (by omega))
theorem form_top {N:Nat} {cs:List (List Int)} (R:Fm.Right N cs) {s:Fm.SolD} {e:Nat} (z:SolSize N cs s e) {f:List Int} (hl:f.length = Fm.one N cs + 1) {b:Nat} (hf:∀ x ∈ f,x.natAbs ≤ 2 ^ b):(Fm.dotI f s.tops).natAbs ≤ 2 ^ (b + e + 1011):=by
  have h:=dot_abs f s.tops (2 ^ b) (2 ^ (e + 1005)) hf z.tb
  have ho:=Fm.one_le R.n8 R.len
  refine Nat.le_trans h ?_
  have h6:f.length ≤ 2 ^ 6:=by rw [hl];omega
  refine Nat.le_trans (Nat.mul_le_mul_right _ h6) ?_
  rw [← Nat.pow_add, ← Nat.pow_add]
  exact Nat.pow_le_pow_right (by decide) (by omega)
theorem tame_of {N:Nat} {cs:List (List Int)} (R:Fm.Right N cs) {s:Fm.SolD} {e:Nat} (z:SolSize N cs s e) (he:e ≤ 3000):Tame N cs s :=
  ⟨z.len, .of (n:=999) z.bb (by decide),fun x hx => .of (z.tb x hx) (by omega),fun i j => .of (form_top R z (b:=0) (Fm.len_between _ _ _) (Fm.abs_between _ _ _)) (by omega)⟩
theorem tame_sol {N:Nat} {cs:List (List Int)} (R:Fm.Right N cs) {sts:List Int} (hl:sts.length = cs.length) {s:Fm.SolD} (h:Fm.solOf (Fm.lawForms N cs sts) (Fm.one N cs) = some s):Tame N cs s :=
  tame_of R (sol_size R (sizes_laws R hl) h) (by decide)
theorem row_of {ns:List Int} (h:Jm.refusal ns = []):∃ n,ns.length = 7 * n + 1 ∧ (ns.map V.int)[0]? = some (V.int (ns.headD 0)) ∧ ((ns.headD 0).toNat:Int) = ns.headD 0:=by
  have h':Jm.isRow ns = true:=by
    unfold Jm.refusal at h
    cases z:Jm.isRow ns with
    | true=>rfl
    | false=>rw [if_pos z] at h;cases h
  obtain ⟨⟨n,hn⟩,hN,hg⟩:=Jm.good_of h'
  refine ⟨n,hn, ?_,by omega⟩
  cases ns with
  | nil=>simp at hn
  | cons x r=>rfl
end Jw
namespace Fm
theorem point_len {N:Nat} {cs:List (List Int)} {p:List Int × SolD} (h:opPoint N cs = some p):p.1.length = cs.length:=Jw.states_len _ (point_mem h).1
end Fm
namespace Jw
end Jw

namespace Fs
open Wh WhA Lin NetL Jm Red RedL Fm
def up (y:Nat → Rat):Nat → Rat:=fun j=>if j = 0 then 0 else y (j - 1)
theorem rdot_drop {f:List Int} (h:0 < f.length) (y:Nat → Rat):rdot (f.drop 1) y = rdot f (up y):=by
  cases f with
  | nil=>simp at h
  | cons a r =>
    show rdot r y = (a:Rat) * up y 0 + rdot r (fun i=>up y (i + 1))
    have e:(fun i=>up y (i + 1)) = y:=by funext i;unfold up;rw [if_neg (by omega)];rfl
    rw [e]
    have e0:up y 0 = 0:=rfl
    rw [e0];grind
theorem rdot_set:∀ (l:List Int) (j:Nat) (v:Int) (Y:Nat → Rat),j < l.length → rdot (l.set j v) Y = rdot l Y + ((v:Rat) - ((l.getD j 0:Int):Rat)) * Y j
  | [],j,v,Y,h=>by simp at h
  | a :: l,0,v,Y,_=>by
    show (v:Rat) * Y 0 + rdot l _ = ((a:Rat) * Y 0 + rdot l _) + ((v:Rat) - (a:Rat)) * Y 0
    grind
  | a :: l,j + 1,v,Y,h=>by
    show (a:Rat) * Y 0 + rdot (l.set j v) (fun i=>Y (i + 1)) = ((a:Rat) * Y 0 + rdot l (fun i=>Y (i + 1))) + ((v:Rat) - ((l.getD j 0:Int):Rat)) * Y (j + 1)
    rw [rdot_set l j v _ (by simpa using h)]
    grind
theorem zero_get (w j:Nat):(zero w).getD j 0 = 0:=by
  unfold zero
  rw [List.getD_eq_getElem?_getD,List.getElem?_replicate]
  split <;> rfl
theorem rdot_zero (w:Nat) (Y:Nat → Rat):rdot (zero w) Y = 0:=by
  rw [rdot_dot]
  refine dot_zero _ _ fun j hj => ?_
  rw [rats_get,zero_get]
  simp
theorem rdot_single {w j:Nat} (h:j ≤ w) (Y:Nat → Rat):rdot (single w j) Y = Y j:=by
  unfold single
  rw [rdot_set _ _ _ _ (by rw [len_zero];omega),rdot_zero,zero_get]
  simp
  grind
theorem rdot_between {w a b:Nat} (ha:a ≤ w) (hb:b ≤ w) (Y:Nat → Rat):rdot (between w a b) Y = Y a - Y b:=by
  unfold between
  rw [rdot_set _ _ _ _ (by rw [List.length_set,len_zero];omega)]
  have:rdot ((zero w).set a 1) Y = Y a:=rdot_single ha Y
  rw [this]
  have e:(((((zero w).set a 1).getD b 0 - 1:Int):Rat) - ((((zero w).set a 1).getD b 0:Int):Rat)) = -1:=by
    rw [Rat.intCast_sub]
    grind
  rw [e]
  grind
theorem rdot_times (q:Int):∀ (f:List Int) (Y:Nat → Rat),rdot (times q f) Y = (q:Rat) * rdot f Y
  | [],_=>by show (0:Rat) = (q:Rat) * 0;grind
  | a :: f,Y=>by
    show ((q * a:Int):Rat) * Y 0 + rdot (times q f) _ = (q:Rat) * ((a:Rat) * Y 0 + rdot f _)
    rw [rdot_times q f,Rat.intCast_mul]
    grind
theorem rdot_less:∀ (f g:List Int) (Y:Nat → Rat),f.length = g.length → rdot (less f g) Y = rdot f Y - rdot g Y
  | [],[],_,_=>by show (0:Rat) = 0 - 0;grind
  | [],_ :: _,_,h=>by simp at h
  | _ :: _,[],_,h=>by simp at h
  | a :: f,b :: g,Y,h=>by
    show ((a - b:Int):Rat) * Y 0 + rdot (less f g) _ = ((a:Rat) * Y 0 + rdot f _) - ((b:Rat) * Y 0 + rdot g _)
    rw [rdot_less f g _ (by simpa using h),Rat.intCast_sub]
    grind
theorem rdot_form {w:Nat} {d:LawD} (t:Jw.Tiny w d) (Y:Nat → Rat):rdot d.form Y = (d.bot:Rat) * rdot d.told Y - (d.top:Rat) * rdot d.fac Y:=by
  unfold LawD.form
  rw [rdot_less _ _ _ (by rw [len_times,len_times,t.lt,t.lf]),rdot_times,rdot_times]
theorem cur_nat {c:List Int} (g:Good c):(elemIn c).currents = cc c:=by
  have:=cur_eq g
  have h2:=Jw.cc_cast (c:=c)
  omega
theorem sum_cc:∀ (l:List (List Int)),(∀ c ∈ l,Good c) → ((l.map elemIn).map Elem.currents).sum = (l.map cc).sum
  | [],_=>rfl
  | c :: l,h=>by
    simp only [List.map_cons,List.sum_cons]
    rw [cur_nat (h c List.mem_cons_self),sum_cc l fun d hd=>h d (List.mem_cons_of_mem _ hd)]
section
variable {N:Nat} {cs:List (List Int)} (hg:∀ c ∈ cs,Good c)
include hg
theorem at_cur (k:Nat):cur N cs k = (Net.mk N (cs.map elemIn)).at_ k + 1:=by
  unfold cur Net.at_ sumNat
  rw [sum_fold]
  show _ = N + (0 + (((cs.map elemIn).take k).map Elem.currents).sum) + 1
  rw [← List.map_take,sum_cc _ fun c hc=>hg c (List.mem_of_mem_take hc)]
  omega
theorem one_unk:one N cs = (Net.mk N (cs.map elemIn)).unknowns + 1:=by
  unfold Net.unknowns
  rw [← at_cur hg]
  unfold cur one
  show _ = N + 1 + ((cs.take (cs.map elemIn).length).map cc).sum
  rw [List.length_map,List.take_length]
end
theorem evalT_volt (k:Nat) (p:Rat) (y:Nat → Rat):evalT (volt k p) y = p * up y k:=by
  unfold volt up
  split
  · show (0:Rat) = p * 0;grind
  · show p * y (k - 1) + 0 = p * y (k - 1);grind
theorem evalT_across (a b:Nat) (p:Rat) (y:Nat → Rat):evalT (across a b p) y = p * (up y a - up y b):=by
  unfold across
  rw [evalT_append,evalT_volt,evalT_volt]
  grind
theorem volt_lt {k m:Nat} {p:Rat} (h:k ≤ m):∀ t ∈ volt k p,t.1 < m:=fun t ht=>by
  unfold volt at ht
  split at ht
  · cases ht
  · rw [List.mem_singleton.mp ht];show k - 1 < m;omega
theorem across_lt {a b m:Nat} {p:Rat} (ha:a ≤ m) (hb:b ≤ m):∀ t ∈ across a b p,t.1 < m:=fun t ht=>by
  rcases List.mem_append.mp ht with e | e
  · exact volt_lt ha t e
  · exact volt_lt hb t e
end Fs

namespace Fs
open Wh WhA Lin NetL Jm Red RedL Fm
theorem addAt_zero (r:List Rat) (i:Nat) (q:Rat):addAt r i (0 * q) = r:=by
  unfold addAt
  have e:r.getD i 0 + 0 * q = r.getD i 0:=by grind
  rw [e]
  apply List.ext_getElem?
  intro j
  rw [List.getElem?_set]
  by_cases h:i = j
  · subst h
    rw [if_pos rfl]
    by_cases h2:i < r.length
    · rw [if_pos h2,List.getD_eq_getElem?_getD,List.getElem?_eq_getElem h2];rfl
    · rw [if_neg h2,List.getElem?_eq_none (by omega)]
  · rw [if_neg h]
theorem fold_zero:∀ (ts:List (Nat × Rat)) (r:List Rat),ts.foldl (fun (r:List Rat) (t:Nat × Rat)=>addAt r t.1 (0 * t.2)) r = r
  | [],_=>rfl
  | t :: ts,r=>by rw [List.foldl_cons,addAt_zero,fold_zero ts r]
theorem dot_row (l:Law) (m:Nat) (x:Nat → Rat) (h1:∀ t ∈ l.terms,t.1 < m):dot (l.row m 0).1 x = evalT l.terms x:=by
  show dot (l.byS.foldl (fun (r:List Rat) (t:Nat × Rat)=>addAt r t.1 (0 * t.2)) (l.terms.foldl (fun (r:List Rat) (t:Nat × Rat)=>addAt r t.1 t.2) (List.replicate m 0))) x = _
  rw [fold_zero,fold_addAt1 l.terms _ x fun t ht=>by rw [List.length_replicate];exact h1 t ht,dot_rep]
  grind
structure LL (u:Nat) (d:LawD) (l:Law):Prop where
  tiny:Jw.Tiny (u + 1) d
  lt:∀ t ∈ l.terms,t.1 < u
  ev:∀ y:Nat → Rat,rdot d.form (up y) = (d.bot:Rat) * (evalT l.terms y - l.right * y u)
theorem LL.like {u:Nat} {d:LawD} {l:Law} (h:LL u d l):Like u (d.form.drop 1) (l.row u 0):=by
  have hl:=(h.tiny.form).1
  refine ⟨by rw [List.length_drop,hl];omega,row_len l u 0,d.bot, ?_,fun y => ?_⟩
  · have:=castPos h.tiny.b1
    grind
  · rw [rdot_drop (by omega),h.ev,dot_row l u y h.lt]
    rfl
theorem node_is {c:List Int} (g:Good c) {i:Nat} (h:i < (nodeCounts.getD (kd c).toNat 0).toNat) (h4:i < 4):(elemIn c).node i = pn c i:=by
  unfold Elem.node
  rw [elem_nodes g]
  unfold nodesOf pn
  have hl:(pl c).length = 4:=by
    unfold pl
    rw [List.length_take,List.length_drop,g.len]
    rfl
  generalize nodeCounts.getD (kd c).toNat 0 = n at h ⊢
  rw [List.getD_eq_getElem?_getD,List.getElem?_map,List.getElem?_take,if_pos h,List.getD_eq_getElem?_getD,List.getElem?_eq_getElem (by omega)]
  rfl
theorem ref_is {c:List Int} (g:Good c) (h:kd c = 8 ∨ kd c = 9):(elemIn c).refs.getD 0 0 = pn c 2:=by
  rw [elem_refs g]
  have hl:(pl c).length = 4:=by
    unfold pl
    rw [List.length_take,List.length_drop,g.len]
    rfl
  unfold refsOf pn
  rw [if_neg (by rcases h with e | e <;> rw [e] <;> decide),if_pos h]
  match h4:pl c,hl with
  | [a,b,d,e],_=>rfl
theorem kind_is {c:List Int} (g:Good c) (j:Nat) (hj:j ≤ 13) (h:kd c = j):(elemIn c).kind = kinds.getD j .R:=(kind_iff g j hj).mpr h
section
variable {N:Nat} {cs:List (List Int)} (R:Right N cs)
include R
theorem elt_laws {k:Nat} (hk:k < cs.length) {st:Int} {g:Setting} (hon:g.on k = decide (st = 1)) (hv:g.value k = (elemIn (cs.getD k [])).q) (hd:g.drop k = (elemIn (cs.getD k [])).q) :
    PySem.Paired (LL (Net.mk N (cs.map elemIn)).unknowns) (lawsOf N cs k st) ((Net.mk N (cs.map elemIn)).lawsOf g k (elemIn (cs.getD k []))):=by
  have hc:cs[k]? = some (cs.getD k []):=by rw [List.getD_eq_getElem?_getD,List.getElem?_eq_getElem hk];rfl
  have hmem:=List.mem_of_getElem? hc
  have gc:=R.good _ hmem
  have hone:=one_unk (N:=N) R.good
  have hcur:=at_cur (N:=N) R.good k
  have tiny:∀ d ∈ lawsOf N cs k st,Jw.Tiny ((Net.mk N (cs.map elemIn)).unknowns + 1) d:=fun d hd=>by rw [← hone];exact Jw.tiny_of R.good hk st d hd
  have hck:=Jw.cc_kind gc
  have hcl:=cur_lt (N:=N) hc
  have hcr:∀ j,cur N cs j = (Net.mk N (cs.map elemIn)).at_ j + 1:=fun j=>at_cur R.good j
  have href:=R.ref k _ hc
  have hNu:N ≤ (Net.mk N (cs.map elemIn)).unknowns:=by unfold one at hone;omega
  have hnode:∀ i,i < (nodeCounts.getD (kd (cs.getD k [])).toNat 0).toNat → i < 4 → (elemIn (cs.getD k [])).node i = pn (cs.getD k []) i ∧ pn (cs.getD k []) i ≤ N:=fun i h1 h2=>⟨node_is gc h1 h2,pn_le R hmem h1 h2⟩
  have hq:=elem_q' gc
  have hbt:=castPos (bt_pos gc)
  have hnum:=R.num _ hmem
  have hrefl:kd (cs.getD k []) = 8 ∨ kd (cs.getD k []) = 9 → (Net.mk N (cs.map elemIn)).at_ (pn (cs.getD k []) 2) < (Net.mk N (cs.map elemIn)).unknowns:=fun h=>by
    obtain ⟨h1,h2⟩:=href h
    have hj:pn (cs.getD k []) 2 < cs.length:=by omega
    have hcj:cs[pn (cs.getD k []) 2]? = some (cs.getD (pn (cs.getD k []) 2) []):=by rw [List.getD_eq_getElem?_getD (l:=cs) (i:=pn (cs.getD k []) 2),List.getElem?_eq_getElem hj];rfl
    have h3:=cur_lt (N:=N) hcj
    have h4:=Jw.cc_kind (R.good _ (List.mem_of_getElem? hcj))
    rw [if_neg h2] at h4
    have:=hcr (pn (cs.getD k []) 2)
    have h5:1 ≤ cc (cs.getD (pn (cs.getD k []) 2) []):=by rw [h4];split <;> decide
    omega
  have hri:kd (cs.getD k []) = 8 ∨ kd (cs.getD k []) = 9 → (elemIn (cs.getD k [])).refs.getD 0 0 = pn (cs.getD k []) 2:=ref_is gc
  generalize hcc:cs.getD k [] = c at *
  generalize hn:Net.mk N (cs.map elemIn) = n at *
  have e_told:toldF N cs k st = if kd c = 11 then between (one N cs) (pn c 2) (pn c 3) else if setsV c st = true then between (one N cs) (pn c 0) (pn c 1) else single (one N cs) (cur N cs k):=by unfold toldF;rw [hcc]
  have e_fac:facF N cs k st = if kd c = 0 then single (one N cs) (cur N cs k) else if (kd c = 4 ∨ kd c = 5) ∨ (kd c = 13 ∧ st = 1) then single (one N cs) (one N cs) else if kd c = 6 ∨ kd c = 7 ∨ kd c = 10 then between (one N cs) (pn c 2) (pn c 3) else if kd c = 8 ∨ kd c = 9 then single (one N cs) (cur N cs (pn c 2)) else zero (one N cs):=by unfold facF;rw [hcc]
  have e_laws:lawsOf N cs k st = if cc c = 0 then [] else ⟨toldF N cs k st,facF N cs k st,tp c,bt c⟩ :: (if kd c = 10 then [⟨single (one N cs) (cur N cs k + 1),times (-1) (single (one N cs) (cur N cs k)),tp c,bt c⟩] else []):=by unfold lawsOf;rw [hcc]
  have oneY:∀ y,up y (one N cs) = y n.unknowns:=fun y=>by unfold up;rw [hone,if_neg (by omega)];rfl
  have curY:∀ y j,up y (cur N cs j) = y (n.at_ j):=fun y j=>by unfold up;rw [hcr,if_neg (by omega)];rfl
  have curY1:∀ y,up y (cur N cs k + 1) = y (n.at_ k + 1):=fun y=>by unfold up;rw [hcr,if_neg (by omega)];rfl
  have bw:∀ {i j:Nat},pn c i ≤ N → pn c j ≤ N → ∀ y,rdot (between (one N cs) (pn c i) (pn c j)) (up y) = up y (pn c i) - up y (pn c j):=fun h1 h2 y=>rdot_between (by omega) (by omega) (up y)
  have sg:∀ {j:Nat},j ≤ one N cs → ∀ y,rdot (single (one N cs) j) (up y) = up y j:=fun h y=>rdot_single h (up y)
  have hcurle:cur N cs k ≤ one N cs:=cur_le _ _ _
  have zr:∀ y,rdot (zero (one N cs)) (up y) = 0:=fun y=>rdot_zero _ _
  have mk1:∀ (l:Law),cc c ≠ 0 → kd c ≠ 10 → n.lawsOf g k (elemIn c) = [l] → (∀ t ∈ l.terms,t.1 < n.unknowns) → (∀ y,(bt c:Rat) * rdot (toldF N cs k st) (up y) - (tp c:Rat) * rdot (facF N cs k st) (up y) = (bt c:Rat) * (evalT l.terms y - l.right * y n.unknowns)) → PySem.Paired (LL n.unknowns) (lawsOf N cs k st) (n.lawsOf g k (elemIn c)):=by
    intro l h0 h10 hl ht hev
    have e1:lawsOf N cs k st = [⟨toldF N cs k st,facF N cs k st,tp c,bt c⟩]:=by rw [e_laws,if_neg h0,if_neg h10]
    rw [hl,e1]
    have t1:=tiny ⟨toldF N cs k st,facF N cs k st,tp c,bt c⟩ (by rw [e1];exact List.mem_singleton.mpr rfl)
    exact .cons ⟨t1,ht,fun y=>by rw [rdot_form t1];exact hev y⟩ .nil
  obtain ⟨k0,a0,b0,d0,e0,t0,q0,F⟩:=gc.facts
  have hk0:=F.k0
  have hk1:=F.k1
  have hkd:kd c = k0:=by rw [F.eq];rfl
  have cases14:k0 = 0 ∨ k0 = 1 ∨ k0 = 2 ∨ k0 = 3 ∨ k0 = 4 ∨ k0 = 5 ∨ k0 = 6 ∨ k0 = 7 ∨ k0 = 8 ∨ k0 = 9 ∨ k0 = 10 ∨ k0 = 11 ∨ k0 = 12 ∨ k0 = 13:=by omega
  have hatk:cc c ≠ 0 → n.at_ k < n.unknowns:=fun h=>by omega
  rcases cases14 with h | h | h | h | h | h | h | h | h | h | h | h | h | h <;> subst h
  · -- R
    have hK:(elemIn c).kind = .R:=kind_is gc 0 (by decide) hkd
    have hcc1:cc c ≠ 0:=by rw [hck,hkd];decide
    obtain ⟨n0,m0⟩:=hnode 0 (by rw [hkd];decide) (by decide)
    obtain ⟨n1,m1⟩:=hnode 1 (by rw [hkd];decide) (by decide)
    refine mk1 ⟨across ((elemIn c).node 0) ((elemIn c).node 1) 1 ++ [(n.at_ k, -(elemIn c).q)],[],0⟩ hcc1 (by rw [hkd];decide) (by unfold Net.lawsOf;rw [hK]) ?_ ?_
    · intro t ht
      rcases List.mem_append.mp ht with e | e
      · exact across_lt (by omega) (by omega) t e
      · rw [List.mem_singleton.mp e];exact hatk hcc1
    · intro y
      have et:toldF N cs k st = between (one N cs) (pn c 0) (pn c 1):=by rw [e_told,if_neg (by rw [hkd];decide),if_pos (by unfold setsV;rw [hkd];rfl)]
      have ef:facF N cs k st = single (one N cs) (cur N cs k):=by rw [e_fac,if_pos hkd]
      rw [et,ef,bw m0 m1,sg hcurle,curY,evalT_append,evalT_across,n0,n1,hq]
      show _ = (bt c:Rat) * (1 * (up y (pn c 0) - up y (pn c 1)) + (-((tp c:Rat) / (bt c:Rat)) * y (n.at_ k) + 0) - 0 * y n.unknowns)
      grind
  · -- C
    have hK:(elemIn c).kind = .C:=kind_is gc 1 (by decide) hkd
    have hcc1:cc c ≠ 0:=by rw [hck,hkd];decide
    obtain ⟨n0,m0⟩:=hnode 0 (by rw [hkd];decide) (by decide)
    obtain ⟨n1,m1⟩:=hnode 1 (by rw [hkd];decide) (by decide)
    refine mk1 ⟨[(n.at_ k,1)],across ((elemIn c).node 0) ((elemIn c).node 1) (-(elemIn c).q),0⟩ hcc1 (by rw [hkd];decide) (by unfold Net.lawsOf;rw [hK]) ?_ ?_
    · intro t ht
      rw [List.mem_singleton.mp ht];exact hatk hcc1
    · intro y
      have et:toldF N cs k st = single (one N cs) (cur N cs k):=by rw [e_told];rw [if_neg (by rw [hkd];decide),if_neg (by unfold setsV;rw [hkd];simp)]
      have ef:facF N cs k st = zero (one N cs):=by rw [e_fac];simp [hkd]
      rw [et,ef,sg hcurle,curY,zr]
      show _ = (bt c:Rat) * ((1 * y (n.at_ k) + 0) - 0 * y n.unknowns)
      grind
  · -- L
    have hK:(elemIn c).kind = .L:=kind_is gc 2 (by decide) hkd
    have hcc1:cc c ≠ 0:=by rw [hck,hkd];decide
    obtain ⟨n0,m0⟩:=hnode 0 (by rw [hkd];decide) (by decide)
    obtain ⟨n1,m1⟩:=hnode 1 (by rw [hkd];decide) (by decide)
    refine mk1 ⟨across ((elemIn c).node 0) ((elemIn c).node 1) 1,(n.at_ k, -(elemIn c).q) :: (n.coupled k).map (fun (p:Nat × Rat)=>(n.at_ p.1, -p.2)),0⟩ hcc1 (by rw [hkd];decide) (by unfold Net.lawsOf;rw [hK]) ?_ ?_
    · intro t ht
      exact across_lt (by omega) (by omega) t ht
    · intro y
      have et:toldF N cs k st = between (one N cs) (pn c 0) (pn c 1):=by rw [e_told];rw [if_neg (by rw [hkd];decide),if_pos (by unfold setsV;rw [hkd];rfl)]
      have ef:facF N cs k st = zero (one N cs):=by rw [e_fac];simp [hkd]
      rw [et,ef,bw m0 m1,zr,evalT_across,n0,n1]
      show _ = (bt c:Rat) * (1 * (up y (pn c 0) - up y (pn c 1)) - 0 * y n.unknowns)
      grind
  · -- M
    have hK:(elemIn c).kind = .M:=kind_is gc 3 (by decide) hkd
    have h0:cc c = 0:=by rw [hck,hkd];rfl
    have e1:lawsOf N cs k st = []:=by rw [e_laws,if_pos h0]
    have e2:n.lawsOf g k (elemIn c) = []:=by unfold Net.lawsOf;rw [hK]
    rw [e1,e2]
    exact .nil
  · -- V
    have hK:(elemIn c).kind = .V:=kind_is gc 4 (by decide) hkd
    have hcc1:cc c ≠ 0:=by rw [hck,hkd];decide
    obtain ⟨n0,m0⟩:=hnode 0 (by rw [hkd];decide) (by decide)
    obtain ⟨n1,m1⟩:=hnode 1 (by rw [hkd];decide) (by decide)
    refine mk1 ⟨across ((elemIn c).node 0) ((elemIn c).node 1) 1,[],g.value k⟩ hcc1 (by rw [hkd];decide) (by unfold Net.lawsOf;rw [hK]) ?_ ?_
    · intro t ht
      exact across_lt (by omega) (by omega) t ht
    · intro y
      have et:toldF N cs k st = between (one N cs) (pn c 0) (pn c 1):=by rw [e_told];rw [if_neg (by rw [hkd];decide),if_pos (by unfold setsV;rw [hkd];rfl)]
      have ef:facF N cs k st = single (one N cs) (one N cs):=by rw [e_fac];simp [hkd]
      rw [et,ef,bw m0 m1,sg (Nat.le_refl _),oneY,evalT_across,n0,n1,hv,hq]
      show _ = (bt c:Rat) * (1 * (up y (pn c 0) - up y (pn c 1)) - ((tp c:Rat) / (bt c:Rat)) * y n.unknowns)
      grind
  · -- I
    have hK:(elemIn c).kind = .I:=kind_is gc 5 (by decide) hkd
    have hcc1:cc c ≠ 0:=by rw [hck,hkd];decide
    obtain ⟨n0,m0⟩:=hnode 0 (by rw [hkd];decide) (by decide)
    obtain ⟨n1,m1⟩:=hnode 1 (by rw [hkd];decide) (by decide)
    refine mk1 ⟨[(n.at_ k,1)],[],g.value k⟩ hcc1 (by rw [hkd];decide) (by unfold Net.lawsOf;rw [hK]) ?_ ?_
    · intro t ht
      rw [List.mem_singleton.mp ht];exact hatk hcc1
    · intro y
      have et:toldF N cs k st = single (one N cs) (cur N cs k):=by rw [e_told];rw [if_neg (by rw [hkd];decide),if_neg (by unfold setsV;rw [hkd];simp)]
      have ef:facF N cs k st = single (one N cs) (one N cs):=by rw [e_fac];simp [hkd]
      rw [et,ef,sg hcurle,curY,sg (Nat.le_refl _),oneY,hv,hq]
      show _ = (bt c:Rat) * ((1 * y (n.at_ k) + 0) - ((tp c:Rat) / (bt c:Rat)) * y n.unknowns)
      grind
  · -- E
    have hK:(elemIn c).kind = .E:=kind_is gc 6 (by decide) hkd
    have hcc1:cc c ≠ 0:=by rw [hck,hkd];decide
    obtain ⟨n0,m0⟩:=hnode 0 (by rw [hkd];decide) (by decide)
    obtain ⟨n1,m1⟩:=hnode 1 (by rw [hkd];decide) (by decide)
    obtain ⟨n2,m2⟩:=hnode 2 (by rw [hkd];decide) (by decide)
    obtain ⟨n3,m3⟩:=hnode 3 (by rw [hkd];decide) (by decide)
    refine mk1 ⟨across ((elemIn c).node 0) ((elemIn c).node 1) 1 ++ across ((elemIn c).node 2) ((elemIn c).node 3) (-(elemIn c).q),[],0⟩ hcc1 (by rw [hkd];decide) (by unfold Net.lawsOf;rw [hK]) ?_ ?_
    · intro t ht
      rcases List.mem_append.mp ht with e | e
      · exact across_lt (by omega) (by omega) t e
      · exact across_lt (by omega) (by omega) t e
    · intro y
      have et:toldF N cs k st = between (one N cs) (pn c 0) (pn c 1):=by rw [e_told];rw [if_neg (by rw [hkd];decide),if_pos (by unfold setsV;rw [hkd];rfl)]
      have ef:facF N cs k st = between (one N cs) (pn c 2) (pn c 3):=by rw [e_fac];simp [hkd]
      rw [et,ef,bw m0 m1,bw m2 m3,evalT_append,evalT_across,evalT_across,n0,n1,n2,n3,hq]
      show _ = (bt c:Rat) * (1 * (up y (pn c 0) - up y (pn c 1)) + (-((tp c:Rat) / (bt c:Rat)) * (up y (pn c 2) - up y (pn c 3))) - 0 * y n.unknowns)
      grind
  · -- G
    have hK:(elemIn c).kind = .G:=kind_is gc 7 (by decide) hkd
    have hcc1:cc c ≠ 0:=by rw [hck,hkd];decide
    obtain ⟨n0,m0⟩:=hnode 0 (by rw [hkd];decide) (by decide)
    obtain ⟨n1,m1⟩:=hnode 1 (by rw [hkd];decide) (by decide)
    obtain ⟨n2,m2⟩:=hnode 2 (by rw [hkd];decide) (by decide)
    obtain ⟨n3,m3⟩:=hnode 3 (by rw [hkd];decide) (by decide)
    refine mk1 ⟨(n.at_ k,1) :: across ((elemIn c).node 2) ((elemIn c).node 3) (-(elemIn c).q),[],0⟩ hcc1 (by rw [hkd];decide) (by unfold Net.lawsOf;rw [hK]) ?_ ?_
    · intro t ht
      rcases List.mem_cons.mp ht with e | e
      · rw [e];exact hatk hcc1
      · exact across_lt (by omega) (by omega) t e
    · intro y
      have et:toldF N cs k st = single (one N cs) (cur N cs k):=by rw [e_told];rw [if_neg (by rw [hkd];decide),if_neg (by unfold setsV;rw [hkd];simp)]
      have ef:facF N cs k st = between (one N cs) (pn c 2) (pn c 3):=by rw [e_fac];simp [hkd]
      rw [et,ef,sg hcurle,curY,bw m2 m3,evalT_cons,evalT_across,n2,n3,hq]
      show _ = (bt c:Rat) * (1 * y (n.at_ k) + (-((tp c:Rat) / (bt c:Rat)) * (up y (pn c 2) - up y (pn c 3))) - 0 * y n.unknowns)
      grind
  · -- H
    have hK:(elemIn c).kind = .H:=kind_is gc 8 (by decide) hkd
    have hcc1:cc c ≠ 0:=by rw [hck,hkd];decide
    obtain ⟨n0,m0⟩:=hnode 0 (by rw [hkd];decide) (by decide)
    obtain ⟨n1,m1⟩:=hnode 1 (by rw [hkd];decide) (by decide)
    have hr8:kd c = 8 ∨ kd c = 9:=by rw [hkd];decide
    have hot:=hrefl hr8
    have hoi:=hri hr8
    refine mk1 ⟨across ((elemIn c).node 0) ((elemIn c).node 1) 1 ++ [(n.at_ ((elemIn c).refs.getD 0 0), -(elemIn c).q)],[],0⟩ hcc1 (by rw [hkd];decide) (by unfold Net.lawsOf;rw [hK]) ?_ ?_
    · intro t ht
      rcases List.mem_append.mp ht with e | e
      · exact across_lt (by omega) (by omega) t e
      · rw [List.mem_singleton.mp e,hoi];exact hot
    · intro y
      have et:toldF N cs k st = between (one N cs) (pn c 0) (pn c 1):=by rw [e_told];rw [if_neg (by rw [hkd];decide),if_pos (by unfold setsV;rw [hkd];rfl)]
      have ef:facF N cs k st = single (one N cs) (cur N cs (pn c 2)):=by rw [e_fac];simp [hkd]
      rw [et,ef,bw m0 m1,sg (cur_le _ _ _),curY,evalT_append,evalT_across,n0,n1,hq,hoi]
      show _ = (bt c:Rat) * (1 * (up y (pn c 0) - up y (pn c 1)) + (-((tp c:Rat) / (bt c:Rat)) * y (n.at_ (pn c 2)) + 0) - 0 * y n.unknowns)
      grind
  · -- F
    have hK:(elemIn c).kind = .F:=kind_is gc 9 (by decide) hkd
    have hcc1:cc c ≠ 0:=by rw [hck,hkd];decide
    obtain ⟨n0,m0⟩:=hnode 0 (by rw [hkd];decide) (by decide)
    obtain ⟨n1,m1⟩:=hnode 1 (by rw [hkd];decide) (by decide)
    have hr8:kd c = 8 ∨ kd c = 9:=by rw [hkd];decide
    have hot:=hrefl hr8
    have hoi:=hri hr8
    refine mk1 ⟨[(n.at_ k,1),(n.at_ ((elemIn c).refs.getD 0 0), -(elemIn c).q)],[],0⟩ hcc1 (by rw [hkd];decide) (by unfold Net.lawsOf;rw [hK]) ?_ ?_
    · intro t ht
      rcases List.mem_cons.mp ht with e | e
      · rw [e];exact hatk hcc1
      · rw [List.mem_singleton.mp e,hoi];exact hot
    · intro y
      have et:toldF N cs k st = single (one N cs) (cur N cs k):=by rw [e_told];rw [if_neg (by rw [hkd];decide),if_neg (by unfold setsV;rw [hkd];simp)]
      have ef:facF N cs k st = single (one N cs) (cur N cs (pn c 2)):=by rw [e_fac];simp [hkd]
      rw [et,ef,sg hcurle,curY,sg (cur_le _ _ _),curY,hq,hoi]
      show _ = (bt c:Rat) * (1 * y (n.at_ k) + (-((tp c:Rat) / (bt c:Rat)) * y (n.at_ (pn c 2)) + 0) - 0 * y n.unknowns)
      grind
  · -- T
    have hK:(elemIn c).kind = .T:=kind_is gc 10 (by decide) hkd
    have hcc2:cc c = 2:=by rw [hck,hkd];rfl
    obtain ⟨n0,m0⟩:=hnode 0 (by rw [hkd];decide) (by decide)
    obtain ⟨n1,m1⟩:=hnode 1 (by rw [hkd];decide) (by decide)
    obtain ⟨n2,m2⟩:=hnode 2 (by rw [hkd];decide) (by decide)
    obtain ⟨n3,m3⟩:=hnode 3 (by rw [hkd];decide) (by decide)
    have e1:lawsOf N cs k st = [⟨toldF N cs k st,facF N cs k st,tp c,bt c⟩,⟨single (one N cs) (cur N cs k + 1),times (-1) (single (one N cs) (cur N cs k)),tp c,bt c⟩]:=by rw [e_laws,if_neg (by omega),if_pos hkd]
    have e2:n.lawsOf g k (elemIn c) = [⟨across ((elemIn c).node 0) ((elemIn c).node 1) 1 ++ across ((elemIn c).node 2) ((elemIn c).node 3) (-(elemIn c).q),[],0⟩,⟨[(n.at_ k + 1,1),(n.at_ k,(elemIn c).q)],[],0⟩]:=by unfold Net.lawsOf;rw [hK]
    have et:toldF N cs k st = between (one N cs) (pn c 0) (pn c 1):=by rw [e_told,if_neg (by rw [hkd];decide),if_pos (by unfold setsV;rw [hkd];rfl)]
    have ef:facF N cs k st = between (one N cs) (pn c 2) (pn c 3):=by rw [e_fac];simp [hkd]
    have t1:=tiny ⟨toldF N cs k st,facF N cs k st,tp c,bt c⟩ (by rw [e1];exact List.mem_cons_self)
    have t2:=tiny ⟨single (one N cs) (cur N cs k + 1),times (-1) (single (one N cs) (cur N cs k)),tp c,bt c⟩ (by rw [e1];exact List.mem_cons_of_mem _ (List.mem_singleton.mpr rfl))
    rw [e1,e2]
    refine .cons ⟨t1,fun t ht => ?_,fun y => ?_⟩ (.cons ⟨t2,fun t ht => ?_,fun y => ?_⟩ .nil)
    · rcases List.mem_append.mp ht with e | e
      · exact across_lt (by omega) (by omega) t e
      · exact across_lt (by omega) (by omega) t e
    · rw [rdot_form t1]
      show (bt c:Rat) * rdot (toldF N cs k st) (up y) - (tp c:Rat) * rdot (facF N cs k st) (up y) = (bt c:Rat) * (evalT (across ((elemIn c).node 0) ((elemIn c).node 1) 1 ++ across ((elemIn c).node 2) ((elemIn c).node 3) (-(elemIn c).q)) y - 0 * y n.unknowns)
      rw [et,ef,bw m0 m1,bw m2 m3,evalT_append,evalT_across,evalT_across,n0,n1,n2,n3,hq]
      grind
    · rcases List.mem_cons.mp ht with e | e
      · rw [e];show n.at_ k + 1 < _;omega
      · rw [List.mem_singleton.mp e];show n.at_ k < _;omega
    · rw [rdot_form t2]
      show (bt c:Rat) * rdot (single (one N cs) (cur N cs k + 1)) (up y) - (tp c:Rat) * rdot (times (-1) (single (one N cs) (cur N cs k))) (up y) = (bt c:Rat) * ((1 * y (n.at_ k + 1) + ((elemIn c).q * y (n.at_ k) + 0)) - 0 * y n.unknowns)
      rw [rdot_times,sg hcurle,sg (by omega),curY,curY1,hq]
      have e3:(((-1:Int)):Rat) = -1:=by rfl
      rw [e3]
      grind
  · -- O
    have hK:(elemIn c).kind = .O:=kind_is gc 11 (by decide) hkd
    have hcc1:cc c ≠ 0:=by rw [hck,hkd];decide
    obtain ⟨n0,m0⟩:=hnode 0 (by rw [hkd];decide) (by decide)
    obtain ⟨n1,m1⟩:=hnode 1 (by rw [hkd];decide) (by decide)
    obtain ⟨n2,m2⟩:=hnode 2 (by rw [hkd];decide) (by decide)
    obtain ⟨n3,m3⟩:=hnode 3 (by rw [hkd];decide) (by decide)
    refine mk1 ⟨across ((elemIn c).node 2) ((elemIn c).node 3) 1,[],0⟩ hcc1 (by rw [hkd];decide) (by unfold Net.lawsOf;rw [hK]) ?_ ?_
    · intro t ht
      exact across_lt (by omega) (by omega) t ht
    · intro y
      have et:toldF N cs k st = between (one N cs) (pn c 2) (pn c 3):=by rw [e_told];rw [if_pos hkd]
      have ef:facF N cs k st = zero (one N cs):=by rw [e_fac];simp [hkd]
      rw [et,ef,bw m2 m3,zr,evalT_across,n2,n3]
      show _ = (bt c:Rat) * (1 * (up y (pn c 2) - up y (pn c 3)) - 0 * y n.unknowns)
      grind
  · -- S
    have hK:(elemIn c).kind = .S:=kind_is gc 12 (by decide) hkd
    have hcc1:cc c ≠ 0:=by rw [hck,hkd];decide
    obtain ⟨n0,m0⟩:=hnode 0 (by rw [hkd];decide) (by decide)
    obtain ⟨n1,m1⟩:=hnode 1 (by rw [hkd];decide) (by decide)
    have hm:decide (tp c = 0 ∨ tp c = bt c) = true:=by
      have:=hnum
      unfold mayNum at this
      rw [hkd] at this
      simpa using this
    have hm:=of_decide_eq_true hm
    have hb1:=bt_pos gc
    by_cases ht0:tp c = 0
    · have hq1:¬ (elemIn c).q = 1:=by rw [hq,q_one hb1,ht0];omega
      have hst:tp c = 0:=ht0
      refine mk1 ⟨[(n.at_ k,1)],[],0⟩ hcc1 (by rw [hkd];decide) (by unfold Net.lawsOf;rw [hK];show (if (elemIn c).q = 1 then _ else _) = _;rw [if_neg hq1]) ?_ ?_
      · intro t ht
        rw [List.mem_singleton.mp ht];exact hatk hcc1
      · intro y
        have et:toldF N cs k st = single (one N cs) (cur N cs k):=by rw [e_told];rw [if_neg (by rw [hkd];decide),if_neg (by unfold setsV;rw [hkd];simp [ht0])]
        have ef:facF N cs k st = zero (one N cs):=by rw [e_fac];simp [hkd]
        rw [et,ef,sg hcurle,curY,zr]
        show _ = (bt c:Rat) * ((1 * y (n.at_ k) + 0) - 0 * y n.unknowns)
        grind
    · have hq1:(elemIn c).q = 1:=by rw [hq,q_one hb1];omega
      refine mk1 ⟨across ((elemIn c).node 0) ((elemIn c).node 1) 1,[],0⟩ hcc1 (by rw [hkd];decide) (by unfold Net.lawsOf;rw [hK];show (if (elemIn c).q = 1 then _ else _) = _;rw [if_pos hq1]) ?_ ?_
      · intro t ht
        exact across_lt (by omega) (by omega) t ht
      · intro y
        have et:toldF N cs k st = between (one N cs) (pn c 0) (pn c 1):=by rw [e_told];rw [if_neg (by rw [hkd];decide),if_pos (by unfold setsV;rw [hkd];simp [ht0])]
        have ef:facF N cs k st = zero (one N cs):=by rw [e_fac];simp [hkd]
        rw [et,ef,bw m0 m1,zr,evalT_across,n0,n1]
        show _ = (bt c:Rat) * (1 * (up y (pn c 0) - up y (pn c 1)) - 0 * y n.unknowns)
        grind
  · -- D
    have hK:(elemIn c).kind = .D:=kind_is gc 13 (by decide) hkd
    have hcc1:cc c ≠ 0:=by rw [hck,hkd];decide
    obtain ⟨n0,m0⟩:=hnode 0 (by rw [hkd];decide) (by decide)
    obtain ⟨n1,m1⟩:=hnode 1 (by rw [hkd];decide) (by decide)
    by_cases hst:st = 1
    · have hg1:g.on k = true:=by rw [hon];exact decide_eq_true hst
      refine mk1 ⟨across ((elemIn c).node 0) ((elemIn c).node 1) 1,[],g.drop k⟩ hcc1 (by rw [hkd];decide) (by unfold Net.lawsOf;rw [hK];show (if g.on k = true then _ else _) = _;rw [if_pos hg1]) ?_ ?_
      · intro t ht
        exact across_lt (by omega) (by omega) t ht
      · intro y
        have et:toldF N cs k st = between (one N cs) (pn c 0) (pn c 1):=by rw [e_told];rw [if_neg (by rw [hkd];decide),if_pos (by unfold setsV;rw [hkd];simp [hst])]
        have ef:facF N cs k st = single (one N cs) (one N cs):=by rw [e_fac];simp [hkd,hst]
        rw [et,ef,bw m0 m1,sg (Nat.le_refl _),oneY,evalT_across,n0,n1,hd,hq]
        show _ = (bt c:Rat) * (1 * (up y (pn c 0) - up y (pn c 1)) - ((tp c:Rat) / (bt c:Rat)) * y n.unknowns)
        grind
    · have hg1:¬ g.on k = true:=by rw [hon];simp [hst]
      refine mk1 ⟨[(n.at_ k,1)],[],0⟩ hcc1 (by rw [hkd];decide) (by unfold Net.lawsOf;rw [hK];show (if g.on k = true then _ else _) = _;rw [if_neg hg1]) ?_ ?_
      · intro t ht
        rw [List.mem_singleton.mp ht];exact hatk hcc1
      · intro y
        have et:toldF N cs k st = single (one N cs) (cur N cs k):=by rw [e_told];rw [if_neg (by rw [hkd];decide),if_neg (by unfold setsV;rw [hkd];simp [hst])]
        have ef:facF N cs k st = zero (one N cs):=by rw [e_fac];simp [hkd,hst]
        rw [et,ef,sg hcurle,curY,zr]
        show _ = (bt c:Rat) * ((1 * y (n.at_ k) + 0) - 0 * y n.unknowns)
        grind
end
end Fs

namespace Fs
open Wh WhA Lin NetL Jm Red RedL Fm
def contrib (v:Nat) (Y:Nat → Rat) (b:Nat × Nat × Nat):Rat:=(if v = b.1 then Y b.2.2 else 0) - (if v = b.2.1 then Y b.2.2 else 0)
def csum (v:Nat) (Y:Nat → Rat) (bs:List (Nat × Nat × Nat)):Rat:=bs.foldr (fun b a=>contrib v Y b + a) 0
theorem csum_append (v:Nat) (Y:Nat → Rat):∀ (a b:List (Nat × Nat × Nat)),csum v Y (a ++ b) = csum v Y a + csum v Y b
  | [],b=>by show csum v Y b = 0 + csum v Y b;grind
  | x :: a,b=>by
    show contrib v Y x + csum v Y (a ++ b) = (contrib v Y x + csum v Y a) + csum v Y b
    rw [csum_append v Y a b];grind
theorem bump_eval {fs:List (List Int)} {p j:Nat} {d:Int} (hp:p < fs.length) (hj:j < (fs.getD p []).length) (v:Nat) (Y:Nat → Rat):rdot ((bump fs p j d).getD v []) Y = rdot (fs.getD v []) Y + (if v = p then (d:Rat) * Y j else 0):=by
  unfold bump
  rw [getD_set]
  by_cases h:v = p
  · subst h
    rw [if_pos ⟨rfl,hp⟩,if_pos rfl,rdot_set _ _ _ _ hj]
    rw [Rat.intCast_add]
    grind
  · rw [if_neg (fun z=>h z.1),if_neg h]
    grind
theorem bump2_eval {fs:List (List Int)} {b:Nat × Nat × Nat} {w:Nat} (hw:∀ r ∈ fs,r.length = w) (h1:b.1 < fs.length) (h2:b.2.1 < fs.length) (hj:b.2.2 < w) (v:Nat) (Y:Nat → Rat):rdot ((bump2 fs b).getD v []) Y = rdot (fs.getD v []) Y + contrib v Y b:=by
  unfold bump2
  have w1:=wid_bump (j:=b.2.2) (d:=1) hw h1
  rw [bump_eval (by rw [len_bump];exact h2) (by rw [w1 _ (mem_getD.mpr ⟨_,by rw [len_bump];exact h2,rfl⟩)];exact hj),bump_eval h1 (by rw [hw _ (mem_getD.mpr ⟨_,h1,rfl⟩)];exact hj)]
  unfold contrib
  have e1:(((1:Int)):Rat) = 1:=rfl
  have e2:(((-1:Int)):Rat) = -1:=rfl
  rw [e1,e2]
  split <;> split <;> grind
theorem fold_eval {w v:Nat} (Y:Nat → Rat):∀ (bs:List (Nat × Nat × Nat)) (fs:List (List Int)),(∀ r ∈ fs,r.length = w) → (∀ b ∈ bs,b.1 < fs.length ∧ b.2.1 < fs.length ∧ b.2.2 < w) → rdot ((bs.foldl bump2 fs).getD v []) Y = rdot (fs.getD v []) Y + csum v Y bs
  | [],fs,_,_=>by show rdot (fs.getD v []) Y = rdot (fs.getD v []) Y + 0;grind
  | b :: bs,fs,hw,hb=>by
    obtain ⟨h1,h2,h3⟩:=hb b List.mem_cons_self
    rw [List.foldl_cons,fold_eval Y bs (bump2 fs b) (wid_bump2 hw h1 h2) (fun x hx=>by rw [len_bump2];exact hb x (List.mem_cons_of_mem _ hx)),bump2_eval hw h1 h2 h3]
    show _ = rdot (fs.getD v []) Y + (contrib v Y b + csum v Y bs)
    grind
theorem indexed_is {N:Nat} {cs:List (List Int)} : (Net.mk N (cs.map elemIn)).indexed = (List.range cs.length).map fun k=>(k,elemIn (cs.getD k [])):=by
  unfold Net.indexed
  apply List.ext_getElem?
  intro i
  rw [List.getElem?_map,List.getElem?_map,List.getElem?_zipIdx]
  show Option.map _ (Option.map _ ((cs.map elemIn)[i]?)) = _
  rw [List.getElem?_map]
  by_cases h:i < cs.length
  · rw [List.getElem?_eq_getElem h,List.getElem?_range h]
    simp [h]
  · rw [List.getElem?_eq_none (by omega),List.getElem?_eq_none (by rw [List.length_range];omega)]
    rfl
theorem evalT_flat {y:Nat → Rat} {v:Nat} {Y:Nat → Rat} {f:Nat → List (Nat × Rat)} {h:Nat → List (Nat × Nat × Nat)} : ∀ n,(∀ k,k < n → evalT (f k) y = csum v Y (h k)) → evalT ((List.range n).flatMap f) y = csum v Y ((List.range n).flatMap h)
  | 0,_=>rfl
  | n + 1,e=>by
    rw [List.range_succ,List.flatMap_append,List.flatMap_append,evalT_append,csum_append,List.flatMap_singleton,List.flatMap_singleton,evalT_flat n fun k hk=>e k (by omega),e n (by omega)]
theorem alike_range {u:Nat} {f:Nat → List Int} {h:Nat → Row} : ∀ n,(∀ k,k < n → Like u (f k) (h k)) → Alike u ((List.range n).map f) ((List.range n).map h)
  | 0,_ => .nil
  | n + 1,e=>by
    rw [List.range_succ,List.map_append,List.map_append]
    exact (alike_range n fun k hk=>e k (by omega)).append (.cons (e n (by omega)) .nil)
theorem alike_laws {u:Nat} : ∀ {ds:List LawD} {ls:List Law},PySem.Paired (LL u) ds ls → Alike u ((ds.map LawD.form).map fun f=>f.drop 1) (ls.map fun l=>l.row u 0)
  | _,_, .nil => .nil
  | _,_, .cons h t => .cons h.like (alike_laws t)
theorem paired_flat {α β : Type} {F : α → β → Prop} {f:Nat → List α} {h:Nat → List β} : ∀ n,(∀ k,k < n → PySem.Paired F (f k) (h k)) → PySem.Paired F ((List.range n).flatMap f) ((List.range n).flatMap h)
  | 0,_ => .nil
  | n + 1,e=>by
    rw [List.range_succ,List.flatMap_append,List.flatMap_append,List.flatMap_singleton,List.flatMap_singleton]
    exact Lx.paired_append (paired_flat n fun k hk=>e k (by omega)) (e n (by omega))
section
variable {N:Nat} {cs:List (List Int)} (R:Right N cs)
include R
theorem out_is {k v:Nat} (hk:k < cs.length) (y:Nat → Rat):evalT ((Net.mk N (cs.map elemIn)).outOf v k (elemIn (cs.getD k []))) y = csum v (up y) (branchAt N cs k) ∧ ∀ t ∈ (Net.mk N (cs.map elemIn)).outOf v k (elemIn (cs.getD k [])),t.1 < (Net.mk N (cs.map elemIn)).unknowns:=by
  have hc:cs[k]? = some (cs.getD k []):=by rw [List.getD_eq_getElem?_getD,List.getElem?_eq_getElem hk];rfl
  have hmem:=List.mem_of_getElem? hc
  have gc:=R.good _ hmem
  have hone:=one_unk (N:=N) R.good
  have hcr:=at_cur (N:=N) R.good k
  have hck:=Jw.cc_kind gc
  have hcl:=cur_lt (N:=N) hc
  have hnode:∀ i,i < (nodeCounts.getD (kd (cs.getD k [])).toNat 0).toNat → i < 4 → (elemIn (cs.getD k [])).node i = pn (cs.getD k []) i:=fun i h1 h2=>node_is gc h1 h2
  have e_b:branchAt N cs k = (if 0 < cc (cs.getD k []) then [(pn (cs.getD k []) 0,pn (cs.getD k []) 1,cur N cs k)] else []) ++ (if kd (cs.getD k []) = 10 then [(pn (cs.getD k []) 2,pn (cs.getD k []) 3,cur N cs k + 1)] else []):=rfl
  rw [e_b]
  generalize hcc:cs.getD k [] = c at *
  generalize hn:Net.mk N (cs.map elemIn) = n at *
  have curY:up y (cur N cs k) = y (n.at_ k):=by unfold up;rw [hcr,if_neg (by omega)];rfl
  have curY1:up y (cur N cs k + 1) = y (n.at_ k + 1):=by unfold up;rw [hcr,if_neg (by omega)];rfl
  have ev1:∀ (j i:Nat) (s:Rat),evalT (if (elemIn c).node j = v then [(i,s)] else []) y = if v = (elemIn c).node j then s * y i else 0:=fun j i s=>by
    by_cases h:(elemIn c).node j = v
    · rw [if_pos h,if_pos h.symm];show s * y i + 0 = s * y i;grind
    · rw [if_neg h,if_neg (fun z=>h z.symm)];rfl
  have lt1:∀ (j i:Nat) (s:Rat) (t:Nat × Rat),t ∈ (if (elemIn c).node j = v then [(i,s)] else []) → i < n.unknowns → t.1 < n.unknowns:=fun j i s t ht hi=>by
    split at ht
    · rw [List.mem_singleton.mp ht];exact hi
    · cases ht
  by_cases h3:kd c = 3
  · have hK:(elemIn c).kind = .M:=(kind_M gc).mpr h3
    have e0:n.outOf v k (elemIn c) = []:=by unfold Net.outOf;rw [if_pos hK]
    rw [e0]
    have:¬ 0 < cc c:=by rw [hck,if_pos h3];decide
    rw [if_neg this,if_neg (by rw [h3];decide)]
    exact ⟨rfl,by simp⟩
  · have hnM:(elemIn c).kind ≠ .M:=fun z=>h3 ((kind_M gc).mp z)
    have hnc:2 ≤ (nodeCounts.getD (kd c).toNat 0).toNat:=by
      obtain ⟨k0,a0,b0,d0,e0,t0,q0,F⟩:=gc.facts
      have hkd:kd c = k0:=by rw [F.eq];rfl
      rw [hkd] at h3 ⊢
      exact kinds_cases (P:=fun k0=>k0 ≠ 3 → 2 ≤ (nodeCounts.getD k0.toNat 0).toNat) F.k0 F.k1 (by decide) (by decide) (by decide) (by decide) (by decide) (by decide) (by decide) (by decide) (by decide) (by decide) (by decide) (by decide) (by decide) (by decide) h3
    have n0:=hnode 0 (by omega) (by decide)
    have n1:=hnode 1 (by omega) (by decide)
    by_cases h10:kd c = 10
    · have hK:(elemIn c).kind = .T:=kind_is gc 10 (by decide) h10
      have hcc2:cc c = 2:=by rw [hck,if_neg h3,if_pos h10]
      have n2:=hnode 2 (by rw [h10];decide) (by decide)
      have n3:=hnode 3 (by rw [h10];decide) (by decide)
      have e0:n.outOf v k (elemIn c) = (if (elemIn c).node 0 = v then [(n.at_ k,1)] else []) ++ ((if (elemIn c).node 1 = v then [(n.at_ k, -1)] else []) ++ ((if (elemIn c).node 2 = v then [(n.at_ k + 1,1)] else []) ++ (if (elemIn c).node 3 = v then [(n.at_ k + 1, -1)] else []))):=by
        unfold Net.outOf
        rw [if_neg hnM,if_pos hK]
      rw [e0,if_pos (show 0 < cc c by omega),if_pos h10]
      refine ⟨?_,fun t ht => ?_⟩
      · rw [evalT_append,evalT_append,evalT_append,ev1,ev1,ev1,ev1,n0,n1,n2,n3]
        show _ = contrib v (up y) (pn c 0,pn c 1,cur N cs k) + (contrib v (up y) (pn c 2,pn c 3,cur N cs k + 1) + 0)
        unfold contrib
        show _ = ((if v = pn c 0 then up y (cur N cs k) else 0) - (if v = pn c 1 then up y (cur N cs k) else 0)) + (((if v = pn c 2 then up y (cur N cs k + 1) else 0) - (if v = pn c 3 then up y (cur N cs k + 1) else 0)) + 0)
        rw [curY,curY1]
        split <;> split <;> split <;> split <;> grind
      · rcases List.mem_append.mp ht with e | e
        · exact lt1 _ _ _ t e (by omega)
        · rcases List.mem_append.mp e with e | e
          · exact lt1 _ _ _ t e (by omega)
          · rcases List.mem_append.mp e with e | e
            · exact lt1 _ _ _ t e (by omega)
            · exact lt1 _ _ _ t e (by omega)
    · have hnT:(elemIn c).kind ≠ .T:=fun z=>h10 ((kind_iff gc 10 (by decide)).mp z)
      have hcc1:cc c = 1:=by rw [hck,if_neg h3,if_neg h10]
      have e0:n.outOf v k (elemIn c) = (if (elemIn c).node 0 = v then [(n.at_ k,1)] else []) ++ (if (elemIn c).node 1 = v then [(n.at_ k, -1)] else []):=by
        unfold Net.outOf
        rw [if_neg hnM,if_neg hnT]
      rw [e0,if_pos (show 0 < cc c by omega),if_neg h10]
      refine ⟨?_,fun t ht => ?_⟩
      · rw [evalT_append,ev1,ev1,n0,n1]
        show _ = contrib v (up y) (pn c 0,pn c 1,cur N cs k) + 0
        unfold contrib
        show _ = ((if v = pn c 0 then up y (cur N cs k) else 0) - (if v = pn c 1 then up y (cur N cs k) else 0)) + 0
        rw [curY]
        split <;> split <;> grind
      · rcases List.mem_append.mp ht with e | e
        · exact lt1 _ _ _ t e (by omega)
        · exact lt1 _ _ _ t e (by omega)
theorem node_eval {v:Nat} (hv:v ≤ N) (y:Nat → Rat):rdot ((nodeAll N cs).getD v []) (up y) = evalT ((Net.mk N (cs.map elemIn)).indexed.flatMap fun (p:Nat × Elem)=>(Net.mk N (cs.map elemIn)).outOf v p.1 p.2) y:=by
  rw [indexed_is,List.flatMap_map]
  rw [evalT_flat (v:=v) (Y:=up y) (h:=branchAt N cs) cs.length fun k hk=>(out_is R hk y).1]
  unfold nodeAll
  rw [fold_eval (w:=one N cs + 1) (up y) (branches N cs) _ (fun r hr=>by rw [List.eq_of_mem_replicate hr,len_zero]) (fun b hb=>by
    have:=branch_ok R b hb
    rw [List.length_replicate]
    omega)]
  have e:(List.replicate (N + 1) (zero (one N cs))).getD v [] = zero (one N cs):=by
    rw [List.getD_eq_getElem?_getD,List.getElem?_replicate,if_pos (by omega)];rfl
  rw [e,rdot_zero]
  unfold branches
  grind
theorem node_terms (v:Nat):∀ t ∈ (Net.mk N (cs.map elemIn)).indexed.flatMap fun (p:Nat × Elem)=>(Net.mk N (cs.map elemIn)).outOf v p.1 p.2,t.1 < (Net.mk N (cs.map elemIn)).unknowns:=fun t ht=>by
  rw [indexed_is,List.flatMap_map] at ht
  obtain ⟨k,hk,hm⟩:=List.mem_flatMap.mp ht
  exact (out_is R (v:=v) (List.mem_range.mp hk) (fun _=>0)).2 t hm
theorem nodeForms_is:nodeForms N cs = (List.range N).map fun v=>(nodeAll N cs).getD (v + 1) []:=by
  unfold nodeForms
  apply List.ext_getElem?
  intro i
  rw [List.getElem?_drop,List.getElem?_map]
  have hl:=nodeAll_len N cs
  by_cases h:i < N
  · rw [List.getElem?_range h,List.getElem?_eq_getElem (show 1 + i < (nodeAll N cs).length by omega)]
    show _ = some ((nodeAll N cs).getD (i + 1) [])
    rw [List.getD_eq_getElem?_getD,List.getElem?_eq_getElem (show i + 1 < (nodeAll N cs).length by omega)]
    simp [Nat.add_comm]
  · rw [List.getElem?_eq_none (by omega),List.getElem?_eq_none (by rw [List.length_range];omega)]
    rfl
def nodeLaw (n:Net) (v:Nat):Law:=⟨n.indexed.flatMap fun (p:Nat × Elem)=>n.outOf (v + 1) p.1 p.2,[],0⟩
theorem node_like {v:Nat} (hv:v < N):Like (Net.mk N (cs.map elemIn)).unknowns (((nodeAll N cs).getD (v + 1) []).drop 1) ((nodeLaw (Net.mk N (cs.map elemIn)) v).row (Net.mk N (cs.map elemIn)).unknowns 0):=by
  have hone:=one_unk (N:=N) R.good
  have hl:=Jw.wid_nodes R ((nodeAll N cs).getD (v + 1) []) (mem_getD.mpr ⟨_,by rw [nodeAll_len];omega,rfl⟩)
  refine ⟨by rw [List.length_drop,hl];omega,row_len _ _ _,1,by decide,fun y => ?_⟩
  rw [rdot_drop (by omega),node_eval R (by omega),dot_row _ _ _ (node_terms R (v + 1))]
  show _ = 1 * (_ - 0 * y _)
  unfold nodeLaw
  grind
theorem alike_all {sts:List Int} (hl:sts.length = cs.length) {g:Setting} (hon:∀ k,k < cs.length → g.on k = decide (sts.getD k 0 = 1)) (hv:∀ k,k < cs.length → g.value k = (elemIn (cs.getD k [])).q) (hd:∀ k,k < cs.length → g.drop k = (elemIn (cs.getD k [])).q) :
    Alike (Net.mk N (cs.map elemIn)).unknowns ((lawForms N cs sts).map fun f=>f.drop 1) ((Net.mk N (cs.map elemIn)).rows g 0):=by
  unfold lawForms Net.rows Net.laws
  rw [List.map_append,List.map_append]
  refine Alike.append ?_ ?_
  · rw [nodeForms_is R,List.map_map,List.map_map]
    exact alike_range N fun v hv=>node_like R hv
  · rw [indexed_is,List.flatMap_map]
    unfold allLaws
    rw [hl]
    exact alike_laws (paired_flat cs.length fun k hk=>elt_laws R hk (hon k hk) (hv k hk) (hd k hk))
end
end Fs

namespace Fs
open Wh WhA Lin NetL Jm Red RedL Fm
theorem rdot_eq (f:List Int) (x y:Nat → Rat) (h:∀ j,j < f.length → x j = y j):rdot f x = rdot f y:=by
  rw [rdot_dot,rdot_dot]
  exact dot_eq _ _ _ fun j hj=>h j (by rw [rats_len] at hj;exact hj)
theorem rdot_scale (q:Rat):∀ (f:List Int) (y:Nat → Rat),rdot f (fun j=>q * y j) = q * rdot f y
  | [],_=>by show (0:Rat) = q * 0;grind
  | a :: f,y=>by
    show (a:Rat) * (q * y 0) + rdot f (fun j=>q * y (j + 1)) = q * ((a:Rat) * y 0 + rdot f (fun j=>y (j + 1)))
    rw [rdot_scale q f (fun j=>y (j + 1))];grind
theorem dotI_rdot:∀ (f g:List Int),f.length = g.length → ((dotI f g:Int):Rat) = rdot f (fun j=>((g.getD j 0:Int):Rat))
  | [],[],_=>rfl
  | [],_ :: _,h=>by simp at h
  | _ :: _,[],h=>by simp at h
  | a :: f,b :: g,h=>by
    have ih:=dotI_rdot f g (by simpa using h)
    show ((a * b + dotI f g:Int):Rat) = (a:Rat) * (b:Rat) + rdot f (fun j=>((g.getD j 0:Int):Rat))
    rw [← ih,Rat.intCast_add,Rat.intCast_mul]
def full (u:Nat) (x:List Rat):Nat → Rat:=up (ext u (fun i=>x.getD i 0) 1)
structure SolR (u:Nat) (s:SolD) (x:List Rat):Prop where
  len:x.length = u
  b1:1 ≤ s.bot
  tl:s.tops.length = u + 2
  ev:∀ f:List Int,f.length = u + 2 → ((dotI f s.tops:Int):Rat) = (s.bot:Rat) * rdot f (full u x)
theorem sol_rel {u:Nat} {forms:List (List Int)} {l:List Row} (hu:1 ≤ u) (hl:forms.length = u) (al:Alike u (forms.map fun f=>f.drop 1) l) :
    match solOf forms (u + 1) with
    | none=>solve u l = none
    | some s => ∃ x,solve u l = some x ∧ SolR u s x:=by
  have hwid:=al.wid
  obtain ⟨cs,rs, π,I⟩:=inv_upto (m:=u) (w:=u + 1) (by rw [List.length_map,hl]) hwid u (by omega)
  have e:redL forms (u + 1) = upto (forms.map fun f=>f.drop 1) u:=rfl
  unfold solOf
  rw [e]
  have hus:u + 1 - 1 = u:=by omega
  rw [hus]
  have hrm:=I.rm
  by_cases hr:(upto (forms.map fun f=>f.drop 1) u).rank < u
  · rw [if_pos hr]
    exact solve_no al I hr
  · rw [if_neg hr]
    have hrk:(upto (forms.map fun f=>f.drop 1) u).rank = u:=by omega
    have hs:=solve_yes al I rfl (by rw [List.length_map,hl]) hrk
    generalize upto (forms.map fun f=>f.drop 1) u = st at *
    refine ⟨_,hs,by simp, ?_, ?_, ?_⟩
    · have:=I.d0
      show (1:Int) ≤ (st.div.natAbs:Int)
      omega
    · show ([0] ++ st.rows.map (fun r=>(if 0 < st.div then -1 else 1) * lastI r) ++ [(st.div.natAbs:Int)]).length = _
      rw [List.length_append,List.length_append,List.length_map,I.len]
      show 1 + u + 1 = _
      omega
    · intro f hf
      have htl:([0] ++ st.rows.map (fun r=>(if 0 < st.div then -1 else 1) * lastI r) ++ [(st.div.natAbs:Int)]).length = u + 2:=by
        rw [List.length_append,List.length_append,List.length_map,I.len]
        show 1 + u + 1 = _
        omega
      show ((dotI f ([0] ++ st.rows.map (fun r=>(if 0 < st.div then -1 else 1) * lastI r) ++ [(st.div.natAbs:Int)]):Int):Rat) = ((st.div.natAbs:Int):Rat) * _
      rw [dotI_rdot _ _ (by rw [htl,hf]), ← rdot_scale]
      refine rdot_eq _ _ _ fun j hj => ?_
      rw [hf] at hj
      have hdq:((st.div:Int):Rat) ≠ 0:=fun z=>I.d0 (by exact_mod_cast z)
      by_cases h0:j = 0
      · subst h0
        show ((0:Int):Rat) = _ * 0
        grind
      · by_cases h1:j = u + 1
        · subst h1
          have e1:([0] ++ st.rows.map (fun r=>(if 0 < st.div then -1 else 1) * lastI r) ++ [(st.div.natAbs:Int)]).getD (u + 1) 0 = (st.div.natAbs:Int):=by
            rw [List.getD_eq_getElem?_getD,List.getElem?_append_right (by rw [List.length_append,List.length_map,I.len];show 1 + u ≤ u + 1;omega)]
            rw [List.length_append,List.length_map,I.len]
            show ([(st.div.natAbs:Int)][u + 1 - (1 + u)]?).getD 0 = _
            rw [show u + 1 - (1 + u) = 0 by omega]
            rfl
          rw [e1]
          have e2:full u ((List.range u).map fun i => - ((ent st.rows i u:Int):Rat) / (st.div:Rat)) (u + 1) = 1:=by
            unfold full up ext
            rw [if_neg (by omega),if_pos (by omega)]
          rw [e2]
          grind
        · have hj1:j - 1 < u:=by omega
          have hw:=I.wid (j - 1) hj1
          have e1:([0] ++ st.rows.map (fun r=>(if 0 < st.div then -1 else 1) * lastI r) ++ [(st.div.natAbs:Int)]).getD j 0 = (if 0 < st.div then -1 else 1) * ent st.rows (j - 1) u:=by
            rw [List.getD_eq_getElem?_getD,List.getElem?_append_left (by rw [List.length_append,List.length_map,I.len];show j < 1 + u;omega),List.getElem?_append_right (by show 1 ≤ j;omega)]
            show ((st.rows.map (fun r=>(if 0 < st.div then -1 else 1) * lastI r))[j - 1]?).getD 0 = _
            rw [List.getElem?_map]
            have hl1:j - 1 < st.rows.length:=by rw [I.len];exact hj1
            have hg:st.rows[j - 1]? = some (st.rows.getD (j - 1) []):=by rw [List.getD_eq_getElem?_getD,List.getElem?_eq_getElem hl1];rfl
            rw [hg]
            show (if 0 < st.div then -1 else 1) * lastI (st.rows.getD (j - 1) []) = _
            unfold lastI ent
            rw [hw]
            rfl
          rw [e1]
          have e2:full u ((List.range u).map fun i => - ((ent st.rows i u:Int):Rat) / (st.div:Rat)) j = - ((ent st.rows (j - 1) u:Int):Rat) / (st.div:Rat):=by
            unfold full up ext
            rw [if_neg h0,if_neg (by omega)]
            simp [hj1]
          rw [e2,Rat.intCast_mul]
          by_cases hp:0 < st.div
          · rw [if_pos hp]
            have e3:(st.div.natAbs:Int) = st.div:=by omega
            rw [e3]
            have e4:(((-1:Int)):Rat) = -1:=rfl
            rw [e4]
            grind
          · rw [if_neg hp]
            have e3:(st.div.natAbs:Int) = -st.div:=by omega
            rw [e3,Rat.intCast_neg]
            have e4:(((1:Int)):Rat) = 1:=rfl
            rw [e4]
            grind
def sfx:List (List Int) → List (List Int)
  | [] => [[]]
  | c :: cs=>(choices c).flatMap fun s=>(sfx cs).map fun r=>s :: r
theorem longer_sfx:∀ (cs rows:List (List Int)),cs.foldl longer rows = rows.flatMap fun r=>(sfx cs).map fun t=>r ++ t
  | [],rows=>by
    show rows = rows.flatMap fun r=>[r ++ []]
    simp
  | c :: cs,rows=>by
    rw [List.foldl_cons,longer_sfx cs (longer rows c)]
    unfold longer
    rw [List.flatMap_assoc]
    congr 1
    funext r
    show ((choices c).map fun s=>r ++ [s]).flatMap _ = ((choices c).flatMap fun s=>(sfx cs).map fun r=>s :: r).map _
    rw [List.flatMap_map,List.map_flatMap]
    congr 1
    funext s
    rw [List.map_map]
    congr 1
    funext t
    show r ++ [s] ++ t = r ++ (s :: t)
    simp
theorem states_sfx (cs:List (List Int)):stateRows cs = sfx cs:=by
  unfold stateRows
  rw [longer_sfx]
  simp
def dix:Nat → List (List Int) → List Nat
  | _,[] => []
  | k,c :: cs=>if kd c = 13 then k :: dix (k + 1) cs else dix (k + 1) cs
def tos (k n:Nat) (r:States):List Int:=(List.range' k n).map fun j=>if r.contains j = true then 1 else 0
theorem rowsOf_mem:∀ (d:List Nat) (r:States),r ∈ rowsOf d → ∀ x ∈ r,x ∈ d
  | [],r,h,x,hx=>by
    have:r = []:=by simpa [rowsOf] using h
    rw [this] at hx;cases hx
  | a :: d,r,h,x,hx=>by
    rcases List.mem_append.mp h with e | e
    · exact List.mem_cons_of_mem _ (rowsOf_mem d r e x hx)
    · obtain ⟨r',h',rfl⟩:=List.mem_map.mp e
      rcases List.mem_cons.mp hx with q | q
      · rw [q];exact List.mem_cons_self
      · exact List.mem_cons_of_mem _ (rowsOf_mem d r' h' x q)
theorem dix_ge:∀ (cs:List (List Int)) (k:Nat), ∀ x ∈ dix k cs,k ≤ x
  | [],_,x,hx=>by cases hx
  | c :: cs,k,x,hx=>by
    unfold dix at hx
    split at hx
    · rcases List.mem_cons.mp hx with e | e
      · omega
      · have:=dix_ge cs (k + 1) x e;omega
    · have:=dix_ge cs (k + 1) x hx;omega
theorem sfx_rows:∀ (cs:List (List Int)) (k:Nat),sfx cs = (rowsOf (dix k cs)).map (tos k cs.length)
  | [],k=>rfl
  | c :: cs,k=>by
    have ih:=sfx_rows cs (k + 1)
    have h0:∀ r ∈ rowsOf (dix (k + 1) cs),tos k (cs.length + 1) r = 0 :: tos (k + 1) cs.length r:=fun r hr=>by
      unfold tos
      rw [List.range'_succ,List.map_cons]
      have:¬ r.contains k = true:=fun z=>by
        have hk:=rowsOf_mem _ r hr k (List.contains_iff_mem.mp z)
        have:=dix_ge cs (k + 1) k hk
        omega
      rw [if_neg this]
    have h1:∀ r ∈ rowsOf (dix (k + 1) cs),tos k (cs.length + 1) (k :: r) = 1 :: tos (k + 1) cs.length r:=fun r hr=>by
      unfold tos
      rw [List.range'_succ,List.map_cons]
      have:(k :: r).contains k = true:=by simp
      rw [if_pos this]
      congr 1
      refine List.map_congr_left fun j hj => ?_
      rw [List.mem_range'_1] at hj
      have:(k :: r).contains j = r.contains j:=by
        rw [List.contains_cons]
        have:(j == k) = false:=by simp;omega
        rw [this,Bool.false_or]
      rw [this]
    show (choices c).flatMap (fun s=>(sfx cs).map fun r=>s :: r) = (rowsOf (dix k (c :: cs))).map (tos k (cs.length + 1))
    unfold choices dix
    split
    · show ((sfx cs).map fun r=>(0:Int) :: r) ++ (((sfx cs).map fun r=>(1:Int) :: r) ++ []) = (rowsOf (dix (k + 1) cs) ++ (rowsOf (dix (k + 1) cs)).map fun s=>k :: s).map (tos k (cs.length + 1))
      rw [List.append_nil,List.map_append,List.map_map,ih,List.map_map,List.map_map]
      congr 1
      · exact List.map_congr_left fun r hr=>(h0 r hr).symm
      · exact List.map_congr_left fun r hr=>(h1 r hr).symm
    · show ((sfx cs).map fun r=>(0:Int) :: r) ++ [] = _
      rw [List.append_nil,ih,List.map_map]
      exact List.map_congr_left fun r hr=>(h0 r hr).symm
theorem dix_filter:∀ (cs:List (List Int)) (k:Nat),dix k cs = (List.range' k cs.length).filter fun j=>decide (kd (cs.getD (j - k) []) = 13)
  | [],k=>rfl
  | c :: cs,k=>by
    unfold dix
    rw [List.length_cons,List.range'_succ,List.filter_cons,dix_filter cs (k + 1)]
    have e0:(c :: cs).getD (k - k) [] = c:=by rw [Nat.sub_self];rfl
    rw [e0]
    have e1:((List.range' (k + 1) cs.length).filter fun j=>decide (kd (cs.getD (j - (k + 1)) []) = 13)) = (List.range' (k + 1) cs.length).filter fun j=>decide (kd ((c :: cs).getD (j - k) []) = 13):=by
      refine List.filter_congr fun j hj => ?_
      rw [List.mem_range'_1] at hj
      rw [show j - k = (j - (k + 1)) + 1 by omega]
      rfl
    rw [e1]
    by_cases h:kd c = 13
    · rw [if_pos h,if_pos (decide_eq_true h)]
    · rw [if_neg h,if_neg (by simp [h])]
theorem dix_is (cs:List (List Int)):dix 0 cs = diodeIx cs:=by
  rw [dix_filter]
  unfold diodeIx
  rw [List.range_eq_range']
  rfl
theorem states_is (cs:List (List Int)):stateRows cs = (rowsOf (diodeIx cs)).map (tos 0 cs.length):=by rw [states_sfx,sfx_rows cs 0,dix_is]
theorem diodes_is {N:Nat} {cs:List (List Int)} (hg:∀ c ∈ cs,Good c):(Net.mk N (cs.map elemIn)).diodes = diodeIx cs:=by
  unfold Net.diodes Net.ofKind
  rw [indexed_is,List.filter_map,List.map_map]
  unfold diodeIx
  have e:(List.range cs.length).filter ((fun (p:Nat × Elem)=>decide (p.2.kind = .D)) ∘ fun k=>(k,elemIn (cs.getD k []))) = (List.range cs.length).filter fun k=>decide (kd (cs.getD k []) = 13):=by
    refine List.filter_congr fun k hk => ?_
    have hk':=List.mem_range.mp hk
    have hc:cs[k]? = some (cs.getD k []):=by rw [List.getD_eq_getElem?_getD,List.getElem?_eq_getElem hk'];rfl
    exact decide_eq_decide.mpr (kind_D (hg _ (List.mem_of_getElem? hc)))
  rw [e]
  exact List.map_id _
theorem tos_get {n k:Nat} (h:k < n) (r:States):(tos 0 n r).getD k 0 = if r.contains k = true then 1 else 0:=by
  unfold tos
  rw [List.getD_eq_getElem?_getD,List.getElem?_map,List.getElem?_range' h]
  simp
theorem nn_scale {b x:Rat} (hb:0 < b):0 ≤ b * x ↔ 0 ≤ x:=by
  have e:x = (b * x) / b:=by grind
  have h:∀ z:Rat,0 ≤ z / b ↔ 0 ≤ z:=fun z=>by rw [← Rat.not_lt,Rat.div_lt_iff hb,Rat.zero_mul,Rat.not_lt]
  have:=h (b * x)
  rw [← e] at this
  exact this.symm
theorem le_scale {b q v t:Rat} (hb:0 < b) (hq:0 < q):b * v * q ≤ t * b ↔ v ≤ t / q:=by
  rw [← Rat.not_lt, ← Rat.not_lt,Rat.div_lt_iff hq]
  have e:v * q = (b * v * q) / b:=by grind
  have h:t < (b * v * q) / b ↔ t * b < b * v * q:=Rat.lt_div_iff hb
  rw [← e] at h
  rw [h]
section
variable {N:Nat} {cs:List (List Int)} (R:Right N cs)
include R
theorem unk_facts:1 ≤ (Net.mk N (cs.map elemIn)).unknowns ∧ N ≤ (Net.mk N (cs.map elemIn)).unknowns ∧ one N cs = (Net.mk N (cs.map elemIn)).unknowns + 1:=by
  have hone:=one_unk (N:=N) R.good
  have h1:=R.n1
  unfold one at hone ⊢
  omega
theorem full_node {x:List Rat} {a:Nat} (ha:a ≤ N):full (Net.mk N (cs.map elemIn)).unknowns x a = voltage x a:=by
  have:=unk_facts R
  unfold full up voltage ext
  by_cases h:a = 0
  · rw [if_pos h,if_pos h]
  · rw [if_neg h,if_neg h,if_neg (by omega)]
theorem full_cur {x:List Rat} {k:Nat} (hk:k < cs.length) (h3:kd (cs.getD k []) ≠ 3):full (Net.mk N (cs.map elemIn)).unknowns x (cur N cs k) = x.getD ((Net.mk N (cs.map elemIn)).at_ k) 0:=by
  have hf:=unk_facts R
  have hc:cs[k]? = some (cs.getD k []):=by rw [List.getD_eq_getElem?_getD,List.getElem?_eq_getElem hk];rfl
  have hcl:=cur_lt (N:=N) hc
  have hck:=Jw.cc_kind (R.good _ (List.mem_of_getElem? hc))
  rw [if_neg h3] at hck
  have h1:1 ≤ cc (cs.getD k []):=by rw [hck];split <;> decide
  have hcr:=at_cur (N:=N) R.good k
  unfold full up ext
  rw [hcr,if_neg (by omega),if_neg (by omega)]
  rfl
theorem cur_val {s:SolD} {x:List Rat} (hs:SolR (Net.mk N (cs.map elemIn)).unknowns s x) {k:Nat} (hk:k < cs.length) (h3:kd (cs.getD k []) ≠ 3):((dotI (single (one N cs) (cur N cs k)) s.tops:Int):Rat) = (s.bot:Rat) * x.getD ((Net.mk N (cs.map elemIn)).at_ k) 0:=by
  have hf:=unk_facts R
  rw [hs.ev _ (by rw [len_single];omega),rdot_single (cur_le _ _ _),full_cur R hk h3]
theorem volt_val {s:SolD} {x:List Rat} (hs:SolR (Net.mk N (cs.map elemIn)).unknowns s x) {a b:Nat} (ha:a ≤ N) (hb:b ≤ N):((dotI (between (one N cs) a b) s.tops:Int):Rat) = (s.bot:Rat) * (voltage x a - voltage x b):=by
  have hf:=unk_facts R
  rw [hs.ev _ (by rw [len_between];omega),rdot_between (by omega) (by omega),full_node R ha,full_node R hb]
theorem elem_at {k:Nat} (hk:k < cs.length):(Net.mk N (cs.map elemIn)).elems[k]? = some (elemIn (cs.getD k [])):=by
  show (cs.map elemIn)[k]? = _
  rw [List.getElem?_map,List.getD_eq_getElem?_getD,List.getElem?_eq_getElem hk]
  rfl
theorem num_at {k:Nat} (hk:k < cs.length):(Net.mk N (cs.map elemIn)).numAt k = (elemIn (cs.getD k [])).q:=by
  unfold Net.numAt
  rw [elem_at R hk]
  rfl
theorem good_at {k:Nat} (hk:k < cs.length):Good (cs.getD k []) ∧ cs.getD k [] ∈ cs:=by
  have hc:cs[k]? = some (cs.getD k []):=by rw [List.getD_eq_getElem?_getD,List.getElem?_eq_getElem hk];rfl
  exact ⟨R.good _ (List.mem_of_getElem? hc),List.mem_of_getElem? hc⟩
theorem conds_fit {s:SolD} {x:List Rat} (hs:SolR (Net.mk N (cs.map elemIn)).unknowns s x) (r:States):condsH N cs (tos 0 cs.length r) s = (Net.mk N (cs.map elemIn)).fits r x:=by
  unfold condsH Net.fits
  rw [diodes_is R.good]
  have key:∀ k ∈ diodeIx cs,condH N cs k ((tos 0 cs.length r).getD k 0) s = (if r.contains k = true then decide (0 ≤ ((Net.mk N (cs.map elemIn)).quantity 1 k x).getD 0) else decide (((Net.mk N (cs.map elemIn)).quantity 2 k x).getD 0 ≤ (Net.mk N (cs.map elemIn)).numAt k)):=by
    intro k hkm
    obtain ⟨h1,h2⟩:=List.mem_filter.mp hkm
    have hk:=List.mem_range.mp h1
    have h13:kd (cs.getD k []) = 13:=of_decide_eq_true h2
    obtain ⟨gc,hmem⟩:=good_at R hk
    have h3:kd (cs.getD k []) ≠ 3:=by rw [h13];decide
    have hnM:(elemIn (cs.getD k [])).kind ≠ .M:=fun z=>h3 ((kind_M gc).mp z)
    have q1:(Net.mk N (cs.map elemIn)).quantity 1 k x = some (x.getD ((Net.mk N (cs.map elemIn)).at_ k) 0):=by
      unfold Net.quantity
      rw [if_neg (by decide),elem_at R hk]
      show (if (elemIn (cs.getD k [])).kind = .M then none else if 1 = 1 then some _ else _) = _
      rw [if_neg hnM,if_pos rfl]
    have q2:(Net.mk N (cs.map elemIn)).quantity 2 k x = some (voltage x ((elemIn (cs.getD k [])).node 0) - voltage x ((elemIn (cs.getD k [])).node 1)):=by
      unfold Net.quantity
      rw [if_neg (by decide),elem_at R hk]
      show (if (elemIn (cs.getD k [])).kind = .M then none else if 2 = 1 then _ else if 2 = 2 then some _ else _) = _
      rw [if_neg hnM,if_neg (by decide),if_pos rfl]
    have hn0:0 < (nodeCounts.getD (kd (cs.getD k [])).toNat 0).toNat:=by rw [h13];decide
    have hn1:1 < (nodeCounts.getD (kd (cs.getD k [])).toNat 0).toNat:=by rw [h13];decide
    rw [q1,q2,num_at R hk,elem_q' gc,node_is gc hn0 (by decide),node_is gc hn1 (by decide),tos_get hk]
    have hb:(0:Rat) < (s.bot:Rat):=castPos hs.b1
    have hbt:(0:Rat) < (bt (cs.getD k []):Rat):=castPos (bt_pos gc)
    unfold condH
    by_cases hr:r.contains k = true
    · rw [if_pos hr,if_pos rfl,if_pos hr]
      refine decide_eq_decide.mpr ?_
      have hv:=cur_val R hs hk h3
      show _ ↔ (0:Rat) ≤ x.getD ((Net.mk N (cs.map elemIn)).at_ k) 0
      rw [← Rat.intCast_nonneg,hv]
      exact nn_scale hb
    · rw [if_neg hr,if_neg (by decide),if_neg hr]
      refine decide_eq_decide.mpr ?_
      have hv:=volt_val R hs (pn_le R hmem hn0 (by decide)) (pn_le R hmem hn1 (by decide))
      show _ ↔ voltage x (pn (cs.getD k []) 0) - voltage x (pn (cs.getD k []) 1) ≤ (tp (cs.getD k []):Rat) / (bt (cs.getD k []):Rat)
      rw [← Rat.intCast_le_intCast,Rat.intCast_mul,Rat.intCast_mul,hv]
      generalize voltage x (pn (cs.getD k []) 0) - voltage x (pn (cs.getD k []) 1) = v
      generalize (s.bot:Rat) = b at *
      generalize (bt (cs.getD k []):Rat) = q at *
      generalize (tp (cs.getD k []):Rat) = t at *
      exact le_scale hb hbt
  rw [Bool.eq_iff_iff,List.all_eq_true,List.all_eq_true]
  exact ⟨fun h k hk=>by rw [← key k hk];exact h k hk,fun h k hk=>by rw [key k hk];exact h k hk⟩
end
section
variable {N:Nat} {cs:List (List Int)} (R:Right N cs)
include R
theorem tos_len (r:States):(tos 0 cs.length r).length = cs.length:=by simp [tos]
theorem alike_rest (r:States):Alike (Net.mk N (cs.map elemIn)).unknowns ((lawForms N cs (tos 0 cs.length r)).map fun f=>f.drop 1) ((Net.mk N (cs.map elemIn)).rows ((Net.mk N (cs.map elemIn)).rest r) 0):=by
  refine alike_all R (tos_len R r) (fun k hk => ?_) (fun k hk=>num_at R hk) (fun k hk=>num_at R hk)
  rw [tos_get hk]
  show r.contains k = _
  cases r.contains k <;> rfl
theorem law_count (r:States):(lawForms N cs (tos 0 cs.length r)).length = (Net.mk N (cs.map elemIn)).unknowns:=by
  have h:=(Jw.law_small R (tos_len R r)).1
  have hf:=unk_facts R
  omega
def PtR (u n:Nat):Option (List Int × SolD) → Option (States × List Rat) → Prop
  | none,none=>True
  | some p,some q=>p.1 = tos 0 n q.1 ∧ SolR u p.2 q.2
  | _,_=>False
theorem try_rel (r:States):PtR (Net.mk N (cs.map elemIn)).unknowns cs.length (tryRow N cs (tos 0 cs.length r)) (match (Net.mk N (cs.map elemIn)).solved ((Net.mk N (cs.map elemIn)).rest r) 0 with
    | none=>none
    | some x=>if (Net.mk N (cs.map elemIn)).fits r x = true then some (r,x) else none):=by
  have hf:=unk_facts R
  have h:=sol_rel hf.1 (law_count R r) (alike_rest R r)
  unfold tryRow Net.solved
  rw [hf.2.2]
  cases hs:solOf (lawForms N cs (tos 0 cs.length r)) ((Net.mk N (cs.map elemIn)).unknowns + 1) with
  | none =>
    rw [hs] at h
    have h:solve _ _ = none:=h
    rw [h]
    trivial
  | some s =>
    rw [hs] at h
    obtain ⟨x,hx,hr⟩:=h
    rw [hx]
    dsimp only
    rw [conds_fit R hr r]
    split
    · exact ⟨rfl,hr⟩
    · trivial
theorem find_rel {u n:Nat} {f:List Int → Option (List Int × SolD)} {h:States → Option (States × List Rat)} : ∀ (l:List States),(∀ r ∈ l,PtR u n (f (tos 0 n r)) (h r)) → PtR u n ((l.map (tos 0 n)).findSome? f) (l.findSome? h)
  | [],_=>trivial
  | r :: l,e=>by
    have h0:=e r List.mem_cons_self
    rw [List.map_cons,List.findSome?_cons,List.findSome?_cons]
    cases h1:f (tos 0 n r) with
    | none =>
      cases h2:h r with
      | none=>exact find_rel l fun r' hr'=>e r' (List.mem_cons_of_mem _ hr')
      | some q=>rw [h1,h2] at h0;exact False.elim h0
    | some p =>
      cases h2:h r with
      | none=>rw [h1,h2] at h0;exact False.elim h0
      | some q=>rw [h1,h2] at h0;exact h0
theorem point_rel:PtR (Net.mk N (cs.map elemIn)).unknowns cs.length (opPoint N cs) (Net.mk N (cs.map elemIn)).point:=by
  unfold opPoint Net.point
  rw [states_is,diodes_is R.good]
  exact find_rel R _ fun r _=>try_rel R r
end
theorem net_is (ns:List Int):netIn ns = Net.mk (ns.headD 0).toNat ((parts ns).map elemIn):=rfl
end Fs

namespace Fs
open Wh WhA Lin NetL Jm Red RedL Fm
end Fs

set_option Elab.async false
set_option linter.all false
set_option maxRecDepth 100000
set_option maxHeartbeats 2000000
namespace Fm
open Jm
def lowest (t b:Int):List Int:=[t.fdiv (Int.gcd t b:Nat),b.fdiv (Int.gcd t b:Nat)]
theorem gcd_step {a b:Int} (hb:0 < b):Int.gcd b (a.fmod b) = Int.gcd a b:=by
  rw [Int.fmod_eq_emod_of_nonneg a (by omega)]
  rw [Int.gcd_comm a b]
  have h:=Int.gcd_add_mul_left_right b (a % b) (a / b)
  have e:a % b + b * (a / b) = a:=by have:=Int.mul_ediv_add_emod a b;omega
  rw [e] at h
  exact h.symm
theorem gcd_pos {t b:Int} (hb:0 < b):0 < Int.gcd t b:=Int.gcd_pos_iff.mpr (.inr (by omega))
theorem gcd_le {t b:Int} (hb:0 < b):(Int.gcd t b:Int) ≤ b:=Int.le_of_dvd hb (Int.gcd_dvd_right ..)
end Fm
namespace Jw
open PySem PySem.Spec PyProof.Rows L2 Lx
def spDivisor:Sp:=fun vs H Q _ => ∃ t b:Int,vs = [.int t, .int b] ∧ 0 < b ∧ ∀ H',Same H H' → Q (.int (Int.gcd t b:Nat)) H'
def spLowest:Sp:=fun vs H Q _ => ∃ t b:Int,vs = [.int t, .int b] ∧ 0 < b ∧ Big b ∧ Ret H Q (Fm.lowest t b)
def spAt (K:PySem.W.Frag) (f:Nat → Nat → List Int → List Int):Sp:=fun vs H Q _ => ∃ (a:Addr) (x y:Nat) (ns:List Int),vs = [.int (x:Nat), .int (y:Nat), .ref a] ∧ SqL K H a (ns.map V.int) ∧ ns.length ≤ 120 ∧ ∀ (H':Hp) (p:Addr),Same H H' → H' p = some (.lst ((f x y ns).map V.int)) → Q (.ref p) H'
end Jw

namespace Fs
open Wh WhA Lin NetL Jm Red RedL Fm
theorem frac_low {t b:Int} (hb:0 < b):fraction ((t:Rat) / (b:Rat)) = lowest t b:=by
  obtain ⟨d,rfl⟩ : ∃ d:Nat,b = d:=⟨b.toNat,by omega⟩
  have hd:d ≠ 0:=by omega
  have e:(t:Rat) / (((d:Nat):Int):Rat) = mkRat t d:=(Rat.mkRat_eq_div t d).symm
  have hg:Int.gcd t (d:Int) = d.gcd t.natAbs:=by
    show Nat.gcd t.natAbs ((d:Int)).natAbs = _
    rw [Int.natAbs_natCast,Nat.gcd_comm]
  have hgp:0 < d.gcd t.natAbs:=Nat.gcd_pos_of_pos_left _ (by omega)
  unfold fraction lowest
  rw [e,Rat.num_mkRat,Rat.den_mkRat,if_neg hd,if_neg hd,hg,Int.fdiv_eq_ediv_of_nonneg _ (by omega),Int.fdiv_eq_ediv_of_nonneg _ (by omega)]
  rfl
end Fs
namespace Jw
theorem point_size {N:Nat} {cs:List (List Int)} (R:Fm.Right N cs) {p:List Int × Fm.SolD} (h:Fm.opPoint N cs = some p):SolSize N cs p.2 21:=by
  obtain ⟨h1,h2,_⟩:=Fm.point_mem h
  exact sol_size R (sizes_laws R (states_len _ h1)) h2
end Jw

set_option Elab.async false
set_option linter.all false
set_option maxRecDepth 100000
set_option maxHeartbeats 2000000
namespace Fm
open Jm
def put (f:List Int) (v:Int):List Int:=f.dropLast ++ [v]
theorem len_put {f:List Int} {w:Nat} (h:f.length = w + 1) (v:Int):(put f v).length = w + 1:=by simp [put,h]
end Fm
namespace Jw
open PySem PySem.Spec PyProof.Rows L2 Lx
theorem put_get {f:List Int} {w:Nat} (hl:f.length = w + 1) (v:Int) (j:Nat):(Fm.put f v).getD j 0 = if j < w then f.getD j 0 else if j = w then v else 0:=by
  unfold Fm.put
  by_cases h:j < w
  · rw [if_pos h,List.getD_eq_getElem?_getD,List.getElem?_append_left (by rw [List.length_dropLast];omega),List.getElem?_dropLast,if_pos (by omega),List.getD_eq_getElem?_getD]
  · rw [if_neg h,List.getD_eq_getElem?_getD,List.getElem?_append_right (by rw [List.length_dropLast];omega),List.length_dropLast,hl]
    by_cases h2:j = w
    · rw [if_pos h2,h2,show w - (w + 1 - 1) = 0 by omega];rfl
    · rw [if_neg h2,List.getElem?_eq_none (by show 1 ≤ _;omega)];rfl
end Jw

namespace Fs
open Wh WhA Lin NetL Jm Red RedL Fm
theorem put_set {f:List Int} {w:Nat} (h:f.length = w + 1) (v:Int):put f v = f.set w v:=by
  apply List.ext_getElem?
  intro j
  unfold put
  rw [List.getElem?_set]
  by_cases e:j < w
  · rw [List.getElem?_append_left (by rw [List.length_dropLast];omega),List.getElem?_dropLast,if_pos (by omega),if_neg (by omega)]
  · rw [List.getElem?_append_right (by rw [List.length_dropLast];omega),List.length_dropLast,h]
    by_cases e2:w = j
    · rw [if_pos e2,if_pos (by omega),show j - (w + 1 - 1) = 0 by omega];rfl
    · rw [if_neg e2,List.getElem?_eq_none (by show 1 ≤ _;omega),List.getElem?_eq_none (by omega)]
theorem rdot_put {f:List Int} {w:Nat} (h:f.length = w + 1) (v:Int) (Y:Nat → Rat):rdot (put f v) Y = rdot f Y + ((v:Rat) - ((f.getD w 0:Int):Rat)) * Y w:=by
  rw [put_set h,rdot_set _ _ _ _ (by omega)]
def dl (u:Nat):Nat → Rat:=fun j=>if j = u then 1 else 0
theorem rdot_dl {f:List Int} {u:Nat} (h:f.length = u + 2):rdot f (up (dl u)) = ((f.getD (u + 1) 0:Int):Rat):=by
  rw [rdot_dot,dot_one _ _ (u + 1) (by rw [rats_len];omega) (fun j hj hne => ?_),rats_get]
  · have e:up (dl u) (u + 1) = 1:=by unfold up dl;rw [if_neg (by omega),if_pos (by omega)]
    rw [e];grind
  · have e:up (dl u) j = 0:=by
      unfold up dl
      split
      · rfl
      · rw [if_neg (by omega)]
    rw [e];grind
theorem evalT_dl {ts:List (Nat × Rat)} {u:Nat} (h:∀ t ∈ ts,t.1 < u):evalT ts (dl u) = 0:=by
  induction ts with
  | nil=>rfl
  | cons t ts ih =>
    rw [evalT_cons,ih fun t ht=>h t (List.mem_cons_of_mem _ ht)]
    have:dl u t.1 = 0:=by
      unfold dl
      have:=h t List.mem_cons_self
      rw [if_neg (by omega)]
    rw [this];grind
theorem LL.last {u:Nat} {d:LawD} {l:Law} (h:LL u d l):((d.form.getD (u + 1) 0:Int):Rat) = - (d.bot:Rat) * l.right:=by
  rw [← rdot_dl h.tiny.form.1,h.ev,evalT_dl h.lt]
  have:dl u u = 1:=by unfold dl;rw [if_pos rfl]
  rw [this];grind
theorem LL.put {u:Nat} {d:LawD} {l:Law} (h:LL u d l) (v:Int) (y:Nat → Rat):rdot (Fm.put d.form v) (up y) = (d.bot:Rat) * evalT l.terms y + (v:Rat) * y u:=by
  rw [rdot_put h.tiny.form.1,h.ev,h.last]
  have:up y (u + 1) = y u:=by unfold up;rw [if_neg (by omega)];rfl
  rw [this];grind
theorem LL.likeP {u:Nat} {d:LawD} {l:Law} (h:LL u d l) {v:Int} {q:Rat} (hv:(v:Rat) = - (d.bot:Rat) * q):Like u ((Fm.put d.form v).drop 1) ((l.row u 0).1,q):=by
  have hl:=Fm.len_put h.tiny.form.1 v
  refine ⟨by rw [List.length_drop,hl];omega,row_len l u 0,d.bot, ?_,fun y => ?_⟩
  · have:=castPos h.tiny.b1
    grind
  · rw [rdot_drop (by omega),h.put,dot_row l u y h.lt,hv]
    show _ = (d.bot:Rat) * (evalT l.terms y - q * y u)
    grind
theorem alike_flat {u:Nat} {f:Nat → List (List Int)} {h:Nat → List Row} : ∀ n,(∀ k,k < n → Alike u ((f k).map fun r=>r.drop 1) (h k)) → Alike u (((List.range n).flatMap f).map fun r=>r.drop 1) ((List.range n).flatMap h)
  | 0,_ => .nil
  | n + 1,e=>by
    rw [List.range_succ,List.flatMap_append,List.flatMap_append,List.flatMap_singleton,List.flatMap_singleton,List.map_append]
    exact (alike_flat n fun k hk=>e k (by omega)).append (e n (by omega))
section
variable {N:Nat} {cs:List (List Int)} (R:Right N cs)
include R
theorem rows_split (g:Setting):(Net.mk N (cs.map elemIn)).rows g 0 = ((List.range N).map fun v=>(nodeLaw (Net.mk N (cs.map elemIn)) v).row (Net.mk N (cs.map elemIn)).unknowns 0) ++ (List.range cs.length).flatMap fun k=>((Net.mk N (cs.map elemIn)).lawsOf g k (elemIn (cs.getD k []))).map fun l=>l.row (Net.mk N (cs.map elemIn)).unknowns 0:=by
  unfold Net.rows Net.laws
  rw [List.map_append,List.map_map]
  congr 1
  rw [indexed_is,List.flatMap_map,List.map_flatMap]
end
end Fs

namespace Fs
open Wh WhA Lin NetL Jm Red RedL Fm
theorem ker_fst {l l':List Row} (h:l.map (fun a=>a.1) = l'.map (fun a=>a.1)) (x:Nat → Rat):Ker l x ↔ Ker l' x:=by
  have key:∀ m:List Row,Ker m x ↔ ∀ v ∈ m.map (fun a=>a.1),dot v x = 0:=fun m =>
    ⟨fun hk v hv=>by obtain ⟨a,ha,rfl⟩:=List.mem_map.mp hv;exact hk a ha,fun hk a ha=>hk _ (List.mem_map.mpr ⟨a,ha,rfl⟩)⟩
  rw [key l,key l',h]
theorem free_fst {m:Nat} {l l':List Row} (h:l.map (fun a=>a.1) = l'.map (fun a=>a.1)) (c:Nat):Free m l c ↔ Free m l' c :=
  ⟨fun ⟨x,h1,h2⟩=>⟨x,(ker_fst h x).mp h1,h2⟩,fun ⟨x,h1,h2⟩=>⟨x,(ker_fst h x).mpr h1,h2⟩⟩
theorem len_fst {l l':List Row} (h:l.map (fun a=>a.1) = l'.map (fun a=>a.1)):l.length = l'.length:=by
  have:=congrArg List.length h
  simpa using this
theorem wid_fst {m:Nat} {l l':List Row} (h:l.map (fun a=>a.1) = l'.map (fun a=>a.1)) (hl:∀ a ∈ l,a.1.length = m):∀ a ∈ l',a.1.length = m:=fun a ha=>by
  have:a.1 ∈ l.map (fun a=>a.1):=by rw [h];exact List.mem_map.mpr ⟨a,ha,rfl⟩
  obtain ⟨b,hb,e⟩:=List.mem_map.mp this
  rw [← e];exact hl b hb
theorem solve_fst {m:Nat} {l l':List Row} (hw:∀ a ∈ l,a.1.length = m) (h:l.map (fun a=>a.1) = l'.map (fun a=>a.1)) {x:List Rat} (hs:solve m l = some x):∃ y,solve m l' = some y:=by
  obtain ⟨h1,h2,_,_⟩:=(solve_iff hw x).mp hs
  cases hq:solve m l' with
  | some y=>exact ⟨y,rfl⟩
  | none =>
    obtain ⟨c,hc,hf⟩:=(solve_none (wid_fst h hw) (by rw [← len_fst h];exact h1)).mp hq
    exact absurd ((free_fst h c).mpr hf) (h2 c hc)
section
variable {N:Nat} {cs:List (List Int)} (R:Right N cs)
include R
theorem point_spec {q:States × List Rat} (h:(Net.mk N (cs.map elemIn)).point = some q):(Net.mk N (cs.map elemIn)).solved ((Net.mk N (cs.map elemIn)).rest q.1) 0 = some q.2:=by
  unfold Net.point at h
  obtain ⟨r,_,e⟩:=List.exists_of_findSome?_eq_some h
  split at e
  · cases e
  · rename_i x hx
    split at e
    · have:=Option.some.inj e
      subst this
      exact hx
    · cases e
end
end Fs
namespace Jw
end Jw

set_option Elab.async false
set_option linter.all false
set_option maxRecDepth 100000
set_option maxHeartbeats 2000000
namespace Fm
open Jm
def curPut (v a b:Nat):Int:=(if v = b then 1 else 0) - (if v = a then 1 else 0)
section
variable (N:Nat) (cs:List (List Int))
def probeForms (a b:Nat) (sts:List Int):List (List Int):=(List.range N).map (fun i=>put ((nodeForms N cs).getD i []) (curPut (i + 1) a b)) ++ (allLaws N cs sts).map fun d=>put d.form 0
def openV (a b:Nat) (s:SolD):List Int:=lowest (dotI (between (one N cs) a b) s.tops) s.bot
def resist (a b:Nat) (sts:List Int):List Int:=match solOf (probeForms N cs a b sts) (one N cs) with
  | none=>[]
  | some s=>openV N cs a b s
end
def opened (a b:Nat) (ns:List Int):List Int:=if refusal ns = [] then (if (ns.headD 0).toNat < a ∨ (ns.headD 0).toNat < b then [-3] else match opPoint (ns.headD 0).toNat (parts ns) with
  | none=>[-4]
  | some p=>0 :: (openV (ns.headD 0).toNat (parts ns) a b p.2 ++ resist (ns.headD 0).toNat (parts ns) a b p.1)) else refusal ns
theorem put_abs (v a b:Nat):(curPut v a b).natAbs ≤ 1:=by
  unfold curPut
  split <;> split <;> decide
theorem openV_len (N:Nat) (cs:List (List Int)) (a b:Nat) (s:SolD):(openV N cs a b s).length = 2:=rfl
end Fm
namespace Jw
open PySem PySem.Spec PyProof.Rows L2 Lx
def spCurPut:Sp:=fun vs H Q _ => ∃ v a b:Nat,vs = [.int (v:Nat), .int (a:Nat), .int (b:Nat)] ∧ ∀ H',Same H H' → Q (.int (Fm.curPut v a b)) H'
def spProbe (K:PySem.W.Frag) (CP CC:Addr):Sp:=fun vs H Q _ => ∃ (l t c:Addr) (a b N:Nat) (cs:List (List Int)) (sts:List Int),vs = [.int (a:Nat), .int (b:Nat), .ref l, .ref t, .ref c] ∧ PsAt K CP H l cs ∧ ColsAt CC H c N cs ∧ Fm.Right N cs ∧ H t = some (.lst (sts.map V.int)) ∧ sts.length = cs.length ∧ RetM H Q (Fm.probeForms N cs a b sts)
def spVoltB (CC CS:Addr):Sp:=fun vs H Q _ => ∃ (c q:Addr) (a b N:Nat) (cs:List (List Int)) (s:Fm.SolD),vs = [.int (a:Nat), .int (b:Nat), .ref c, .ref q] ∧ ColsAt CC H c N cs ∧ Fm.Right N cs ∧ a ≤ N ∧ b ≤ N ∧ SolAt CS H q s ∧ SolSize N cs s 21 ∧ Ret H Q (Fm.openV N cs a b s)
def spOpenV (CC CS CT:Addr):Sp:=fun vs H Q _ => ∃ (c q:Addr) (a b N:Nat) (cs:List (List Int)) (p:List Int × Fm.SolD),vs = [.int (a:Nat), .int (b:Nat), .ref c, .ref q] ∧ ColsAt CC H c N cs ∧ Fm.Right N cs ∧ a ≤ N ∧ b ≤ N ∧ PtAt CT CS H q p ∧ SolSize N cs p.2 21 ∧ Ret H Q (Fm.openV N cs a b p.2)
def spResist (K:PySem.W.Frag) (CP CC CS CT:Addr):Sp:=fun vs H Q _ => ∃ (l c q:Addr) (a b N:Nat) (cs:List (List Int)) (p:List Int × Fm.SolD),vs = [.int (a:Nat), .int (b:Nat), .ref l, .ref c, .ref q] ∧ PsAt K CP H l cs ∧ ColsAt CC H c N cs ∧ Fm.Right N cs ∧ a ≤ N ∧ b ≤ N ∧ PtAt CT CS H q p ∧ Fm.opPoint N cs = some p ∧ Ret H Q (Fm.resist N cs a b p.1)
abbrev sp_opened (K:PySem.W.Frag):Sp:=spAt K Fm.opened
theorem probe_small {N:Nat} {cs:List (List Int)} (R:Fm.Right N cs) {sts:List Int} (hl:sts.length = cs.length) (a b:Nat) :
    (Fm.probeForms N cs a b sts).length = Fm.one N cs - 1 ∧ ∀ f ∈ Fm.probeForms N cs a b sts, ∃ g v,f = Fm.put g v ∧ g.length = Fm.one N cs + 1 ∧ (∀ x ∈ g,x.natAbs ≤ 2 ^ 21) ∧ v.natAbs ≤ 2 ^ 21:=by
  refine ⟨?_,fun f hf => ?_⟩
  · have h:=(law_small R hl).1
    unfold Fm.lawForms at h
    unfold Fm.probeForms
    rw [List.length_append,List.length_map,Fm.nodeForms_len] at h
    rw [List.length_append,List.length_map,List.length_map,List.length_range]
    exact h
  · rcases List.mem_append.mp hf with q | q
    · obtain ⟨i,hi,rfl⟩:=List.mem_map.mp q
      have hi':i < (Fm.nodeForms N cs).length:=by rw [Fm.nodeForms_len];exact List.mem_range.mp hi
      have:=node_small R _ (Red.mem_getD (d:=[]).mpr ⟨i,hi',rfl⟩)
      exact ⟨_,_,rfl,this.1,this.2,Nat.le_trans (Fm.put_abs _ _ _) (by decide)⟩
    · obtain ⟨d,hd,rfl⟩:=List.mem_map.mp q
      have t:=tiny_all R.good (N:=N) hl d hd
      exact ⟨d.form,0,rfl,t.form.1,fun x hx=>Nat.le_trans (t.form.2 x hx) (by decide),Nat.zero_le _⟩
theorem sizes_probe {N:Nat} {cs:List (List Int)} (R:Fm.Right N cs) {sts:List Int} (hl:sts.length = cs.length) (a b:Nat):Sizes ((Fm.probeForms N cs a b sts).map fun f=>f.drop 1) (Fm.one N cs - 1) (Fm.one N cs - 1) 21:=by
  obtain ⟨h1,h2⟩:=probe_small R hl a b
  refine sizes_of R h1 (fun f hf => ?_) (fun f hf j hj => ?_) (fun f hf => ?_)
  · obtain ⟨g,v,rfl,gl,_⟩:=h2 f hf
    exact Fm.len_put gl v
  · obtain ⟨g,v,rfl,gl,gb,_⟩:=h2 f hf
    rw [put_get gl,if_pos hj]
    exact getD_abs gb j
  · obtain ⟨g,v,rfl,gl,_,vb⟩:=h2 f hf
    rw [put_get gl,if_neg (by omega),if_pos rfl]
    exact vb
theorem fine_probe {N:Nat} {cs:List (List Int)} (R:Fm.Right N cs) {sts:List Int} (hl:sts.length = cs.length) (a b:Nat):Fine N cs (Fm.probeForms N cs a b sts) :=
  fine_of R (sizes_probe R hl a b) (by decide) fun f hf=>by
    obtain ⟨g,v,rfl,gl,_⟩:=(probe_small R hl a b).2 f hf
    exact Fm.len_put gl v
end Jw

set_option linter.all false
namespace Fs
open Wh WhA Lin NetL Jm Red RedL Fm
def probe (a b:Nat):Elem:=⟨.I,[b,a],[],1⟩
def wider (n:Net) (a b:Nat):Net:=⟨n.nodes,n.elems ++ [probe a b]⟩
def probeSet (n:Net) (r:States):Setting:=⟨fun (k:Nat)=>r.contains k,fun (k:Nat)=>if k = n.elems.length then 1 else 0,fun (_:Nat)=>0⟩
section
variable (n:Net) (a b:Nat)
theorem at_wider {j:Nat} (h:j ≤ n.elems.length):(wider n a b).at_ j = n.at_ j:=by
  unfold Net.at_ wider
  rw [List.take_append_of_le_length h]
theorem unk_wider:(wider n a b).unknowns = n.unknowns + 1:=by
  unfold Net.unknowns
  have e:(wider n a b).elems.length = n.elems.length + 1:=by unfold wider;simp
  rw [e]
  unfold Net.at_ wider
  rw [List.take_of_length_le (by simp),List.take_length,List.map_append]
  unfold sumNat
  rw [List.foldl_append]
  show n.nodes + (_ + (probe a b).currents) = _
  have:(probe a b).currents = 1:=rfl
  rw [this]
  omega
theorem indexed_wider:(wider n a b).indexed = n.indexed ++ [(n.elems.length,probe a b)]:=by
  unfold Net.indexed wider
  rw [List.zipIdx_append,List.map_append]
  simp
theorem out_wider {v k:Nat} (h:k ≤ n.elems.length) (x:Elem):(wider n a b).outOf v k x = n.outOf v k x:=by
  unfold Net.outOf
  rw [at_wider n a b h]
end
theorem idx_lt (n:Net):∀ p ∈ n.indexed,p.1 < n.elems.length:=fun p hp=>by
  unfold Net.indexed at hp
  obtain ⟨x,hx,rfl⟩:=List.mem_map.mp hp
  have:=(List.mem_zipIdx_iff_getElem?.mp hx)
  exact (List.getElem?_eq_some_iff.mp this).1
theorem node_wider (n:Net) (a b v:Nat) (x:Nat → Rat):evalT ((wider n a b).indexed.flatMap fun (p:Nat × Elem)=>(wider n a b).outOf v p.1 p.2) x = evalT (n.indexed.flatMap fun (p:Nat × Elem)=>n.outOf v p.1 p.2) x + ((if v = b then (1:Rat) else 0) - (if v = a then (1:Rat) else 0)) * x n.unknowns:=by
  have e1:(wider n a b).indexed.flatMap (fun (p:Nat × Elem)=>(wider n a b).outOf v p.1 p.2) = n.indexed.flatMap (fun (p:Nat × Elem)=>n.outOf v p.1 p.2) ++ ((if b = v then [(n.unknowns,(1:Rat))] else []) ++ (if a = v then [(n.unknowns,(-1:Rat))] else [])):=by
    rw [indexed_wider,List.flatMap_append,List.flatMap_singleton]
    congr 1
    · rw [List.flatMap_def,List.flatMap_def]
      congr 1
      exact List.map_congr_left fun p hp=>out_wider n a b (Nat.le_of_lt (idx_lt n p hp)) p.2
    · show (wider n a b).outOf v n.elems.length (probe a b) = _
      rw [out_wider n a b (Nat.le_refl _)]
      rfl
  rw [e1,evalT_append,evalT_append]
  have h1:evalT (if b = v then [(n.unknowns,(1:Rat))] else []) x = (if v = b then (1:Rat) else 0) * x n.unknowns:=by
    by_cases h:b = v
    · rw [if_pos h,if_pos h.symm];show 1 * x _ + 0 = _;grind
    · rw [if_neg h,if_neg (fun z=>h z.symm)];show (0:Rat) = _;grind
  have h2:evalT (if a = v then [(n.unknowns,(-1:Rat))] else []) x = - ((if v = a then (1:Rat) else 0) * x n.unknowns):=by
    by_cases h:a = v
    · rw [if_pos h,if_pos h.symm];show -1 * x _ + 0 = _;grind
    · rw [if_neg h,if_neg (fun z=>h z.symm)];show (0:Rat) = _;grind
  rw [h1,h2];grind
section
variable {N:Nat} {cs:List (List Int)} (R:Right N cs)
include R
theorem laws_wider {k:Nat} (hk:k < cs.length) (r:States) (a b:Nat) :
    PySem.Paired (fun (l l':Law)=>l'.terms = l.terms ∧ l'.right = 0) ((Net.mk N (cs.map elemIn)).lawsOf ((Net.mk N (cs.map elemIn)).rest r) k (elemIn (cs.getD k []))) ((wider (Net.mk N (cs.map elemIn)) a b).lawsOf (probeSet (Net.mk N (cs.map elemIn)) r) k (elemIn (cs.getD k []))):=by
  have hc:cs[k]? = some (cs.getD k []):=by rw [List.getD_eq_getElem?_getD,List.getElem?_eq_getElem hk];rfl
  obtain ⟨gc,hmem⟩:=good_at R hk
  have href:=R.ref k _ hc
  have hlen:(Net.mk N (cs.map elemIn)).elems.length = cs.length:=List.length_map _
  have e1:(wider (Net.mk N (cs.map elemIn)) a b).at_ k = (Net.mk N (cs.map elemIn)).at_ k:=at_wider _ a b (by rw [hlen];omega)
  have e2:(elemIn (cs.getD k [])).kind = .H ∨ (elemIn (cs.getD k [])).kind = .F → (wider (Net.mk N (cs.map elemIn)) a b).at_ ((elemIn (cs.getD k [])).refs.getD 0 0) = (Net.mk N (cs.map elemIn)).at_ ((elemIn (cs.getD k [])).refs.getD 0 0):=fun h=>by
    have h89:kd (cs.getD k []) = 8 ∨ kd (cs.getD k []) = 9:=h.imp (kind_iff gc 8 (by decide)).mp (kind_iff gc 9 (by decide)).mp
    rw [ref_is gc h89]
    have:=(href h89).1
    exact at_wider _ a b (by rw [hlen];omega)
  have e3:(probeSet (Net.mk N (cs.map elemIn)) r).value k = 0:=by
    show (if k = (Net.mk N (cs.map elemIn)).elems.length then (1:Rat) else 0) = 0
    rw [hlen,if_neg (by omega)]
  have e4:(probeSet (Net.mk N (cs.map elemIn)) r).drop k = 0:=rfl
  have e5:(probeSet (Net.mk N (cs.map elemIn)) r).on k = r.contains k:=rfl
  have e6:((Net.mk N (cs.map elemIn)).rest r).on k = r.contains k:=rfl
  generalize elemIn (cs.getD k []) = e at *
  generalize wider (Net.mk N (cs.map elemIn)) a b = m at *
  generalize Net.mk N (cs.map elemIn) = n at *
  generalize probeSet n r = g at *
  unfold Net.lawsOf
  dsimp only
  rw [e1,e3,e4,e5,e6]
  cases hK:e.kind <;> dsimp only
  case H=>rw [e2 (.inl hK)];exact .cons ⟨rfl,rfl⟩ .nil
  case F=>rw [e2 (.inr hK)];exact .cons ⟨rfl,rfl⟩ .nil
  case M=>exact .nil
  case T=>exact .cons ⟨rfl,rfl⟩ (.cons ⟨rfl,rfl⟩ .nil)
  case S=>split <;> exact .cons ⟨rfl,rfl⟩ .nil
  case D=>split <;> exact .cons ⟨rfl,rfl⟩ .nil
  all_goals exact .cons ⟨rfl,rfl⟩ .nil
def probeRows (N:Nat) (cs:List (List Int)) (r:States) (a b:Nat):List Row:=((List.range N).map fun v=>(((nodeLaw (Net.mk N (cs.map elemIn)) v).row (Net.mk N (cs.map elemIn)).unknowns 0).1, - ((curPut (v + 1) a b:Int):Rat))) ++ (List.range cs.length).flatMap fun k=>((Net.mk N (cs.map elemIn)).lawsOf ((Net.mk N (cs.map elemIn)).rest r) k (elemIn (cs.getD k []))).map fun l=>((l.row (Net.mk N (cs.map elemIn)).unknowns 0).1,(0:Rat))
theorem alike_zero {u:Nat} : ∀ {ds:List LawD} {ls:List Law},PySem.Paired (LL u) ds ls → Alike u ((ds.map fun d=>Fm.put d.form 0).map fun f=>f.drop 1) (ls.map fun l=>((l.row u 0).1,(0:Rat)))
  | _,_, .nil => .nil
  | _,_, .cons h t => .cons (h.likeP (by show (0:Rat) = _;grind)) (alike_zero t)
theorem rows_on (r:States) {k:Nat} (hk:k < cs.length):((Net.mk N (cs.map elemIn)).rest r).on k = decide ((tos 0 cs.length r).getD k 0 = 1):=by
  rw [tos_get hk]
  show r.contains k = _
  cases r.contains k <;> rfl
theorem alike_probe (r:States) (a b:Nat):Alike (Net.mk N (cs.map elemIn)).unknowns ((probeForms N cs a b (tos 0 cs.length r)).map fun f=>f.drop 1) (probeRows N cs r a b):=by
  have hf:=unk_facts R
  unfold probeForms probeRows
  rw [List.map_append]
  refine Alike.append ?_ ?_
  · rw [List.map_map]
    refine alike_range N fun v hv => ?_
    have e0:(nodeForms N cs).getD v [] = (nodeAll N cs).getD (v + 1) []:=by
      rw [nodeForms_is R,List.getD_eq_getElem?_getD,List.getElem?_map,List.getElem?_range hv]
      rfl
    have hl:=Jw.wid_nodes R ((nodeAll N cs).getD (v + 1) []) (mem_getD.mpr ⟨_,by rw [nodeAll_len];omega,rfl⟩)
    rw [hf.2.2] at hl
    show Like _ ((Fm.put ((nodeForms N cs).getD v []) (curPut (v + 1) a b)).drop 1) _
    rw [e0]
    have hz:(((((nodeAll N cs).getD (v + 1) []).getD ((Net.mk N (cs.map elemIn)).unknowns + 1) 0:Int)):Rat) = 0:=by
      rw [← rdot_dl hl,node_eval R (by omega)]
      exact evalT_dl (node_terms R (v + 1))
    refine ⟨by rw [List.length_drop,Fm.len_put hl];omega,row_len _ _ _,1,by decide,fun y => ?_⟩
    rw [rdot_drop (by rw [Fm.len_put hl];omega),rdot_put hl,node_eval R (by omega),hz,dot_row _ _ _ (node_terms R (v + 1))]
    have:up y ((Net.mk N (cs.map elemIn)).unknowns + 1) = y (Net.mk N (cs.map elemIn)).unknowns:=by unfold up;rw [if_neg (by omega)];rfl
    rw [this]
    show evalT _ y + _ = 1 * (evalT (nodeLaw (Net.mk N (cs.map elemIn)) v).terms y - _)
    unfold nodeLaw
    grind
  · unfold allLaws
    rw [tos_len R r,List.map_flatMap]
    refine alike_flat cs.length fun k hk => ?_
    exact alike_zero R (elt_laws R hk (rows_on R r hk) (num_at R hk) (num_at R hk))
theorem fst_probe (r:States) (a b:Nat):((Net.mk N (cs.map elemIn)).rows ((Net.mk N (cs.map elemIn)).rest r) 0).map (fun a=>a.1) = (probeRows N cs r a b).map (fun a=>a.1):=by
  rw [rows_split R]
  unfold probeRows
  rw [List.map_append,List.map_append,List.map_map,List.map_map,List.map_flatMap,List.map_flatMap]
  congr 1
  rw [List.flatMap_def,List.flatMap_def]
  congr 1
  refine List.map_congr_left fun k _ => ?_
  rw [List.map_map,List.map_map]
  rfl
theorem wider_cases (r:States) (a b:Nat) {l:Law} (h:l ∈ (wider (Net.mk N (cs.map elemIn)) a b).laws (probeSet (Net.mk N (cs.map elemIn)) r)) :
    (∃ v,v < N ∧ l = nodeLaw (wider (Net.mk N (cs.map elemIn)) a b) v) ∨ (∃ k l0,k < cs.length ∧ l0 ∈ (Net.mk N (cs.map elemIn)).lawsOf ((Net.mk N (cs.map elemIn)).rest r) k (elemIn (cs.getD k [])) ∧ l.terms = l0.terms ∧ l.right = 0) ∨ (l.terms = [((Net.mk N (cs.map elemIn)).unknowns,1)] ∧ l.right = 1):=by
  have hlen:(Net.mk N (cs.map elemIn)).elems.length = cs.length:=List.length_map _
  unfold Net.laws at h
  rcases List.mem_append.mp h with q | q
  · obtain ⟨v,hv,rfl⟩:=List.mem_map.mp q
    exact .inl ⟨v,List.mem_range.mp hv,rfl⟩
  · rw [indexed_wider,List.flatMap_append,List.flatMap_singleton] at q
    rcases List.mem_append.mp q with q | q
    · rw [indexed_is,List.flatMap_map] at q
      obtain ⟨k,hk,hm⟩:=List.mem_flatMap.mp q
      have hk:=List.mem_range.mp hk
      have hp:=laws_wider R hk r a b
      obtain ⟨j,hj,ej⟩:=List.mem_iff_getElem.mp hm
      have hj':j < ((Net.mk N (cs.map elemIn)).lawsOf ((Net.mk N (cs.map elemIn)).rest r) k (elemIn (cs.getD k []))).length:=by rw [hp.length];exact hj
      obtain ⟨y,hy,h1,h2⟩:=L2.paired_get hp (List.getElem?_eq_getElem hj')
      have:y = l:=by
        have e:=hy
        rw [List.getElem?_eq_getElem hj] at e
        rw [← ej]
        exact (Option.some.inj e).symm
      subst this
      exact .inr (.inl ⟨k,_,hk,List.getElem_mem hj',h1,h2⟩)
    · refine .inr (.inr ?_)
      have e:(wider (Net.mk N (cs.map elemIn)) a b).lawsOf (probeSet (Net.mk N (cs.map elemIn)) r) (Net.mk N (cs.map elemIn)).elems.length (probe a b) = [⟨[((wider (Net.mk N (cs.map elemIn)) a b).at_ (Net.mk N (cs.map elemIn)).elems.length,1)],[],(probeSet (Net.mk N (cs.map elemIn)) r).value (Net.mk N (cs.map elemIn)).elems.length⟩]:=rfl
      have q':l ∈ (wider (Net.mk N (cs.map elemIn)) a b).lawsOf (probeSet (Net.mk N (cs.map elemIn)) r) (Net.mk N (cs.map elemIn)).elems.length (probe a b):=q
      rw [e] at q'
      rw [List.mem_singleton.mp q',at_wider _ a b (Nat.le_refl _)]
      refine ⟨rfl, ?_⟩
      show (if (Net.mk N (cs.map elemIn)).elems.length = (Net.mk N (cs.map elemIn)).elems.length then (1:Rat) else 0) = 1
      rw [if_pos rfl]
theorem wider_node (r:States) (a b:Nat) {v:Nat} (hv:v < N):nodeLaw (wider (Net.mk N (cs.map elemIn)) a b) v ∈ (wider (Net.mk N (cs.map elemIn)) a b).laws (probeSet (Net.mk N (cs.map elemIn)) r) :=
  List.mem_append.mpr (.inl (List.mem_map.mpr ⟨v,List.mem_range.mpr hv,rfl⟩))
theorem wider_elt (r:States) (a b:Nat) {k:Nat} {l0:Law} (hk:k < cs.length) (h0:l0 ∈ (Net.mk N (cs.map elemIn)).lawsOf ((Net.mk N (cs.map elemIn)).rest r) k (elemIn (cs.getD k []))):∃ l ∈ (wider (Net.mk N (cs.map elemIn)) a b).laws (probeSet (Net.mk N (cs.map elemIn)) r),l.terms = l0.terms:=by
  have hp:=laws_wider R hk r a b
  obtain ⟨j,hj,ej⟩:=List.mem_iff_getElem.mp h0
  obtain ⟨y,hy,h1,h2⟩:=L2.paired_get hp (List.getElem?_eq_getElem hj)
  refine ⟨y,List.mem_append.mpr (.inr ?_),by rw [h1,ej]⟩
  rw [indexed_wider,List.flatMap_append]
  refine List.mem_append.mpr (.inl ?_)
  rw [indexed_is,List.flatMap_map]
  exact List.mem_flatMap.mpr ⟨k,List.mem_range.mpr hk,List.mem_of_getElem? hy⟩
theorem wider_last (r:States) (a b:Nat):∃ l ∈ (wider (Net.mk N (cs.map elemIn)) a b).laws (probeSet (Net.mk N (cs.map elemIn)) r),l.terms = [((Net.mk N (cs.map elemIn)).unknowns,1)]:=by
  refine ⟨⟨[((wider (Net.mk N (cs.map elemIn)) a b).at_ (Net.mk N (cs.map elemIn)).elems.length,1)],[],(probeSet (Net.mk N (cs.map elemIn)) r).value (Net.mk N (cs.map elemIn)).elems.length⟩,List.mem_append.mpr (.inr ?_), ?_⟩
  · rw [indexed_wider,List.flatMap_append,List.flatMap_singleton]
    refine List.mem_append.mpr (.inr ?_)
    show _ ∈ (wider (Net.mk N (cs.map elemIn)) a b).lawsOf _ (Net.mk N (cs.map elemIn)).elems.length (probe a b)
    exact List.mem_singleton.mpr rfl
  · show [((wider (Net.mk N (cs.map elemIn)) a b).at_ (Net.mk N (cs.map elemIn)).elems.length,(1:Rat))] = _
    rw [at_wider _ a b (Nat.le_refl _)]
    rfl
theorem elt_lt (r:States) {k:Nat} {l0:Law} (hk:k < cs.length) (h0:l0 ∈ (Net.mk N (cs.map elemIn)).lawsOf ((Net.mk N (cs.map elemIn)).rest r) k (elemIn (cs.getD k []))):∀ t ∈ l0.terms,t.1 < (Net.mk N (cs.map elemIn)).unknowns:=by
  have hp:=elt_laws R hk (rows_on R r hk) (num_at R hk) (num_at R hk)
  obtain ⟨j,hj,ej⟩:=List.mem_iff_getElem.mp h0
  have hj':j < (lawsOf N cs k ((tos 0 cs.length r).getD k 0)).length:=by rw [hp.length];exact hj
  obtain ⟨y,hy,h⟩:=L2.paired_get hp (List.getElem?_eq_getElem hj')
  have:y = l0:=by
    have e:=hy
    rw [List.getElem?_eq_getElem hj] at e
    rw [← ej]
    exact (Option.some.inj e).symm
  rw [← this]
  exact h.lt
theorem node_lt (a b v:Nat):∀ t ∈ (nodeLaw (wider (Net.mk N (cs.map elemIn)) a b) v).terms,t.1 < (Net.mk N (cs.map elemIn)).unknowns + 1:=fun t ht=>by
  have ht:t ∈ (wider (Net.mk N (cs.map elemIn)) a b).indexed.flatMap fun (p:Nat × Elem)=>(wider (Net.mk N (cs.map elemIn)) a b).outOf (v + 1) p.1 p.2:=ht
  rw [indexed_wider,List.flatMap_append,List.flatMap_singleton] at ht
  rcases List.mem_append.mp ht with q | q
  · obtain ⟨p,hp,hm⟩:=List.mem_flatMap.mp q
    rw [out_wider _ a b (Nat.le_of_lt (idx_lt _ p hp))] at hm
    have:=node_terms R (v + 1) t (List.mem_flatMap.mpr ⟨p,hp,hm⟩)
    omega
  · have q:t ∈ (wider (Net.mk N (cs.map elemIn)) a b).outOf (v + 1) (Net.mk N (cs.map elemIn)).elems.length (probe a b):=q
    rw [out_wider _ a b (Nat.le_refl _)] at q
    have q:t ∈ (if b = v + 1 then [((Net.mk N (cs.map elemIn)).unknowns,(1:Rat))] else []) ++ (if a = v + 1 then [((Net.mk N (cs.map elemIn)).unknowns,(-1:Rat))] else []):=q
    rcases List.mem_append.mp q with q | q
    · split at q
      · rw [List.mem_singleton.mp q];exact Nat.lt_succ_self _
      · cases q
    · split at q
      · rw [List.mem_singleton.mp q];exact Nat.lt_succ_self _
      · cases q
theorem put_cast (v a b:Nat):((curPut v a b:Int):Rat) = (if v = b then (1:Rat) else 0) - (if v = a then (1:Rat) else 0):=by
  unfold curPut
  rw [Rat.intCast_sub]
  congr 1
  · split <;> rfl
  · split <;> rfl
theorem probe_solve {r:States} {a b:Nat} {y:List Rat} (h:solve (Net.mk N (cs.map elemIn)).unknowns (probeRows N cs r a b) = some y):(wider (Net.mk N (cs.map elemIn)) a b).solved (probeSet (Net.mk N (cs.map elemIn)) r) 0 = some (y ++ [1]):=by
  have hw:=rows_len (Net.mk N (cs.map elemIn)) ((Net.mk N (cs.map elemIn)).rest r) 0
  have hw2:=wid_fst (fst_probe R r a b) hw
  obtain ⟨h1,h2,h3,h4⟩:=(solve_iff hw2 y).mp h
  have hu:=unk_wider (Net.mk N (cs.map elemIn)) a b
  have key:∀ l ∈ (wider (Net.mk N (cs.map elemIn)) a b).laws (probeSet (Net.mk N (cs.map elemIn)) r), ∀ t ∈ l.terms,t.1 < (Net.mk N (cs.map elemIn)).unknowns + 1:=fun l hl t ht=>by
    rcases wider_cases R r a b hl with ⟨v,_,rfl⟩ | ⟨k,l0,hk,h0,e1,_⟩ | ⟨e1,_⟩
    · exact node_lt R a b v t ht
    · rw [e1] at ht
      have:=elt_lt R r hk h0 t ht
      omega
    · rw [e1] at ht
      rw [List.mem_singleton.mp ht]
      exact Nat.lt_succ_self _
  have memL:∀ l ∈ (wider (Net.mk N (cs.map elemIn)) a b).laws (probeSet (Net.mk N (cs.map elemIn)) r),l.row ((Net.mk N (cs.map elemIn)).unknowns + 1) 0 ∈ (wider (Net.mk N (cs.map elemIn)) a b).rows (probeSet (Net.mk N (cs.map elemIn)) r) 0:=fun l hl=>by
    unfold Net.rows
    rw [hu]
    exact List.mem_map.mpr ⟨l,hl,rfl⟩
  unfold Net.solved
  rw [hu]
  refine (solve_iff (fun x hx=>by rw [rows_len _ _ _ x hx,hu]) _).mpr ⟨by rw [rows_count,hu],fun c hc ⟨x,kx,xc,xz⟩ => ?_,by rw [List.length_append,h3];rfl,fun x hx => ?_⟩
  · have kl:∀ l ∈ (wider (Net.mk N (cs.map elemIn)) a b).laws (probeSet (Net.mk N (cs.map elemIn)) r),evalT l.terms x = 0:=fun l hl=>by
      rw [← dot_row l _ x (key l hl)]
      exact kx _ (memL l hl)
    have xu:x (Net.mk N (cs.map elemIn)).unknowns = 0:=by
      obtain ⟨l,hl,e⟩:=wider_last R r a b
      have:=kl l hl
      rw [e] at this
      have this:1 * x (Net.mk N (cs.map elemIn)).unknowns + 0 = 0:=this
      grind
    by_cases hcu:c = (Net.mk N (cs.map elemIn)).unknowns
    · rw [hcu,xu] at xc
      exact absurd xc (by decide)
    · refine h2 c (by omega) ⟨x,fun q hq => ?_,xc,fun j h1 h2=>xz j h1 (by omega)⟩
      unfold probeRows at hq
      rcases List.mem_append.mp hq with z | z
      · obtain ⟨v,hv,rfl⟩:=List.mem_map.mp z
        have hv:=List.mem_range.mp hv
        show dot ((nodeLaw _ v).row _ 0).1 x = 0
        rw [dot_row _ _ _ (node_terms R (v + 1))]
        have e:=kl _ (wider_node R r a b hv)
        have e:evalT ((wider (Net.mk N (cs.map elemIn)) a b).indexed.flatMap fun (p:Nat × Elem)=>(wider (Net.mk N (cs.map elemIn)) a b).outOf (v + 1) p.1 p.2) x = 0:=e
        rw [node_wider,xu] at e
        show evalT ((Net.mk N (cs.map elemIn)).indexed.flatMap fun (p:Nat × Elem)=>(Net.mk N (cs.map elemIn)).outOf (v + 1) p.1 p.2) x = 0
        grind
      · obtain ⟨k,hk,hm⟩:=List.mem_flatMap.mp z
        obtain ⟨l0,h0,rfl⟩:=List.mem_map.mp hm
        have hk:=List.mem_range.mp hk
        show dot (l0.row _ 0).1 x = 0
        rw [dot_row _ _ _ (elt_lt R r hk h0)]
        obtain ⟨l,hl,e⟩:=wider_elt R r a b hk h0
        rw [← e]
        exact kl l hl
  · unfold Net.rows at hx
    rw [hu] at hx
    obtain ⟨l,hl,rfl⟩:=List.mem_map.mp hx
    show dot (l.row _ 0).1 (fun i=>(y ++ [1]).getD i 0) = l.right
    rw [dot_row _ _ _ (key l hl)]
    have yu:(y ++ [(1:Rat)]).getD (Net.mk N (cs.map elemIn)).unknowns 0 = 1:=by
      rw [List.getD_eq_getElem?_getD,List.getElem?_append_right (by omega),h3,Nat.sub_self]
      rfl
    have ey:∀ ts:List (Nat × Rat),(∀ t ∈ ts,t.1 < (Net.mk N (cs.map elemIn)).unknowns) → evalT ts (fun i=>(y ++ [(1:Rat)]).getD i 0) = evalT ts (fun i=>y.getD i 0):=by
      intro ts
      induction ts with
      | nil=>intro _;rfl
      | cons t ts ih =>
        intro ht
        rw [evalT_cons,evalT_cons,ih fun t h=>ht t (List.mem_cons_of_mem _ h)]
        have:=ht t List.mem_cons_self
        congr 2
        rw [List.getD_eq_getElem?_getD,List.getElem?_append_left (by omega),List.getD_eq_getElem?_getD]
    rcases wider_cases R r a b hl with ⟨v,hv,rfl⟩ | ⟨k,l0,hk,h0,e1,e2⟩ | ⟨e1,e2⟩
    · show evalT ((wider (Net.mk N (cs.map elemIn)) a b).indexed.flatMap fun (p:Nat × Elem)=>(wider (Net.mk N (cs.map elemIn)) a b).outOf (v + 1) p.1 p.2) _ = 0
      rw [node_wider,yu,ey _ (node_terms R (v + 1)), ← put_cast R]
      have e:=h4 _ (List.mem_append.mpr (.inl (List.mem_map.mpr ⟨v,List.mem_range.mpr hv,rfl⟩)))
      have e:dot ((nodeLaw (Net.mk N (cs.map elemIn)) v).row (Net.mk N (cs.map elemIn)).unknowns 0).1 (fun i=>y.getD i 0) = - ((curPut (v + 1) a b:Int):Rat):=e
      rw [dot_row _ _ _ (node_terms R (v + 1))] at e
      have e:evalT ((Net.mk N (cs.map elemIn)).indexed.flatMap fun (p:Nat × Elem)=>(Net.mk N (cs.map elemIn)).outOf (v + 1) p.1 p.2) (fun i=>y.getD i 0) = - ((curPut (v + 1) a b:Int):Rat):=e
      rw [e];grind
    · rw [e1,e2,ey _ (elt_lt R r hk h0)]
      have e:=h4 _ (List.mem_append.mpr (.inr (List.mem_flatMap.mpr ⟨k,List.mem_range.mpr hk,List.mem_map.mpr ⟨l0,h0,rfl⟩⟩)))
      have e:dot (l0.row (Net.mk N (cs.map elemIn)).unknowns 0).1 (fun i=>y.getD i 0) = 0:=e
      rw [dot_row _ _ _ (elt_lt R r hk h0)] at e
      exact e
    · rw [e1,e2]
      show 1 * (y ++ [(1:Rat)]).getD (Net.mk N (cs.map elemIn)).unknowns 0 + 0 = (1:Rat)
      rw [yu];grind
theorem probe_sol {p:List Int × SolD} (hop:opPoint N cs = some p) (a b:Nat):∃ s2 q y,solOf (probeForms N cs a b p.1) (one N cs) = some s2 ∧ (Net.mk N (cs.map elemIn)).point = some q ∧ (wider (Net.mk N (cs.map elemIn)) a b).solved (probeSet (Net.mk N (cs.map elemIn)) q.1) 0 = some (y ++ [1]) ∧ SolR (Net.mk N (cs.map elemIn)).unknowns s2 y ∧ SolR (Net.mk N (cs.map elemIn)).unknowns p.2 q.2:=by
  have hf:=unk_facts R
  have hp:=point_rel R
  rw [hop] at hp
  cases h2:(Net.mk N (cs.map elemIn)).point with
  | none=>rw [h2] at hp;exact False.elim hp
  | some q =>
    rw [h2] at hp
    obtain ⟨e1,hs⟩:=hp
    have hx:=point_spec R h2
    unfold Net.solved at hx
    have hw:=rows_len (Net.mk N (cs.map elemIn)) ((Net.mk N (cs.map elemIn)).rest q.1) 0
    have al:=alike_probe R q.1 a b
    obtain ⟨y,hy⟩:=solve_fst hw (fst_probe R q.1 a b) hx
    have hlen:(probeForms N cs a b (tos 0 cs.length q.1)).length = (Net.mk N (cs.map elemIn)).unknowns:=by
      have h3:=al.len
      rw [List.length_map] at h3
      rw [h3, ← len_fst (fst_probe R q.1 a b),rows_count]
    have hr:=sol_rel hf.1 hlen al
    rw [e1,hf.2.2]
    cases hso:solOf (probeForms N cs a b (tos 0 cs.length q.1)) ((Net.mk N (cs.map elemIn)).unknowns + 1) with
    | none =>
      rw [hso] at hr
      have hr:solve _ _ = none:=hr
      rw [hy] at hr
      cases hr
    | some s2 =>
      rw [hso] at hr
      obtain ⟨x2,hx2,hr2⟩:=hr
      rw [hy] at hx2
      have:=Option.some.inj hx2
      subst this
      exact ⟨s2,q,y,rfl,rfl,probe_solve R hy,hr2,hs⟩
theorem openV_val {s:SolD} {x:List Rat} (hs:SolR (Net.mk N (cs.map elemIn)).unknowns s x) {a b:Nat} (ha:a ≤ N) (hb:b ≤ N):openV N cs a b s = fraction (voltage x a - voltage x b):=by
  unfold openV
  have b1:=hs.b1
  have c1:=castPos b1
  rw [← frac_low (by omega),volt_val R hs ha hb]
  congr 1
  generalize (s.bot:Rat) = z at *
  clear hs
  grind
theorem volt_wider {y:List Rat} (hy:y.length = (Net.mk N (cs.map elemIn)).unknowns) {a:Nat} (ha:a ≤ N):voltage (y ++ [1]) a = voltage y a:=by
  have hf:=unk_facts R
  unfold voltage
  split
  · rfl
  · rw [List.getD_eq_getElem?_getD,List.getElem?_append_left (by omega),List.getD_eq_getElem?_getD]
theorem opened_val {p:List Int × SolD} (hop:opPoint N cs = some p) {a b:Nat} (ha:a ≤ N) (hb:b ≤ N):∃ q z,(Net.mk N (cs.map elemIn)).point = some q ∧ resistance (Net.mk N (cs.map elemIn)) q.1 a b = some z ∧ openV N cs a b p.2 ++ resist N cs a b p.1 = fraction (voltage q.2 a - voltage q.2 b) ++ fraction z:=by
  obtain ⟨s2,q,y,h1,h2,h3,h4,h5⟩:=probe_sol R hop a b
  refine ⟨q,voltage (y ++ [1]) a - voltage (y ++ [1]) b,h2, ?_, ?_⟩
  · show ((wider (Net.mk N (cs.map elemIn)) a b).solved (probeSet (Net.mk N (cs.map elemIn)) q.1) 0).map (fun (x:List Rat)=>voltage x a - voltage x b) = _
    rw [h3]
    rfl
  · unfold resist
    rw [h1]
    dsimp only
    rw [openV_val R h5 ha hb,openV_val R h4 ha hb,volt_wider R h4.len ha,volt_wider R h4.len hb]
end
theorem opened_eq (a b:Nat) (ns:List Int):opened a b ns = PyWrwira.opened (a:Int) (b:Int) ns:=by
  show opened a b ns = WhANeutral.shown (ofNet ns fun (m:Net)=>if m.nodes < ((a:Int)).toNat ∨ m.nodes < ((b:Int)).toNat then no 3 else ofPoint ns fun (n:Net) (r:States) (x:List Rat)=>match resistance n r ((a:Int)).toNat ((b:Int)).toNat with
    | some q => .told (fraction (voltage x ((a:Int)).toNat - voltage x ((b:Int)).toNat) ++ fraction q)
    | none=>no 4)
  rw [Int.toNat_natCast,Int.toNat_natCast,refusal_spec]
  unfold opened
  by_cases h:refusal ns = []
  · rw [if_pos h,if_pos h,net_is]
    have R:=right_of h
    show _ = WhANeutral.shown (if (ns.headD 0).toNat < a ∨ (ns.headD 0).toNat < b then no 3 else _)
    by_cases hh:(ns.headD 0).toNat < a ∨ (ns.headD 0).toNat < b
    · rw [if_pos hh,if_pos hh]
      rfl
    · rw [if_neg hh,if_neg hh]
      unfold ofPoint
      rw [refusal_spec,if_pos h,net_is]
      have hp:=point_rel R
      cases h1:opPoint (ns.headD 0).toNat (parts ns) with
      | none =>
        cases h2:(Net.mk (ns.headD 0).toNat ((parts ns).map elemIn)).point with
        | none=>rfl
        | some q=>rw [h1,h2] at hp;exact False.elim hp
      | some p =>
        obtain ⟨q,z,e1,e2,e3⟩:=opened_val R h1 (a:=a) (b:=b) (by omega) (by omega)
        rw [e1]
        dsimp only
        rw [e2,e3]
        rfl
  · rw [if_neg h,if_neg h]
end Fs
namespace Jw
theorem probe_some {N:Nat} {cs:List (List Int)} (R:Fm.Right N cs) {p:List Int × Fm.SolD} (h:Fm.opPoint N cs = some p) (a b:Nat):∃ s2,Fm.solOf (Fm.probeForms N cs a b p.1) (Fm.one N cs) = some s2 ∧ SolSize N cs s2 21:=by
  obtain ⟨s2,_,_,h1,_⟩:=Fs.probe_sol R h a b
  exact ⟨s2,h1,sol_size R (sizes_probe R (Fm.point_len h) a b) h1⟩
end Jw

set_option Elab.async false
set_option linter.all false
set_option maxRecDepth 100000
set_option maxHeartbeats 2000000
namespace Jw
open PySem PySem.Spec PyProof.Rows L2 Lx
open PySem.W (Codec)
def top (i:Nat):Stmt:=PySem.Challenge.pw_restingnets_s05_opened.main.body.getD i (.Pass ⟨0,0,0,0⟩)
abbrev s_may_have_number:Stmt:=top 43
theorem sc_may_have_number:FnScope ["part"] ["part"] (defScope s_may_have_number):=⟨rfl,rfl,rfl,by decide +kernel,rfl,by decide +kernel,by decide +kernel⟩
abbrev s_references_of:Stmt:=top 34
theorem sc_references_of:FnScope ["part"] ["part"] (defScope s_references_of):=⟨rfl,rfl,rfl,by decide +kernel,rfl,by decide +kernel,by decide +kernel⟩
abbrev s_is_new_pair:Stmt:=top 44
theorem sc_is_new_pair:FnScope ["pair", "before", "taken", "part"] ["pair", "before"] (defScope s_is_new_pair):=⟨rfl,rfl,rfl,by decide +kernel,rfl,by decide +kernel,by decide +kernel⟩
abbrev s_may_refer:Stmt:=top 45
theorem sc_may_refer:FnScope ["part", "before", "references", "referred", "x"] ["part", "before"] (defScope s_may_refer):=⟨rfl,rfl,rfl,by decide +kernel,rfl,by decide +kernel,by decide +kernel⟩
abbrev s_is_coupled_too_much:Stmt:=top 46
theorem sc_is_coupled_too_much:FnScope ["part", "before", "first", "second", "square", "product"] ["part", "before"] (defScope s_is_coupled_too_much):=⟨rfl,rfl,rfl,by decide +kernel,rfl,by decide +kernel,by decide +kernel⟩
abbrev s_nodes_of:Stmt:=top 33
theorem sc_nodes_of:FnScope ["part"] ["part"] (defScope s_nodes_of):=⟨rfl,rfl,rfl,by decide +kernel,rfl,by decide +kernel,by decide +kernel⟩
abbrev s_part_fault:Stmt:=top 47
theorem sc_part_fault:FnScope ["part", "before", "last_node", "node"] ["part", "before", "last_node"] (defScope s_part_fault):=⟨rfl,rfl,rfl,by decide +kernel,rfl,by decide +kernel,by decide +kernel⟩
abbrev s_first_fault:Stmt:=top 48
theorem sc_first_fault:FnScope ["parts", "last_node", "k", "part", "fault"] ["parts", "last_node"] (defScope s_first_fault):=⟨rfl,rfl,rfl,by decide +kernel,rfl,by decide +kernel,by decide +kernel⟩
abbrev s_Part_init:Stmt:=inClass (top 31) 0
theorem sc_Part_init:FnScope ["self", "numbers"] ["self", "numbers"] (defScope s_Part_init):=⟨rfl,rfl,rfl,by decide +kernel,rfl,by decide +kernel,by decide +kernel⟩
abbrev s_parts_of:Stmt:=top 32
theorem sc_parts_of:FnScope ["net", "start"] ["net"] (defScope s_parts_of):=⟨rfl,rfl,rfl,by decide +kernel,rfl,by decide +kernel,by decide +kernel⟩
abbrev s_diode_count:Stmt:=top 35
theorem sc_diode_count:FnScope ["parts", "part"] ["parts"] (defScope s_diode_count):=⟨rfl,rfl,rfl,by decide +kernel,rfl,by decide +kernel,by decide +kernel⟩
abbrev s_is_part:Stmt:=top 36
theorem sc_is_part:FnScope ["part", "place"] ["part"] (defScope s_is_part):=⟨rfl,rfl,rfl,by decide +kernel,rfl,by decide +kernel,by decide +kernel⟩
abbrev s_is_row:Stmt:=top 37
theorem sc_is_row:FnScope ["net", "parts", "part"] ["net"] (defScope s_is_row):=⟨rfl,rfl,rfl,by decide +kernel,rfl,by decide +kernel,by decide +kernel⟩
abbrev s_refusal_of:Stmt:=top 91
theorem sc_refusal_of:FnScope ["net", "fault"] ["net"] (defScope s_refusal_of):=⟨rfl,rfl,rfl,by decide +kernel,rfl,by decide +kernel,by decide +kernel⟩
abbrev s_Columns_init:Stmt:=inClass (top 18) 0
theorem sc_Columns_init:FnScope ["self", "parts", "last_node", "column", "part"] ["self", "parts", "last_node"] (defScope s_Columns_init):=⟨rfl,rfl,rfl,by decide +kernel,rfl,by decide +kernel,by decide +kernel⟩
abbrev s_state_rows:Stmt:=top 80
theorem sc_state_rows:FnScope ["parts", "rows", "part", "choices", "longer", "row", "state"] ["parts"] (defScope s_state_rows):=⟨rfl,rfl,rfl,by decide +kernel,rfl,by decide +kernel,by decide +kernel⟩
abbrev s_Reduced_init:Stmt:=inClass (top 63) 0
theorem sc_Reduced_init:FnScope ["self", "rows", "rank", "divisor"] ["self", "rows", "rank", "divisor"] (defScope s_Reduced_init):=⟨rfl,rfl,rfl,by decide +kernel,rfl,by decide +kernel,by decide +kernel⟩
abbrev s_pivot_place:Stmt:=top 64
theorem sc_pivot_place:FnScope ["rows", "start", "column", "k"] ["rows", "start", "column"] (defScope s_pivot_place):=⟨rfl,rfl,rfl,by decide +kernel,rfl,by decide +kernel,by decide +kernel⟩
abbrev s_exchanged:Stmt:=top 65
theorem sc_exchanged:FnScope ["rows", "first", "second", "copied"] ["rows", "first", "second"] (defScope s_exchanged):=⟨rfl,rfl,rfl,by decide +kernel,rfl,by decide +kernel,by decide +kernel⟩
abbrev s_cleared:Stmt:=top 66
theorem sc_cleared:FnScope ["row", "pivot_row", "column", "divisor", "pivot", "factor", "x", "y"] ["row", "pivot_row", "column", "divisor"] (defScope s_cleared):=⟨rfl,rfl,rfl,by decide +kernel,rfl,by decide +kernel,by decide +kernel⟩
abbrev s_reduced:Stmt:=top 67
theorem sc_reduced:FnScope ["rows", "unknowns", "rank", "divisor", "column", "place", "pivot_row", "k", "row"] ["rows", "unknowns"] (defScope s_reduced):=⟨rfl,rfl,rfl,by decide +kernel,rfl,by decide +kernel,by decide +kernel⟩
abbrev s_reduced_laws:Stmt:=top 70
theorem sc_reduced_laws:FnScope ["forms", "columns", "form"] ["forms", "columns"] (defScope s_reduced_laws):=⟨rfl,rfl,rfl,by decide +kernel,rfl,by decide +kernel,by decide +kernel⟩
abbrev s_Solution_init:Stmt:=inClass (top 69) 0
theorem sc_Solution_init:FnScope ["self", "tops", "bottom"] ["self", "tops", "bottom"] (defScope s_Solution_init):=⟨rfl,rfl,rfl,by decide +kernel,rfl,by decide +kernel,by decide +kernel⟩
abbrev s_solution_of:Stmt:=top 71
theorem sc_solution_of:FnScope ["forms", "columns", "result", "sign", "bottom", "row"] ["forms", "columns"] (defScope s_solution_of):=⟨rfl,rfl,rfl,by decide +kernel,rfl,by decide +kernel,by decide +kernel⟩
abbrev s_Columns_nothing:Stmt:=inClass (top 18) 1
theorem sc_Columns_nothing:FnScope ["self"] ["self"] (defScope s_Columns_nothing):=⟨rfl,rfl,rfl,by decide +kernel,rfl,by decide +kernel,by decide +kernel⟩
abbrev s_branches_of:Stmt:=top 56
theorem sc_branches_of:FnScope ["parts", "columns", "branches", "part", "column"] ["parts", "columns"] (defScope s_branches_of):=⟨rfl,rfl,rfl,by decide +kernel,rfl,by decide +kernel,by decide +kernel⟩
abbrev s_node_forms:Stmt:=top 57
theorem sc_node_forms:FnScope ["parts", "columns", "forms", "left", "entered", "column", "node"] ["parts", "columns"] (defScope s_node_forms):=⟨rfl,rfl,rfl,by decide +kernel,rfl,by decide +kernel,by decide +kernel⟩
abbrev s_less:Stmt:=top 20
theorem sc_less:FnScope ["first", "second", "x", "y"] ["first", "second"] (defScope s_less):=⟨rfl,rfl,rfl,by decide +kernel,rfl,by decide +kernel,by decide +kernel⟩
abbrev s_times:Stmt:=top 19
theorem sc_times:FnScope ["factor", "form", "number"] ["factor", "form"] (defScope s_times):=⟨rfl,rfl,rfl,by decide +kernel,rfl,by decide +kernel,by decide +kernel⟩
abbrev s_Law_form:Stmt:=inClass (top 50) 1
theorem sc_Law_form:FnScope ["self"] ["self"] (defScope s_Law_form):=⟨rfl,rfl,rfl,by decide +kernel,rfl,by decide +kernel,by decide +kernel⟩
abbrev s_Columns_single:Stmt:=inClass (top 18) 2
theorem sc_Columns_single:FnScope ["self", "column", "form"] ["self", "column"] (defScope s_Columns_single):=⟨rfl,rfl,rfl,by decide +kernel,rfl,by decide +kernel,by decide +kernel⟩
abbrev s_Law_init:Stmt:=inClass (top 50) 0
theorem sc_Law_init:FnScope ["self", "told", "factor", "part"] ["self", "told", "factor", "part"] (defScope s_Law_init):=⟨rfl,rfl,rfl,by decide +kernel,rfl,by decide +kernel,by decide +kernel⟩
abbrev s_Columns_between:Stmt:=inClass (top 18) 3
theorem sc_Columns_between:FnScope ["self", "first", "second", "form"] ["self", "first", "second"] (defScope s_Columns_between):=⟨rfl,rfl,rfl,by decide +kernel,rfl,by decide +kernel,by decide +kernel⟩
abbrev s_sets_voltage:Stmt:=top 51
theorem sc_sets_voltage:FnScope ["part", "state"] ["part", "state"] (defScope s_sets_voltage):=⟨rfl,rfl,rfl,by decide +kernel,rfl,by decide +kernel,by decide +kernel⟩
abbrev s_told_form:Stmt:=top 52
theorem sc_told_form:FnScope ["parts", "k", "state", "columns", "part"] ["parts", "k", "state", "columns"] (defScope s_told_form):=⟨rfl,rfl,rfl,by decide +kernel,rfl,by decide +kernel,by decide +kernel⟩
abbrev s_factor_form:Stmt:=top 53
theorem sc_factor_form:FnScope ["parts", "k", "state", "columns", "part"] ["parts", "k", "state", "columns"] (defScope s_factor_form):=⟨rfl,rfl,rfl,by decide +kernel,rfl,by decide +kernel,by decide +kernel⟩
abbrev s_part_laws:Stmt:=top 54
theorem sc_part_laws:FnScope ["parts", "k", "state", "columns", "part", "laws", "current"] ["parts", "k", "state", "columns"] (defScope s_part_laws):=⟨rfl,rfl,rfl,by decide +kernel,rfl,by decide +kernel,by decide +kernel⟩
abbrev s_all_part_laws:Stmt:=top 55
theorem sc_all_part_laws:FnScope ["parts", "states", "columns", "laws", "k", "state"] ["parts", "states", "columns"] (defScope s_all_part_laws):=⟨rfl,rfl,rfl,by decide +kernel,rfl,by decide +kernel,by decide +kernel⟩
abbrev s_law_forms:Stmt:=top 58
theorem sc_law_forms:FnScope ["parts", "states", "columns", "law"] ["parts", "states", "columns"] (defScope s_law_forms):=⟨rfl,rfl,rfl,by decide +kernel,rfl,by decide +kernel,by decide +kernel⟩
abbrev s_product:Stmt:=top 21
theorem sc_product:FnScope ["first", "second", "x", "y"] ["first", "second"] (defScope s_product):=⟨rfl,rfl,rfl,by decide +kernel,rfl,by decide +kernel,by decide +kernel⟩
abbrev s_Solution_top_of:Stmt:=inClass (top 69) 1
theorem sc_Solution_top_of:FnScope ["self", "form"] ["self", "form"] (defScope s_Solution_top_of):=⟨rfl,rfl,rfl,by decide +kernel,rfl,by decide +kernel,by decide +kernel⟩
abbrev s_condition_holds:Stmt:=top 82
theorem sc_condition_holds:FnScope ["parts", "k", "state", "columns", "solution", "part", "voltage"] ["parts", "k", "state", "columns", "solution"] (defScope s_condition_holds):=⟨rfl,rfl,rfl,by decide +kernel,rfl,by decide +kernel,by decide +kernel⟩
abbrev s_diode_places:Stmt:=top 81
theorem sc_diode_places:FnScope ["parts", "k", "part"] ["parts"] (defScope s_diode_places):=⟨rfl,rfl,rfl,by decide +kernel,rfl,by decide +kernel,by decide +kernel⟩
abbrev s_conditions_hold:Stmt:=top 83
theorem sc_conditions_hold:FnScope ["parts", "states", "columns", "solution", "k"] ["parts", "states", "columns", "solution"] (defScope s_conditions_hold):=⟨rfl,rfl,rfl,by decide +kernel,rfl,by decide +kernel,by decide +kernel⟩
abbrev s_Point_init:Stmt:=inClass (top 79) 0
theorem sc_Point_init:FnScope ["self", "states", "solution"] ["self", "states", "solution"] (defScope s_Point_init):=⟨rfl,rfl,rfl,by decide +kernel,rfl,by decide +kernel,by decide +kernel⟩
abbrev s_operating_point:Stmt:=top 84
theorem sc_operating_point:FnScope ["parts", "columns", "states", "solution"] ["parts", "columns"] (defScope s_operating_point):=⟨rfl,rfl,rfl,by decide +kernel,rfl,by decide +kernel,by decide +kernel⟩
abbrev s_common_divisor:Stmt:=top 60
theorem sc_common_divisor:FnScope ["first", "second", "rest"] ["first", "second"] (defScope s_common_divisor):=⟨rfl,rfl,rfl,by decide +kernel,rfl,by decide +kernel,by decide +kernel⟩
abbrev s_lowest:Stmt:=top 61
theorem sc_lowest:FnScope ["top", "bottom", "divisor"] ["top", "bottom"] (defScope s_lowest):=⟨rfl,rfl,rfl,by decide +kernel,rfl,by decide +kernel,by decide +kernel⟩
abbrev s_voltage_between:Stmt:=top 75
theorem sc_voltage_between:FnScope ["a", "b", "columns", "solution"] ["a", "b", "columns", "solution"] (defScope s_voltage_between):=⟨rfl,rfl,rfl,by decide +kernel,rfl,by decide +kernel,by decide +kernel⟩
abbrev s_current_put:Stmt:=top 73
theorem sc_current_put:FnScope ["node", "a", "b", "taken", "given"] ["node", "a", "b"] (defScope s_current_put):=⟨rfl,rfl,rfl,by decide +kernel,rfl,by decide +kernel,by decide +kernel⟩
abbrev s_probe_forms:Stmt:=top 74
theorem sc_probe_forms:FnScope ["a", "b", "parts", "states", "columns", "forms", "node", "form", "law"] ["a", "b", "parts", "states", "columns"] (defScope s_probe_forms):=⟨rfl,rfl,rfl,by decide +kernel,rfl,by decide +kernel,by decide +kernel⟩
abbrev s_resistance:Stmt:=top 77
theorem sc_resistance:FnScope ["a", "b", "parts", "columns", "found"] ["a", "b", "parts", "columns", "found"] (defScope s_resistance):=⟨rfl,rfl,rfl,by decide +kernel,rfl,by decide +kernel,by decide +kernel⟩
abbrev s_open_voltage:Stmt:=top 76
theorem sc_open_voltage:FnScope ["a", "b", "columns", "found"] ["a", "b", "columns", "found"] (defScope s_open_voltage):=⟨rfl,rfl,rfl,by decide +kernel,rfl,by decide +kernel,by decide +kernel⟩
abbrev s_opened:Stmt:=top 92
theorem sc_opened:FnScope ["a", "b", "net", "refusal", "parts", "columns", "found"] ["a", "b", "net"] (defScope s_opened):=⟨rfl,rfl,rfl,by decide +kernel,rfl,by decide +kernel,by decide +kernel⟩
structure Ads where
  Columns:Addr
  Part:Addr
  Law:Addr
  Reduced:Addr
  Solution:Addr
  Point:Addr
  NODE_COUNTS:Addr
  CURRENT_COUNTS:Addr
structure Txt (K:PySem.W.Frag) (mg:Str → Option Value) (Z:Ads):Prop where
  cl_Columns:Cls K Z.Columns
  n_Columns_nodes:NoAttr K Z.Columns "nodes"
  n_Columns_currents:NoAttr K Z.Columns "currents"
  n_Columns_one:NoAttr K Z.Columns "one"
  mg_Columns:mg "Columns" = some (.ref Z.Columns)
  cl_Part:Cls K Z.Part
  n_Part_kind:NoAttr K Z.Part "kind"
  n_Part_places:NoAttr K Z.Part "places"
  n_Part_top:NoAttr K Z.Part "top"
  n_Part_bottom:NoAttr K Z.Part "bottom"
  mg_Part:mg "Part" = some (.ref Z.Part)
  cl_Law:Cls K Z.Law
  n_Law_told:NoAttr K Z.Law "told"
  n_Law_factor:NoAttr K Z.Law "factor"
  n_Law_top:NoAttr K Z.Law "top"
  n_Law_bottom:NoAttr K Z.Law "bottom"
  mg_Law:mg "Law" = some (.ref Z.Law)
  cl_Reduced:Cls K Z.Reduced
  n_Reduced_rows:NoAttr K Z.Reduced "rows"
  n_Reduced_rank:NoAttr K Z.Reduced "rank"
  n_Reduced_divisor:NoAttr K Z.Reduced "divisor"
  mg_Reduced:mg "Reduced" = some (.ref Z.Reduced)
  cl_Solution:Cls K Z.Solution
  n_Solution_tops:NoAttr K Z.Solution "tops"
  n_Solution_bottom:NoAttr K Z.Solution "bottom"
  mg_Solution:mg "Solution" = some (.ref Z.Solution)
  cl_Point:Cls K Z.Point
  n_Point_states:NoAttr K Z.Point "states"
  n_Point_solution:NoAttr K Z.Point "solution"
  mg_Point:mg "Point" = some (.ref Z.Point)
  g_TRANSFORMER:∃ t,mg "TRANSFORMER" = some (.int 10 t)
  g_AMPLIFIER:∃ t,mg "AMPLIFIER" = some (.int 11 t)
  g_SWITCH:∃ t,mg "SWITCH" = some (.int 12 t)
  g_DIODE:∃ t,mg "DIODE" = some (.int 13 t)
  g_RESISTOR:∃ t,mg "RESISTOR" = some (.int 0 t)
  g_CAPACITOR:∃ t,mg "CAPACITOR" = some (.int 1 t)
  g_INDUCTOR:∃ t,mg "INDUCTOR" = some (.int 2 t)
  g_MUTUAL:∃ t,mg "MUTUAL" = some (.int 3 t)
  g_VOLTAGE_BY_CURRENT:∃ t,mg "VOLTAGE_BY_CURRENT" = some (.int 8 t)
  g_CURRENT_BY_CURRENT:∃ t,mg "CURRENT_BY_CURRENT" = some (.int 9 t)
  g_NO_FAULT:∃ t,mg "NO_FAULT" = some (.int 0 t)
  g_NODE_FAULT:∃ t,mg "NODE_FAULT" = some (.int 1 t)
  g_NUMBER_FAULT:∃ t,mg "NUMBER_FAULT" = some (.int 2 t)
  g_REFERENCE_FAULT:∃ t,mg "REFERENCE_FAULT" = some (.int 3 t)
  g_PART_LENGTH:∃ t,mg "PART_LENGTH" = some (.int 7 t)
  g_LAST_KIND:∃ t,mg "LAST_KIND" = some (.int 13 t)
  g_MOST_TOP:∃ t,mg "MOST_TOP" = some (.int 1000000 t)
  g_MOST_BOTTOM:∃ t,mg "MOST_BOTTOM" = some (.int 1000000 t)
  g_MOST_PLACE:∃ t,mg "MOST_PLACE" = some (.int 63 t)
  g_MOST_PARTS:∃ t,mg "MOST_PARTS" = some (.int 14 t)
  g_MOST_DIODES:∃ t,mg "MOST_DIODES" = some (.int 5 t)
  g_MOST_NODES:∃ t,mg "MOST_NODES" = some (.int 8 t)
  g_NO_ROW:∃ t,mg "NO_ROW" = some (.int (-1) t)
  g_WRONG_NETWORK:∃ t,mg "WRONG_NETWORK" = some (.int (-2) t)
  g_VOLTAGE_SOURCE:∃ t,mg "VOLTAGE_SOURCE" = some (.int 4 t)
  g_VOLTAGE_BY_VOLTAGE:∃ t,mg "VOLTAGE_BY_VOLTAGE" = some (.int 6 t)
  g_CURRENT_BY_VOLTAGE:∃ t,mg "CURRENT_BY_VOLTAGE" = some (.int 7 t)
  g_CURRENT_SOURCE:∃ t,mg "CURRENT_SOURCE" = some (.int 5 t)
  g_NO_SUCH:∃ t,mg "NO_SUCH" = some (.int (-3) t)
  g_NO_POINT:∃ t,mg "NO_POINT" = some (.int (-4) t)
  g_ANSWERED:∃ t,mg "ANSWERED" = some (.int 0 t)
  g_NODE_COUNTS:mg "NODE_COUNTS" = some (.ref Z.NODE_COUNTS)
  s_NODE_COUNTS:∀ H:Hp,SqT K H Z.NODE_COUNTS (([2,2,2,0,2,2,4,4,2,2,4,4,2,2] : List Int).map V.int)
  g_CURRENT_COUNTS:mg "CURRENT_COUNTS" = some (.ref Z.CURRENT_COUNTS)
  s_CURRENT_COUNTS:∀ H:Hp,SqT K H Z.CURRENT_COUNTS (([1,1,1,0,1,1,1,1,1,1,2,1,1,1] : List Int).map V.int)
  b_sorted:mg "sorted" = none
  b_any:mg "any" = none
  b_len:mg "len" = none
  b_enumerate:mg "enumerate" = none
  b_range:mg "range" = none
  b_all:mg "all" = none
  b_list:mg "list" = none
  b_zip:mg "zip" = none
  b_abs:mg "abs" = none
  b_sum:mg "sum" = none
section
variable {P:Program} {w:World} {K:PySem.W.Frag} {mg:Str → Option Value} {base:Heap} {Z:Ads} {f:Addr} {fd:FuncData}
local macro_rules | `(tactic| walk_at "go") => `(tactic| (try dsimp only [tSeq,tDrop,tRet,tRetN,tIfS,tAsg,tOp,tUn,tSl,tPart,tNoPart,tCB,tCons,tNil,tCl,tMk,tC,tTest,tB,tAnd,tOr,tNot,tAndV,tOrV,tNotV,tChain,tTruV,tIf,rI0,rI,rU,t2I,tCmp,tLt,tLe,tGt,tGe,tEqI,tNeI,sFld,gName,tTup,tLst,tNext,tYes,tMt,tAug,tAugS,gSub,tIsN,tNotN,tCont,tBM,rRep,rCat,ipI]))
local macro_rules | `(tactic| walk_at "lc") => `(tactic| (try dsimp only [tLc,iList,iTup,iEnum,Le.iFrom1,iZip,iRng1,iRng2,iRng3,tFor]))
theorem rd_kind (T:Txt K mg Z) {i:Nat} {σ : L2.St} {H:Hp} {Q:VK} {a:Addr} {c:List Int} (hσ : σ[i]? = some (some (.ref a))) (hp:PartAt Z.Part H a c) (h:Q (.int (Jm.kd c)) H):tFld K (tVar i) "kind" σ H Q:=by
  obtain ⟨dx,l,h1,h2⟩:=hp
  exact ⟨_,hσ,a,Z.Part,dx,_,_,rfl,h1,T.cl_Part,T.n_Part_kind,pfs_kind c l,h⟩
theorem rd_top (T:Txt K mg Z) {i:Nat} {σ : L2.St} {H:Hp} {Q:VK} {a:Addr} {c:List Int} (hσ : σ[i]? = some (some (.ref a))) (hp:PartAt Z.Part H a c) (h:Q (.int (Jm.tp c)) H):tFld K (tVar i) "top" σ H Q:=by
  obtain ⟨dx,l,h1,h2⟩:=hp
  exact ⟨_,hσ,a,Z.Part,dx,_,_,rfl,h1,T.cl_Part,T.n_Part_top,pfs_top c l,h⟩
theorem rd_bottom (T:Txt K mg Z) {i:Nat} {σ : L2.St} {H:Hp} {Q:VK} {a:Addr} {c:List Int} (hσ : σ[i]? = some (some (.ref a))) (hp:PartAt Z.Part H a c) (h:Q (.int (Jm.bt c)) H):tFld K (tVar i) "bottom" σ H Q:=by
  obtain ⟨dx,l,h1,h2⟩:=hp
  exact ⟨_,hσ,a,Z.Part,dx,_,_,rfl,h1,T.cl_Part,T.n_Part_bottom,pfs_bottom c l,h⟩
theorem rd_places (T:Txt K mg Z) {i:Nat} {σ : L2.St} {H:Hp} {Q:VK} {a:Addr} {c:List Int} (hσ : σ[i]? = some (some (.ref a))) (hp:PartAt Z.Part H a c) (h:∀ l,H l = some (.lst ((Jm.pl c).map V.int)) → Q (.ref l) H):tFld K (tVar i) "places" σ H Q:=by
  obtain ⟨dx,l,h1,h2⟩:=hp
  exact ⟨_,hσ,a,Z.Part,dx,_,_,rfl,h1,T.cl_Part,T.n_Part_places,pfs_places c l,h l h2⟩
theorem kd_at {H:Hp} {cs:List (List Int)} {ys:List V} (pr:Paired (fun c y=>PV Z.Part c y H) cs ys) {x:Int} (h0:0 ≤ x) (h1:x < cs.length):∃ b,atI ys x = some (.ref b) ∧ PartAt Z.Part H b (cs.getD x.toNat []) ∧ cs[x.toNat]? = some (cs.getD x.toNat []):=by
  have hlt:x.toNat < cs.length:=by omega
  have hc:cs[x.toNat]? = some (cs.getD x.toNat []):=by rw [List.getD_eq_getElem?_getD,List.getElem?_eq_getElem hlt];rfl
  obtain ⟨y,hy,b,rfl,hp⟩:=L2.paired_get pr hc
  exact ⟨b,at_of (j:=x.toNat) (by omega) hy,hp,hc⟩
theorem refs_len {c:List Int} (g:Jm.Good c):(Jm.refsOf c).length ≤ 4:=by
  unfold Jm.refsOf
  split
  · rw [List.length_take];omega
  · split
    · rw [List.length_take];omega
    · exact Nat.zero_le _
theorem ok_Part_init (F:Fun K "__init__" "Part.__init__" s_Part_init f fd) (T:Txt K mg Z):FnOk P w K mg base CX0 1 f fd ["self", "numbers"] (spInit K Z.Part):=by
  refine F.ok sc_Part_init (fun vs H Q E h => ?_) (fun cdv A outer s H vs Q E hr h => ?_)
  · obtain ⟨p,dx,a,c,rfl,_⟩:=h
    rfl
  · obtain ⟨p,dx,a,c,rfl,hp,ha,hc,k⟩:=h
    refine ⟨_,(pss_cons (ps_fldK K (pv 0) (pe_ix (ix_listK K) (pv 1) pe_int (fun _ _=>rfl)) rfl)
      (pss_cons (ps_fldK K (pv 0) (pe_slice (sl_listK K) (pv 1) (po_some pe_int) (po_some pe_int)) rfl)
      (pss_cons (ps_fldK K (pv 0) (pe_ix (ix_listK K) (pv 1) pe_int (fun _ _=>rfl)) rfl)
      (pss_one (ps_fldK K (pv 0) (pe_ix (ix_listK K) (pv 1) pe_int (fun _ _=>rfl)) rfl))))), ?_⟩
    obtain ⟨k0,a0,b0,d0,e0,t0,q0,rfl⟩:=Jm.seven hc
    refine ⟨_,rfl,a,_,_,_,rfl,rfl,ha,at_of (j:=0) rfl rfl,_,rfl,p,Z.Part,dx,_,rfl,hp,T.cl_Part,T.n_Part_kind,(by show 0 < 1000;decide), ?_⟩
    have ha1:=sqL_ins (u := .ins Z.Part dx (putF "kind" (.int k0) [])) ha hp
    refine ⟨_,rfl,_,rfl,_,rfl,a,_,rfl,ha1,fun l hl=>⟨_,rfl,p,Z.Part,dx,_,rfl,(upd_ne (ne_of_none upd_same hl)).trans upd_same,T.cl_Part,T.n_Part_places,(by show 1 < 1000;decide), ?_⟩⟩
    have nlp:l ≠ p:=fun e=>by rw [e,upd_same] at hl;cases hl
    have hlH:H l = none:=by rw [upd_ne nlp] at hl;exact hl
    have ha2:SqL K (upd (upd H p (.ins Z.Part dx (putF "kind" (.int k0) []))) l (.lst (cutV (([k0,a0,b0,d0,e0,t0,q0] : List Int).map V.int) (some 1) (some 5)))) a (([k0,a0,b0,d0,e0,t0,q0] : List Int).map V.int):=(same_new hl).seq ha1
    have ha3:=sqL_ins (p:=p) (u := .ins Z.Part dx (putF "places" (.ref l) (putF "kind" (.int k0) []))) ha2 ((upd_ne (ne_of_none upd_same hl)).trans upd_same)
    refine ⟨_,rfl,a,_,_,_,rfl,rfl,ha3,at_of (j:=5) rfl rfl,_,rfl,p,Z.Part,dx,_,rfl,upd_same,T.cl_Part,T.n_Part_top,(by show 2 < 1000;decide), ?_⟩
    have ha4:=sqL_ins (p:=p) (u := .ins Z.Part dx (putF "top" (.int t0) (putF "places" (.ref l) (putF "kind" (.int k0) [])))) ha3 upd_same
    refine ⟨_,rfl,a,_,_,_,rfl,rfl,ha4,at_of (j:=6) rfl rfl,_,rfl,p,Z.Part,dx,_,rfl,upd_same,T.cl_Part,T.n_Part_bottom,(by show 3 < 1000;decide), ?_⟩
    refine k _ l upd_same hlH ?_ fun b o e hb => ?_
    · rw [upd_ne nlp,upd_ne nlp,upd_ne nlp,upd_same]
      all_goals rfl
    · have hbl:b ≠ l:=ne_of_none e hlH
      rw [upd_ne hb,upd_ne hb,upd_ne hb,upd_ne hbl,upd_ne hb]
      exact e
theorem ok_parts_of (F:Fun K "parts_of" "parts_of" s_parts_of f fd) (T:Txt K mg Z) (m_Part:Mak P w K mg base 1 "Part" Z.Part ["self", "numbers"] (spInit K Z.Part)):FnOk P w K mg base CX0 3 f fd ["net"] (spParts K Z.Part):=by
  refine F.ok sc_parts_of (fun vs H Q E h => ?_) (fun cdv A outer s H vs Q E hr h => ?_)
  · obtain ⟨a,ns,n,rfl,_⟩:=h
    rfl
  · obtain ⟨a,ns,n,rfl,ha,hlen,hn,k⟩:=h
    obtain ⟨pl1,pl2⟩:=Jm.parts_len hlen
    refine ⟨_,(pss_one (ps_ret (pe_lc (own:=[("start",1)]) rfl sc_parts_of.nd (pi_range3 rfl T.b_range (pa_cons pe_int (pa_cons (pe_callB (call_lenK K) rfl T.b_len boot_len (pa_cons (pv 0) pa_nil)) (pa_cons (pe_gi T.g_PART_LENGTH) pa_nil)))) (blkOk_by (by (show L2.blkC ["net", "start"] (defScope s_parts_of) _ _ = true);decide +kernel)) (fun _ _ _ _ _=>(pg_name (i:=1) sc_parts_of.nd rfl (Or.inl rfl))) (fun _ _ _ _ _=>pts_nil) (fun _ _ _ _ _=>(pe_mak m_Part hr (pa_cons (pe_slice (sl_listK K) (pv 0) (po_some (pv 1)) (po_some (pe_op op_add (pv 1) (pe_gi T.g_PART_LENGTH)))) pa_nil)))))), ?_⟩
    refine ⟨_,rfl,a,_,rfl, .inl ha,_,_,_,n,rfl,rgc7 hn (by rw [List.length_map,hlen];omega),fun D hD => ?_⟩
    refine lc_rngC (cs:=Jm.parts ns) (fun _=>true) (fun c y H=>PV Z.Part c y H) PV.same (small_line hn) pl1 hD (fun i c H1 acc Ny Nx hi hc s1 hD1 h1 h2 => ?_) (fun H1 ys s1 hD1 pr => ?_)
    · have e:=Jm.parts_get hlen hi
      have ec:c = (ns.drop (1 + 7 * i)).take 7:=Option.some.inj (hc.symm.trans e)
      have hc7:c.length = 7:=pl2 c (List.mem_of_getElem? hc)
      refine ⟨rfl, ?_⟩
      refine ⟨_,rfl,_,rfl,_,rfl,_,rfl,_,_,rfl,rfl,_,rfl,a,_,rfl,s1.seq ha,fun l hl => ?_⟩
      intro x dx nx ndx nex
      have sl:=same_new (u := .lst (cutV (ns.map V.int) (some (1 + (i:Nat) * 7)) (some (1 + (i:Nat) * 7 + 7)))) hl
      have ecut:cutV (ns.map V.int) (some (1 + (i:Nat) * 7)) (some (1 + (i:Nat) * 7 + 7)) = c.map V.int:=by
        have e2:(1 + (i:Nat) * 7 + 7:Int) = ((1 + 7 * i + 7:Nat):Int):=by omega
        rw [e2,show (1 + (i:Nat) * 7:Int) = ((1 + 7 * i:Nat):Int) by omega,cut_nat,ec,List.map_take,List.map_drop]
        congr 1
        omega
      have hlx:l ≠ x:=fun q=>by rw [← q,upd_same] at nx;cases nx
      have hldx:l ≠ dx:=fun q=>by rw [← q,upd_same] at ndx;cases ndx
      have hDx:x ≠ D:=fun q=>by rw [q] at nx;rw [sl _ _ hD1] at nx;cases nx
      have hDd:dx ≠ D:=fun q=>by rw [q] at ndx;rw [sl _ _ hD1] at ndx;cases ndx
      refine ⟨x,dx,l,c,rfl,upd_same,SqL.of (by rw [upd_ne hlx,upd_ne hldx,upd_same,ecut]),hc7,fun H4 l4 p4 f4 g4 k4=>⟨rfl,h1 rfl _ H4 ?_ ?_⟩⟩
      · exact sl.trans (Same.made nx ndx k4)
      · have hD4:l4 ≠ D:=fun q=>by
          rw [q,upd_ne (Ne.symm hDx),upd_ne (Ne.symm hDd),sl _ _ hD1] at f4
          cases f4
        exact ⟨x,rfl,dx,l4,by rw [hid_ne hDx];exact p4,by rw [hid_ne hD4];exact g4⟩
    · rw [filter_tt] at pr
      exact k H1 D s1 ⟨ys,SqL.of hD1,pr⟩
theorem ok_nodes_of (F:Fun K "nodes_of" "nodes_of" s_nodes_of f fd) (T:Txt K mg Z):FnOk P w K mg base CX0 1 f fd ["part"] (spPtL Z.Part Jm.Good Jm.nodesOf):=by
  refine F.ok sc_nodes_of (fun vs H Q E h => ?_) (fun cdv A outer s H vs Q E hr h => ?_)
  · obtain ⟨a,c,rfl,_⟩:=h
    rfl
  · obtain ⟨a,c,rfl,hp,g,k⟩:=h
    refine ⟨_,(pss_one (ps_ret (pe_slice (sl_listK K) (pe_fldK K (pv 0) rfl) po_none (po_some (pe_ix (ix_tupK K) (pe_gr T.g_NODE_COUNTS) (pe_fldK K (pv 0) rfl) (fun _ _=>rfl)))))), ?_⟩
    walk_at "go"
    refine rd_places T rfl hp fun l hl => ?_
    walk_at "go"
    refine rd_kind T rfl hp ⟨Z.NODE_COUNTS,_,_,_,rfl,rfl,T.s_NODE_COUNTS H,count_at g (by decide),_,rfl,l,_,rfl,SqL.of hl,fun p hn=>k _ p (same_new hn) ?_⟩
    rw [upd_same]
    refine congrArg (fun z=>some (HO.lst z)) ((cut_toI (nodeC_nn _)).trans ?_)
    unfold Jm.nodesOf
    rw [List.map_take]
    all_goals rfl
theorem ok_references_of (F:Fun K "references_of" "references_of" s_references_of f fd) (T:Txt K mg Z):FnOk P w K mg base CX0 1 f fd ["part"] (spPtL Z.Part Jm.Good Jm.refsOf):=by
  refine F.ok sc_references_of (fun vs H Q E h => ?_) (fun cdv A outer s H vs Q E hr h => ?_)
  · obtain ⟨a,c,rfl,_⟩:=h
    rfl
  · obtain ⟨a,c,rfl,hp,g,k⟩:=h
    refine ⟨_,(pss_cons (ps_if (pt_cmp (pc_eqI (pe_fldK K (pv 0) rfl) (pe_gi T.g_MUTUAL))) (pss_one (ps_ret (pe_slice (sl_listK K) (pe_fldK K (pv 0) rfl) po_none (po_some pe_int)))) pss_nil)
      (pss_cons (ps_if (pt_cmpR (op_inK K) (pe_fldK K (pv 0) rfl) (pe_tup (pa_cons (pe_gi T.g_VOLTAGE_BY_CURRENT) (pa_cons (pe_gi T.g_CURRENT_BY_CURRENT) pa_nil))) (by with_unfolding_all rfl)) (pss_one (ps_ret (pe_slice (sl_listK K) (pe_fldK K (pv 0) rfl) (po_some pe_int) (po_some pe_int)))) pss_nil)
      (pss_one (ps_ret (pe_lst pa_nil))))), ?_⟩
    walk_at "go"
    refine rd_kind T rfl hp ⟨_,_,rfl,rfl,_,rfl,ite_b (fun h3 => ?_) (fun h3 => ?_)⟩
    · walk_at "go"
      refine rd_places T rfl hp fun l hl => ?_
      refine ⟨_,rfl,l,_,rfl,SqL.of hl,fun p hn=>k _ p (same_new hn) ?_⟩
      rw [upd_same]
      have e:Jm.refsOf c = (Jm.pl c).take 2:=by unfold Jm.refsOf;rw [if_pos h3]
      rw [e,List.map_take]
      exact congrArg (fun z=>some (HO.lst z)) (cut_to 2)
    · walk_at "go"
      refine rd_kind T rfl hp ⟨(by show 2 ≤ sizeLine;decide),fun p hn => ?_⟩
      have s1:=same_new (u := .tup [.int 8, .int 9]) hn
      refine ⟨p,_,rfl, .inr (SqT.of upd_same),rfl,rfl,_,rfl, ?_⟩
      have ein:inV (.int (Jm.kd c)) [.int 8, .int 9] = decide (Jm.kd c = 8 ∨ Jm.kd c = 9):=by
        rw [Bool.eq_iff_iff]
        simp [inV,eqV]
        omega
      rw [show (if false = true then !inV (.int (Jm.kd c)) [.int 8, .int 9] else inV (.int (Jm.kd c)) [.int 8, .int 9]) = decide (Jm.kd c = 8 ∨ Jm.kd c = 9) from ein]
      refine ite_b (fun h8 => ?_) (fun h8 => ?_)
      · walk_at "go"
        refine rd_places T rfl (hp.same s1) fun l hl => ?_
        refine ⟨_,rfl,_,rfl,l,_,rfl,SqL.of hl,fun q hq=>k _ q (s1.trans (same_new hq)) ?_⟩
        rw [upd_same]
        have e:Jm.refsOf c = ((Jm.pl c).drop 2).take 1:=by unfold Jm.refsOf;rw [if_neg h3,if_pos h8]
        rw [e,List.map_take,List.map_drop]
        exact congrArg (fun z=>some (HO.lst z)) (cut_nat 2 3)
      · refine ⟨Nat.zero_le _,fun q hq=>k _ q (s1.trans (same_new hq)) ?_⟩
        rw [upd_same]
        have e:Jm.refsOf c = []:=by unfold Jm.refsOf;rw [if_neg h3,if_neg h8]
        rw [e]
        rfl
theorem ok_diode_count (F:Fun K "diode_count" "diode_count" s_diode_count f fd) (T:Txt K mg Z):FnOk P w K mg base CX0 1 f fd ["parts"] (spPs K Z.Part (fun _=>True) fun cs=>(Jm.diodes cs:Int)):=by
  refine F.ok sc_diode_count (fun vs H Q E h => ?_) (fun cdv A outer s H vs Q E hr h => ?_)
  · obtain ⟨l,cs,rfl,_⟩:=h
    rfl
  · obtain ⟨l,cs,rfl,⟨ys,hy,pr⟩,_,hn,k⟩:=h
    have hl:=pr.length
    dsimp only at k
    refine ⟨_,(pss_one (ps_ret (pe_callB (call_lenK K) rfl T.b_len boot_len (pa_cons (pe_lc (own:=[("part",1)]) rfl sc_diode_count.nd (pi_listK K (pv 0)) (blkOk_by (by (show L2.blkC ["parts", "part"] (defScope s_diode_count) _ _ = true);decide +kernel)) (fun _ _ _ _ _=>(pg_name (i:=1) sc_diode_count.nd rfl (Or.inl rfl))) (fun _ _ _ _ _=>(pts_one (pt_cmp (pc_eqI (pe_fldK K (pv 1) rfl) (pe_gi T.g_DIODE))))) (fun _ _ _ _ _=>(pv 1))) pa_nil)))), ?_⟩
    refine ⟨_,rfl,l,rfl,⟨_,hy⟩,fun D hD => ?_⟩
    refine lc_lst (cs:=cs) (fun c=>decide (Jm.kd c = 13)) (fun c y H=>True) (fun _ _ _ _ _ _=>trivial) hy (by rw [← hl];exact small_line hn) hl hD (fun i x c H1 acc Ny Nx hx hc s1 hD1 h1 h2 => ?_) (fun H1 zs s1 hD1 pz => ?_)
    · obtain ⟨y,hy2,a,rfl,hp⟩:=L2.paired_get pr hc
      have e:x = .ref a:=Option.some.inj (hx.symm.trans hy2)
      subst e
      refine ⟨rfl, ?_⟩
      walk_at "go"
      refine rd_kind T rfl (hp.same s1) ⟨_,_,rfl,rfl,_,rfl,ite_b (fun h3 => ?_) (fun h3 => ?_)⟩
      · exact ⟨_,rfl,h1 (decide_eq_true h3) _ _ (Same.refl _) trivial⟩
      · exact h2 (decide_eq_false h3) _ (Same.refl _)
    · refine ⟨D,_,rfl, .inl (SqL.of hD1), ?_⟩
      have e:=pz.length
      rw [← e]
      exact k _ s1
theorem ok_is_part (F:Fun K "is_part" "is_part" s_is_part f fd) (T:Txt K mg Z):FnOk P w K mg base CX0 1 f fd ["part"] (spPt Z.Part (fun c=>c.length = 7) fun c => .bl (Jm.isPart c)):=by
  refine F.ok sc_is_part (fun vs H Q E h => ?_) (fun cdv A outer s H vs Q E hr h => ?_)
  · obtain ⟨a,c,rfl,_⟩:=h
    rfl
  · obtain ⟨a,c,rfl,hp,hc7,k⟩:=h
    dsimp only at k
    refine ⟨_,(pss_one (ps_ret (pe_and (pe_chain op_le op_le pe_int (pe_fldK K (pv 0) rfl) (pe_gi T.g_LAST_KIND)) (pe_and (pe_callB (cr_allK K rfl) rfl T.b_all boot_all (pa_cons (pe_lc (own:=[("place",1)]) rfl sc_is_part.nd (pi_listK K (pe_fldK K (pv 0) rfl)) (blkOk_by (by (show L2.blkC ["part", "place"] (defScope s_is_part) _ _ = true);decide +kernel)) (fun _ _ _ _ _=>(pg_name (i:=1) sc_is_part.nd rfl (Or.inl rfl))) (fun _ _ _ _ _=>pts_nil) (fun _ _ _ _ _=>(pe_chain op_le op_le pe_int (pv 1) (pe_gi T.g_MOST_PLACE)))) pa_nil)) (pe_and (pe_chain op_le op_le (pe_un un_neg (pe_gi T.g_MOST_TOP)) (pe_fldK K (pv 0) rfl) (pe_gi T.g_MOST_TOP)) (pe_one (pe_chain op_le op_le pe_int (pe_fldK K (pv 0) rfl) (pe_gi T.g_MOST_BOTTOM)))))))), ?_⟩
    unfold Jm.isPart at k
    walk_at "go"
    refine rd_kind T rfl hp ⟨_,_,rfl,rfl,_,rfl, ?_⟩
    refine ite_b (fun h1=>⟨_,_,rfl,rfl,_,rfl, ?_⟩) (fun h1=>⟨_,rfl,iteF ?_⟩)
    rotate_left
    · rw [decide_eq_false h1] at k
      exact k _ (Same.refl _)
    rw [decide_eq_true h1,Bool.true_and] at k
    refine ite_b (fun h2 => ?_) (fun h2 => ?_)
    rotate_left
    · rw [decide_eq_false h2] at k
      exact k _ (Same.refl _)
    rw [decide_eq_true h2,Bool.true_and] at k
    walk_at "go"
    walk_at "lc"
    refine rd_places T rfl hp fun l hl=>⟨l,rfl,⟨_,SqL.of hl⟩,fun D hD => ?_⟩
    have hpl:(Jm.pl c).length ≤ 1000:=by unfold Jm.pl;rw [List.length_take];omega
    refine lc_lst (cs:=Jm.pl c) (fun _=>true) (fun v y H=>y = V.bl (decide (0 ≤ v) && decide (v ≤ 63))) (fun _ _ _ _ _ h=>h) (SqL.of hl) (by rw [List.length_map];exact small_line hpl) (by rw [List.length_map]) hD (fun i x v H1 acc Ny Nx hx hv s1 hD1 h1 h2 => ?_) (fun H1 zs s1 hD1 pz => ?_)
    · rw [List.getElem?_map,hv] at hx
      have e:V.int v = x:=Option.some.inj hx
      subst e
      refine ⟨rfl, ?_⟩
      refine ⟨_,rfl,_,_,rfl,rfl,_,rfl,ite_b (fun g1=>⟨_,_,rfl,rfl, ?_⟩) (fun g1 => ?_)⟩
      · exact h1 rfl _ _ (Same.refl _) (by rw [decide_eq_true g1,Bool.true_and])
      · exact h1 rfl _ _ (Same.refl _) (by rw [decide_eq_false g1,Bool.false_and])
    · rw [filter_tt] at pz
      have e:=paired_eq pz
      refine ⟨D,(Jm.pl c).map fun v=>(decide (0 ≤ v) && decide (v ≤ 63)),rfl,SqL.of (by rw [hD1,e,List.map_map];all_goals rfl),_,rfl, ?_⟩
      have ea:((Jm.pl c).map fun v=>(decide (0 ≤ v) && decide (v ≤ 63))).any id = _:=rfl
      have eall:((Jm.pl c).map fun v=>(decide (0 ≤ v) && decide (v ≤ 63))).all id = (Jm.pl c).all fun v=>(decide (0 ≤ v) && decide (v ≤ 63)):=by rw [List.all_map];rfl
      rw [eall]
      refine ite_v (fun g => ?_) (fun g => ?_)
      rotate_left
      · rw [g] at k
        exact k _ s1
      rw [g,Bool.true_and] at k
      refine ⟨_,rfl, ?_⟩
      walk_at "go"
      refine rd_top T rfl (hp.same s1) ⟨_,_,rfl,rfl,_,rfl, ?_⟩
      refine ite_b (fun g1=>⟨_,_,rfl,rfl,_,rfl, ?_⟩) (fun g1=>⟨_,rfl,iteF ?_⟩)
      rotate_left
      · rw [decide_eq_false g1] at k
        exact k _ s1
      rw [decide_eq_true g1,Bool.true_and] at k
      refine ite_b (fun g2 => ?_) (fun g2 => ?_)
      rotate_left
      · rw [decide_eq_false g2] at k
        exact k _ s1
      rw [decide_eq_true g2,Bool.true_and] at k
      walk_at "go"
      refine rd_bottom T rfl (hp.same s1) ⟨_,_,rfl,rfl,_,rfl, ?_⟩
      refine ite_b (fun g3=>⟨_,_,rfl,rfl, ?_⟩) (fun g3 => ?_)
      · rw [decide_eq_true g3,Bool.true_and] at k
        exact k _ s1
      · rw [decide_eq_false g3] at k
        exact k _ s1
theorem ok_is_row (F:Fun K "is_row" "is_row" s_is_row f fd) (T:Txt K mg Z) (c_parts_of:Cal P w K mg base 3 "parts_of" ["net"] (spParts K Z.Part)) (c_diode_count:Cal P w K mg base 1 "diode_count" ["parts"] (spPs K Z.Part (fun _=>True) fun cs=>(Jm.diodes cs:Int)))
    (c_is_part:Cal P w K mg base 1 "is_part" ["part"] (spPt Z.Part (fun c=>c.length = 7) fun c => .bl (Jm.isPart c))):FnOk P w K mg base CX0 4 f fd ["net"] (spRow K fun ns => .bl (Jm.isRow ns)):=by
  refine F.ok sc_is_row (fun vs H Q E h => ?_) (fun cdv A outer s H vs Q E hr h => ?_)
  · obtain ⟨a,ns,rfl,_⟩:=h
    rfl
  · obtain ⟨a,ns,rfl,ha,hmost,k⟩:=h
    dsimp only at k
    refine ⟨_,(pss_cons (ps_if (PW.pt (pw_or (pt_cmp (pc_neI (pe_op op_mod (pe_callB (call_lenK K) rfl T.b_len boot_len (pa_cons (pv 0) pa_nil)) (pe_gi T.g_PART_LENGTH)) pe_int)) (pw_or1 (pt_not (pt_chain op_le op_le pe_int (pe_ix (ix_listK K) (pv 0) pe_int (fun _ _=>rfl)) (pe_gi T.g_MOST_NODES)))))) (pss_one (ps_ret pe_bl)) pss_nil)
      (pss_cons (ps_set (i:=1) sc_is_row.nd rfl (Or.inl rfl) (pe_cal c_parts_of hr (pa_cons (pv 0) pa_nil)))
      (pss_cons (ps_if (PW.pt (pw_or (pt_cmp (pc_gt (pe_callB (call_lenK K) rfl T.b_len boot_len (pa_cons (pv 1) pa_nil)) (pe_gi T.g_MOST_PARTS))) (pw_or1 (pt_cmp (pc_gt (pe_cal c_diode_count hr (pa_cons (pv 1) pa_nil)) (pe_gi T.g_MOST_DIODES)))))) (pss_one (ps_ret pe_bl)) pss_nil)
      (pss_one (ps_ret (pe_callB (cr_allK K rfl) rfl T.b_all boot_all (pa_cons (pe_lc (own:=[("part",2)]) rfl sc_is_row.nd (pi_listK K (pv 1)) (blkOk_by (by (show L2.blkC ["net", "parts", "part"] (defScope s_is_row) _ _ = true);decide +kernel)) (fun _ _ _ _ _=>(pg_name (i:=2) sc_is_row.nd rfl (Or.inl rfl))) (fun _ _ _ _ _=>pts_nil) (fun _ _ _ _ _=>(pe_cal c_is_part hr (pa_cons (pv 2) pa_nil)))) pa_nil))))))), ?_⟩
    refine ⟨_,rfl,a,_,rfl, .inl ha,_,_,rfl,rfl,(by show (0:Int) < 7;decide),_,_,rfl,rfl,_,rfl, ?_⟩
    have el:((ns.map V.int).length:Int) % 7 = 1 ↔ ns.length % 7 = 1:=by rw [List.length_map];omega
    refine ite_n (fun h=>iteT ?_) (fun h => ?_)
    · have h7:¬ ns.length % 7 = 1:=fun z=>h (el.mpr z)
      have e:Jm.isRow ns = false:=by unfold Jm.isRow;rw [if_pos (Or.inl h7)]
      rw [e] at k
      exact k _ (Same.refl _)
    have h7:ns.length % 7 = 1:=el.mp h
    obtain ⟨x,r,rfl⟩ : ∃ x r,ns = x :: r:=by
      cases ns with
      | nil=>simp at h7
      | cons x r=>exact ⟨x,r,rfl⟩
    have bad:¬ (1 ≤ x ∧ x ≤ 8) → Jm.isRow (x :: r) = false:=fun z=>by unfold Jm.isRow;exact if_pos (Or.inr z)
    refine ⟨_,rfl,a,_,_,_,rfl,rfl,ha,at_of (j:=0) rfl rfl,_,_,rfl,rfl,_,rfl,ite_b (fun g1=>⟨_,_,rfl,rfl,_,rfl, ?_⟩) (fun g1=>⟨_,rfl,iteT ?_⟩)⟩
    rotate_left
    · rw [bad fun z=>g1 z.1] at k
      exact k _ (Same.refl _)
    refine ite_n (fun g2' => ?_) (fun g2' => ?_)
    · rw [bad fun z=>g2' z.2] at k
      exact k _ (Same.refl _)
    obtain ⟨n,hn⟩ : ∃ n,(x :: r).length = 7 * n + 1:=⟨(x :: r).length / 7,by omega⟩
    have hn1:=parts_n hn hmost
    obtain ⟨pl1,pl2⟩:=Jm.parts_len hn
    refine ⟨_,rfl,a,_,n,rfl,ha,hn,hn1,fun H1 l s1 hps => ?_⟩
    have e2:Jm.isRow (x :: r) = if 14 < (Jm.parts (x :: r)).length ∨ 5 < Jm.diodes (Jm.parts (x :: r)) then false else (Jm.parts (x :: r)).all Jm.isPart:=by
      unfold Jm.isRow
      exact if_neg (fun z=>z.elim (fun y=>y h7) (fun y=>y ⟨g1,g2'⟩))
    generalize hcs:Jm.parts (x :: r) = cs at *
    obtain ⟨ys,hy,pr⟩:=id hps
    have hl:=pr.length
    have hcn:cs.length ≤ 1000:=by omega
    refine ⟨_,rfl,l,_,rfl, .inl hy,_,_,rfl,rfl,_,rfl,ite_b (fun g3=>iteT ?_) (fun g3 => ?_)⟩
    · rw [e2,if_pos (Or.inl (by omega))] at k
      exact k _ s1
    refine ⟨_,rfl,l,cs,rfl,hps,fun _ _=>trivial,hcn,fun H2 s2=>⟨_,_,rfl,rfl,_,rfl,ite_b (fun g4 => ?_) (fun g4 => ?_)⟩⟩
    · have g4':5 < Jm.diodes cs:=by
        have z:(5:Int) < (Jm.diodes cs:Int):=g4
        omega
      rw [e2,if_pos (Or.inr g4')] at k
      exact k _ (s1.trans s2)
    have g4':¬ 5 < Jm.diodes cs:=fun y=>g4 (show (5:Int) < (Jm.diodes cs:Int) by omega)
    rw [e2,if_neg (by omega)] at k
    obtain ⟨ys',hy',pr'⟩:=hps.same s2
    have hl':=pr'.length
    refine ⟨_,rfl,l,rfl,⟨_,hy'⟩,fun D hD => ?_⟩
    refine lc_lst (cs:=cs) (fun _=>true) (fun c y H=>y = V.bl (Jm.isPart c)) (fun _ _ _ _ _ h=>h) hy' (by rw [← hl'];exact small_line hcn) hl' hD (fun i z c H3 acc Ny Nx hx hc s3 hD1 h1 h2 => ?_) (fun H3 zs s3 hD1 pz => ?_)
    · obtain ⟨y,hy2,b,rfl,hp⟩:=L2.paired_get pr' hc
      have e:z = .ref b:=Option.some.inj (hx.symm.trans hy2)
      subst e
      refine ⟨rfl, ?_⟩
      exact ⟨_,rfl,b,c,rfl,hp.same s3,pl2 c (List.mem_of_getElem? hc),fun H4 s4=>h1 rfl _ _ s4 rfl⟩
    · rw [filter_tt] at pz
      have e:=paired_eq pz
      refine ⟨D,cs.map Jm.isPart,rfl,SqL.of (by rw [hD1,e,List.map_map];all_goals rfl), ?_⟩
      have eall:(cs.map Jm.isPart).all id = cs.all Jm.isPart:=by rw [List.all_map];rfl
      rw [eall]
      exact k _ ((s1.trans s2).trans s3)
theorem ok_may_have_number (F:Fun K "may_have_number" "may_have_number" s_may_have_number f fd) (T:Txt K mg Z):FnOk P w K mg base CX0 1 f fd ["part"] (spPt Z.Part Jm.Good fun c => .bl (Jm.mayNum c)):=by
  refine F.ok sc_may_have_number (fun vs H Q E h => ?_) (fun cdv A outer s H vs Q E hr h => ?_)
  · obtain ⟨a,c,rfl,_⟩:=h
    rfl
  · obtain ⟨a,c,rfl,hp,g,k⟩:=h
    dsimp only at k
    refine ⟨_,(pss_cons (ps_if (pt_cmpR (op_inK K) (pe_fldK K (pv 0) rfl) (pe_tup (pa_cons (pe_gi T.g_RESISTOR) (pa_cons (pe_gi T.g_CAPACITOR) (pa_cons (pe_gi T.g_INDUCTOR) pa_nil)))) (by with_unfolding_all rfl)) (pss_one (ps_ret (pe_cmp (pc_gt (pe_fldK K (pv 0) rfl) pe_int)))) pss_nil)
      (pss_cons (ps_if (pt_cmp (pc_eqI (pe_fldK K (pv 0) rfl) (pe_gi T.g_TRANSFORMER))) (pss_one (ps_ret (pe_cmp (pc_neI (pe_fldK K (pv 0) rfl) pe_int)))) pss_nil)
      (pss_cons (ps_if (pt_cmp (pc_eqI (pe_fldK K (pv 0) rfl) (pe_gi T.g_AMPLIFIER))) (pss_one (ps_ret (pe_cmp (pc_eqI (pe_fldK K (pv 0) rfl) pe_int)))) pss_nil)
      (pss_cons (ps_if (pt_cmp (pc_eqI (pe_fldK K (pv 0) rfl) (pe_gi T.g_SWITCH))) (pss_one (ps_ret (pe_cmpR (op_inK K) (pe_fldK K (pv 0) rfl) (pe_tup (pa_cons pe_int (pa_cons (pe_fldK K (pv 0) rfl) pa_nil))) (by with_unfolding_all rfl)))) pss_nil)
      (pss_cons (ps_if (pt_cmp (pc_eqI (pe_fldK K (pv 0) rfl) (pe_gi T.g_DIODE))) (pss_one (ps_ret (pe_cmp (pc_ge (pe_fldK K (pv 0) rfl) pe_int)))) pss_nil)
      (pss_one (ps_ret pe_bl))))))), ?_⟩
    unfold Jm.mayNum at k
    walk_at "go"
    refine rd_kind T rfl hp ⟨(by show 3 ≤ sizeLine;decide),fun p hn => ?_⟩
    have s1:=same_new (u := .tup [.int 0, .int 1, .int 2]) hn
    refine ⟨p,_,rfl, .inr (SqT.of upd_same),rfl,rfl,_,rfl, ?_⟩
    have ein:inV (.int (Jm.kd c)) [.int 0, .int 1, .int 2] = decide (Jm.kd c = 0 ∨ Jm.kd c = 1 ∨ Jm.kd c = 2):=by
      rw [Bool.eq_iff_iff]
      simp [inV,eqV]
      omega
    rw [show (if false = true then !inV (.int (Jm.kd c)) [.int 0, .int 1, .int 2] else inV (.int (Jm.kd c)) [.int 0, .int 1, .int 2]) = decide (Jm.kd c = 0 ∨ Jm.kd c = 1 ∨ Jm.kd c = 2) from ein]
    have hp1:=hp.same s1
    refine ite_b (fun h0 => ?_) (fun h0 => ?_)
    · rw [if_pos h0] at k
      walk_at "go"
      exact rd_top T rfl hp1 ⟨_,_,rfl,rfl,k _ s1⟩
    rw [if_neg h0] at k
    walk_at "go"
    refine rd_kind T rfl hp1 ⟨_,_,rfl,rfl,_,rfl,ite_b (fun h1 => ?_) (fun h1 => ?_)⟩
    · rw [if_pos h1] at k
      walk_at "go"
      exact rd_top T rfl hp1 ⟨_,_,rfl,rfl,k _ s1⟩
    rw [if_neg h1] at k
    walk_at "go"
    refine rd_kind T rfl hp1 ⟨_,_,rfl,rfl,_,rfl,ite_b (fun h2 => ?_) (fun h2 => ?_)⟩
    · rw [if_pos h2] at k
      walk_at "go"
      exact rd_top T rfl hp1 ⟨_,_,rfl,rfl,k _ s1⟩
    rw [if_neg h2] at k
    walk_at "go"
    refine rd_kind T rfl hp1 ⟨_,_,rfl,rfl,_,rfl,ite_b (fun h3 => ?_) (fun h3 => ?_)⟩
    · rw [if_pos h3] at k
      walk_at "go"
      refine rd_top T rfl hp1 (rd_bottom T (by rfl) hp1 ⟨(by show 2 ≤ sizeLine;decide),fun q hq => ?_⟩)
      refine ⟨q,_,rfl, .inr (SqT.of upd_same),rfl,rfl, ?_⟩
      have ein2:inV (.int (Jm.tp c)) [.int 0, .int (Jm.bt c)] = decide (Jm.tp c = 0 ∨ Jm.tp c = Jm.bt c):=by
        rw [Bool.eq_iff_iff]
        simp [inV,eqV]
        omega
      rw [show (if false = true then !inV (.int (Jm.tp c)) [.int 0, .int (Jm.bt c)] else inV (.int (Jm.tp c)) [.int 0, .int (Jm.bt c)]) = decide (Jm.tp c = 0 ∨ Jm.tp c = Jm.bt c) from ein2]
      exact k _ (s1.trans (same_new hq))
    rw [if_neg h3] at k
    walk_at "go"
    refine rd_kind T rfl hp1 ⟨_,_,rfl,rfl,_,rfl,ite_b (fun h4 => ?_) (fun h4 => ?_)⟩
    · rw [if_pos h4] at k
      walk_at "go"
      exact rd_top T rfl hp1 ⟨_,_,rfl,rfl,k _ s1⟩
    rw [if_neg h4] at k
    exact k _ s1
theorem ok_is_new_pair (F:Fun K "is_new_pair" "is_new_pair" s_is_new_pair f fd) (T:Txt K mg Z) (c_references_of:Cal P w K mg base 1 "references_of" ["part"] (spPtL Z.Part Jm.Good Jm.refsOf)):FnOk P w K mg base CX0 2 f fd ["pair", "before"] (spPair K Z.Part):=by
  refine F.ok sc_is_new_pair (fun vs H Q E h => ?_) (fun cdv A outer s H vs Q E hr h => ?_)
  · obtain ⟨a,l,u,v,cs,rfl,_⟩:=h
    rfl
  · obtain ⟨a,l,u,v,cs,rfl,ha,⟨ys,hy,pr⟩,hg,hn,k⟩:=h
    have hl:=pr.length
    refine ⟨_,(pss_cons (ps_setLc (own:=[("part",3)]) (i:=2) rfl sc_is_new_pair.nd rfl rfl (sw_true rfl rfl rfl rfl) (pi_listK K (pv 1)) (blkOk_by (by (show L2.blkC ["pair", "before", "taken", "part"] (defScope s_is_new_pair) _ _ = true);decide +kernel)) (fun _ _ _ _ _=>(pg_name (i:=3) sc_is_new_pair.nd rfl (Or.inl rfl))) (fun _ _ _ _ _=>(pts_one (pt_cmp (pc_eqI (pe_fldK K (pv 3) rfl) (pe_gi T.g_MUTUAL))))) (fun _ _ _ _ _=>(pe_callB (cr_sortedK K) rfl T.b_sorted boot_sorted (pa_cons (pe_cal c_references_of hr (pa_cons (pv 3) pa_nil)) pa_nil))))
      (pss_one (ps_ret (pe_and (pe_cmp (pc_neI (pe_ix (ix_listK K) (pv 0) pe_int (fun _ _=>rfl)) (pe_ix (ix_listK K) (pv 0) pe_int (fun _ _=>rfl)))) (pe_one (pe_cmpR (op_notInDK K (units65 hr)) (pe_callB (cr_sortedK K) rfl T.b_sorted boot_sorted (pa_cons (pv 0) pa_nil)) (pv 2) (by with_unfolding_all rfl))))))), ?_⟩
    refine ⟨_,rfl,l,rfl,⟨_,hy⟩,fun D hD => ?_⟩
    refine lc_lst (cs:=cs) (fun c=>decide (Jm.kd c = 3)) (fun c y H => ∃ q,y = .ref q ∧ H q = some (.lst ((Jm.sort2 (Jm.refsOf c)).map V.int))) (fun c y H H' s ⟨q,e,h⟩=>⟨q,e,s _ _ h⟩) hy (by rw [← hl];exact small_line hn) hl hD (fun i x c H1 acc Ny Nx hx hc s1 hD1 h1 h2 => ?_) (fun H1 zs s1 hD1 pz => ?_)
    · obtain ⟨y,hy2,b,rfl,hp⟩:=L2.paired_get pr hc
      have e:x = .ref b:=Option.some.inj (hx.symm.trans hy2)
      subst e
      have gc:=hg c (List.mem_of_getElem? hc)
      refine ⟨rfl, ?_⟩
      walk_at "go"
      refine rd_kind T rfl (hp.same s1) ⟨_,_,rfl,rfl,_,rfl,ite_b (fun h3 => ?_) (fun h3 => ?_)⟩
      · obtain ⟨u',v',er,_⟩:=Jm.refs_M gc h3
        refine ⟨_,rfl,b,c,rfl,hp.same s1,gc,fun H2 l2 s2 hl2=>⟨l2,Jm.refsOf c,rfl,SqL.of hl2,(by rw [er];show 2 < 64;decide),fun ns' p perm srt hp0 => ?_⟩⟩
        have en:ns' = Jm.sort2 (Jm.refsOf c):=by rw [er] at perm ⊢;exact sort2_of perm srt
        have hpD:p ≠ D:=fun q=>by rw [q,s2 _ _ hD1] at hp0;cases hp0
        exact h1 (decide_eq_true h3) _ _ (s2.trans (same_new hp0)) ⟨p,rfl,by rw [hid_ne hpD,upd_same,en]⟩
      · exact h2 (decide_eq_false h3) _ (Same.refl _)
    · unfold Jm.newPair at k
      have ha1:=s1.seq ha
      refine ⟨_,rfl,a,_,_,_,rfl,rfl,ha1,at_of (j:=0) rfl rfl,_,rfl,a,_,_,_,rfl,rfl,ha1,at_of (j:=1) rfl rfl,_,_,rfl,rfl,_,rfl,ite_v (fun g => ?_) (fun g => ?_)⟩
      rotate_left
      · rw [show (!decide (([u,v] : List Int).getD 0 0 = ([u,v] : List Int).getD 1 0)) = false from g] at k
        exact k _ s1
      rw [show (!decide (([u,v] : List Int).getD 0 0 = ([u,v] : List Int).getD 1 0)) = true from g,Bool.true_and] at k
      refine ⟨_,rfl,a,[u,v],rfl,ha1,(by show 2 < 64;decide),fun ns' p perm srt hp0 => ?_⟩
      have en:ns' = Jm.sort2 [u,v]:=sort2_of perm srt
      subst en
      have s2:=same_new (u := .lst ((Jm.sort2 [u,v]).map V.int)) hp0
      refine ⟨_,rfl,dInts (Jm.sort2 [u,v]),(((cs.filter fun c=>decide (Jm.kd c = 3)).map fun c=>Jm.sort2 (Jm.refsOf c)).map dInts),dp_list (SqL.of upd_same), .lst (SqL.of (s2 _ _ hD1)) ?_,shaped_ints _,shaped_rows _, ?_⟩
      · exact rows_dp (pz.mono fun c y ⟨q,e,h⟩=>⟨q,e,s2 _ _ h⟩)
      · rw [Lx.any_rows]
        exact k _ (s1.trans s2)
theorem ok_may_refer (F:Fun K "may_refer" "may_refer" s_may_refer f fd) (T:Txt K mg Z) (c_references_of:Cal P w K mg base 1 "references_of" ["part"] (spPtL Z.Part Jm.Good Jm.refsOf)) (c_is_new_pair:Cal P w K mg base 2 "is_new_pair" ["pair", "before"] (spPair K Z.Part)) :
    FnOk P w K mg base CX0 3 f fd ["part", "before"] (spPB K Z.Part (fun _ _=>True) fun c cs => .bl (Jm.mayRef c cs)):=by
  refine F.ok sc_may_refer (fun vs H Q E h => ?_) (fun cdv A outer s H vs Q E hr h => ?_)
  · obtain ⟨a,l,c,cs,rfl,_⟩:=h
    rfl
  · obtain ⟨a,l,c,cs,rfl,hp,hps,g,hg,hn,_,k⟩:=h
    dsimp only at k
    refine ⟨_,(pss_cons (ps_set (i:=2) sc_may_refer.nd rfl (Or.inl rfl) (pe_cal c_references_of hr (pa_cons (pv 0) pa_nil)))
      (pss_cons (ps_if (pt_truthK K (pe_callB (cr_anyK K rfl) rfl T.b_any boot_any (pa_cons (pe_lc (own:=[("x",4)]) rfl sc_may_refer.nd (pi_listK K (pv 2)) (blkOk_by (by (show L2.blkC ["part", "before", "references", "referred", "x"] (defScope s_may_refer) _ _ = true);decide +kernel)) (fun _ _ _ _ _=>(pg_name (i:=4) sc_may_refer.nd rfl (Or.inl rfl))) (fun _ _ _ _ _=>pts_nil) (fun _ _ _ _ _=>(pe_cmp (pc_ge (pv 4) (pe_callB (call_lenK K) rfl T.b_len boot_len (pa_cons (pv 1) pa_nil)))))) pa_nil)) (fun _=>rfl)) (pss_one (ps_ret pe_bl)) pss_nil)
      (pss_cons (ps_setLc (own:=[("x",4)]) (i:=3) rfl sc_may_refer.nd rfl rfl (sw_true rfl rfl rfl rfl) (pi_listK K (pv 2)) (blkOk_by (by (show L2.blkC ["part", "before", "references", "referred", "x"] (defScope s_may_refer) _ _ = true);decide +kernel)) (fun _ _ _ _ _=>(pg_name (i:=4) sc_may_refer.nd rfl (Or.inl rfl))) (fun _ _ _ _ _=>pts_nil) (fun _ _ _ _ _=>(pe_fldK K (pe_ix (ix_listK K) (pv 1) (pv 4) (fun _ _=>rfl)) rfl)))
      (pss_cons (ps_if (pt_cmp (pc_eqI (pe_fldK K (pv 0) rfl) (pe_gi T.g_MUTUAL))) (pss_one (ps_ret (pe_and (pe_cmpR (op_eqDK K (units64 hr)) (pv 3) (pe_lst (pa_cons (pe_gi T.g_INDUCTOR) (pa_cons (pe_gi T.g_INDUCTOR) pa_nil))) (nomark _)) (pe_one (pe_cal c_is_new_pair hr (pa_cons (pv 2) (pa_cons (pv 1) pa_nil))))))) pss_nil)
      (pss_one (ps_ret (pe_cmpR (op_notInK K) (pe_gi T.g_MUTUAL) (pv 3) (by with_unfolding_all rfl)))))))), ?_⟩
    unfold Jm.mayRef at k
    refine ⟨_,rfl,a,c,rfl,hp,g,fun H1 r s1 hr1 => ?_⟩
    obtain ⟨ys1,hy1,pr1⟩:=hps.same s1
    have hl1:=pr1.length
    have hrl:((Jm.refsOf c).map V.int).length ≤ 1000:=by rw [List.length_map];have:=refs_len g;omega
    refine ⟨_,rfl,r,rfl,⟨_,SqL.of hr1⟩,fun D hD => ?_⟩
    refine lc_lst (cs:=Jm.refsOf c) (fun _=>true) (fun x y H=>y = V.bl (decide ((cs.length:Int) ≤ x))) (fun _ _ _ _ _ h=>h) (SqL.of hr1) (small_line hrl) (by rw [List.length_map]) hD (fun i z x H2 acc Ny Nx hx hc s2 hD1 h1 h2 => ?_) (fun H2 zs s2 hD1 pz => ?_)
    · rw [List.getElem?_map,hc] at hx
      have e:V.int x = z:=Option.some.inj hx
      subst e
      refine ⟨rfl, ?_⟩
      refine ⟨_,rfl,_,rfl,l,_,rfl, .inl (s2.seq hy1),_,_,rfl,rfl,h1 rfl _ _ (Same.refl _) ?_⟩
      rw [hl1]
    rw [filter_tt] at pz
    have e:=paired_eq pz
    refine ⟨D,(Jm.refsOf c).map fun x=>decide ((cs.length:Int) ≤ x),rfl,SqL.of (by rw [hD1,e,List.map_map];all_goals rfl),_,rfl, ?_⟩
    have eany:((Jm.refsOf c).map fun x=>decide ((cs.length:Int) ≤ x)).any id = (Jm.refsOf c).any fun x=>decide ((cs.length:Int) ≤ x):=by rw [List.any_map];rfl
    rw [eany]
    refine ite_v (fun far => ?_) (fun far => ?_)
    · rw [if_pos far] at k
      exact k _ (s1.trans s2)
    rw [if_neg (by rw [far];simp)] at k
    have near:∀ x ∈ Jm.refsOf c,0 ≤ x ∧ x < cs.length:=fun x hx=>⟨Jm.refs_nn g x hx,by
      have:=List.any_eq_false.mp far x hx
      simp only [decide_eq_true_eq] at this
      omega⟩
    have s12:=s1.trans s2
    have hr2:=s2 _ _ hr1
    obtain ⟨ys2,hy2,pr2⟩:=hps.same s12
    refine ⟨_,rfl,r,rfl,⟨_,SqL.of hr2⟩,fun D2 hD2 => ?_⟩
    refine lc_lst (cs:=Jm.refsOf c) (fun _=>true) (fun x y H=>y = V.int (Jm.kdAt cs x)) (fun _ _ _ _ _ h=>h) (SqL.of hr2) (small_line hrl) (by rw [List.length_map]) hD2 (fun i z x H3 acc Ny Nx hx hc s3 hD1 h1 h2 => ?_) (fun H3 zs s3 hD3 pz3 => ?_)
    · rw [List.getElem?_map,hc] at hx
      have e:V.int x = z:=Option.some.inj hx
      subst e
      obtain ⟨n0,n1⟩:=near x (List.mem_of_getElem? hc)
      obtain ⟨b,hb1,hb2,_⟩:=kd_at pr2 n0 n1
      obtain ⟨dx,lp,q1,q2⟩:=hb2.same s3
      refine ⟨rfl, ?_⟩
      exact ⟨_,rfl,_,rfl,l,_,_,_,rfl,rfl,s3.seq hy2,hb1,b,Z.Part,dx,_,_,rfl,q1,T.cl_Part,T.n_Part_kind,pfs_kind _ _,h1 rfl _ _ (Same.refl _) rfl⟩
    rw [filter_tt] at pz3
    have e3:=paired_eq pz3
    have s13:=s12.trans s3
    have hR:H3 D2 = some (.lst (((Jm.refsOf c).map (Jm.kdAt cs)).map V.int)):=by rw [hD3,e3,List.map_map];all_goals rfl
    walk_at "go"
    refine rd_kind T rfl (hp.same s13) ⟨_,_,rfl,rfl,_,rfl,ite_b (fun hM => ?_) (fun hM => ?_)⟩
    · rw [if_pos hM] at k
      obtain ⟨u,v,er,_⟩:=Jm.refs_M g hM
      refine ⟨_,rfl,(by show 2 ≤ sizeLine;decide),fun q hq => ?_⟩
      have s4:=same_new (u := .lst [.int 2, .int 2]) hq
      refine ⟨dInts ((Jm.refsOf c).map (Jm.kdAt cs)),dInts [2,2],dp_list (SqL.of (s4 _ _ hR)),dp_list (ns:=[2,2]) (SqL.of upd_same),shaped_ints _,shaped_ints _,_,rfl, ?_⟩
      rw [eqv_dInts]
      refine ite_b (fun hL => ?_) (fun hL => ?_)
      · rw [decide_eq_true hL,Bool.true_and] at k
        have s14:=s13.trans s4
        have hr4:SqL K (upd H3 q (.lst [.int 2, .int 2])) r (([(u:Int),(v:Int)] : List Int).map V.int):=by
          have z:=s4 _ _ (s3 _ _ hr2)
          rw [er] at z
          exact SqL.of z
        rw [er] at k
        exact ⟨_,rfl,_,rfl,r,l,u,v,cs,rfl,hr4,hps.same s14,hg,hn,fun H5 s5=>k _ (s14.trans s5)⟩
      · rw [decide_eq_false hL] at k
        exact k _ (s13.trans s4)
    · rw [if_neg hM] at k
      refine ⟨_,rfl,D2,_,rfl, .inl (SqL.of hR),rfl,flat_ints _, ?_⟩
      rw [show (if true = true then !inV (.int 3) (((Jm.refsOf c).map (Jm.kdAt cs)).map V.int) else inV (.int 3) (((Jm.refsOf c).map (Jm.kdAt cs)).map V.int)) = !decide ((3:Int) ∈ (Jm.refsOf c).map (Jm.kdAt cs)) from congrArg (fun z => !z) (inV_ints _ _)]
      exact k _ s13
theorem ok_is_coupled_too_much (F:Fun K "is_coupled_too_much" "is_coupled_too_much" s_is_coupled_too_much f fd) (T:Txt K mg Z) :
    FnOk P w K mg base CX0 1 f fd ["part", "before"] (spPB K Z.Part (fun c cs=>(0 ≤ (Jm.pl c).getD 0 0 ∧ (Jm.pl c).getD 0 0 < cs.length) ∧ (0 ≤ (Jm.pl c).getD 1 0 ∧ (Jm.pl c).getD 1 0 < cs.length)) fun c cs => .bl (Jm.tooMuch c cs)):=by
  refine F.ok sc_is_coupled_too_much (fun vs H Q E h => ?_) (fun cdv A outer s H vs Q E hr h => ?_)
  · obtain ⟨a,l,c,cs,rfl,_⟩:=h
    rfl
  · obtain ⟨a,l,c,cs,rfl,hp,⟨ys,hy,pr⟩,g,hg,hn,⟨⟨i0,i1⟩,j0,j1⟩,k⟩:=h
    dsimp only at k
    refine ⟨_,(pss_cons (ps_set (i:=2) sc_is_coupled_too_much.nd rfl (Or.inl rfl) (pe_ix (ix_listK K) (pv 1) (pe_ix (ix_listK K) (pe_fldK K (pv 0) rfl) pe_int (fun _ _=>rfl)) (fun _ _=>rfl)))
      (pss_cons (ps_set (i:=3) sc_is_coupled_too_much.nd rfl (Or.inl rfl) (pe_ix (ix_listK K) (pv 1) (pe_ix (ix_listK K) (pe_fldK K (pv 0) rfl) pe_int (fun _ _=>rfl)) (fun _ _=>rfl)))
      (pss_cons (ps_set (i:=4) sc_is_coupled_too_much.nd rfl (Or.inl rfl) (pe_op op_mul (pe_op op_mul (pe_op op_mul (pe_fldK K (pv 0) rfl) (pe_fldK K (pv 0) rfl)) (pe_fldK K (pv 2) rfl)) (pe_fldK K (pv 3) rfl)))
      (pss_cons (ps_set (i:=5) sc_is_coupled_too_much.nd rfl (Or.inl rfl) (pe_op op_mul (pe_op op_mul (pe_op op_mul (pe_fldK K (pv 2) rfl) (pe_fldK K (pv 3) rfl)) (pe_fldK K (pv 0) rfl)) (pe_fldK K (pv 0) rfl)))
      (pss_one (ps_ret (pe_cmp (pc_gt (pv 4) (pv 5))))))))), ?_⟩
    unfold Jm.tooMuch Jm.muchOf at k
    obtain ⟨p1,e1,q1,m1⟩:=kd_at pr i0 i1
    obtain ⟨p2,e2,q2,m2⟩:=kd_at pr j0 j1
    have b1:=(num_small (hg _ (List.mem_of_getElem? m1)))
    have b2:=(num_small (hg _ (List.mem_of_getElem? m2)))
    have b0:=num_small g
    generalize cs.getD ((Jm.pl c).getD 0 0).toNat [] = cf at *
    generalize cs.getD ((Jm.pl c).getD 1 0).toNat [] = cg at *
    refine ⟨_,rfl, ?_⟩
    walk_at "go"
    refine rd_places T rfl hp fun lp hlp=>⟨lp,_,_,_,rfl,rfl,SqL.of hlp,pl_at g (j:=0) (by decide),l,_,_,_,rfl,rfl,hy,e1, ?_⟩
    refine ⟨_,rfl, ?_⟩
    walk_at "go"
    refine rd_places T rfl hp fun lp hlp=>⟨lp,_,_,_,rfl,rfl,SqL.of hlp,pl_at g (j:=1) (by decide),l,_,_,_,rfl,rfl,hy,e2, ?_⟩
    walk_at "go"
    refine rd_top T rfl hp (rd_top T (by rfl) hp ⟨_,_,rfl,rfl, .inl b0.1,rd_bottom T (by rfl) q1 ⟨_,_,rfl,rfl, .inr b1.2,rd_bottom T (by rfl) q2 ⟨_,_,rfl,rfl, .inr b2.2, ?_⟩⟩⟩)
    walk_at "go"
    refine rd_top T rfl q1 (rd_top T (by rfl) q2 ⟨_,_,rfl,rfl, .inl b1.1,rd_bottom T (by rfl) hp ⟨_,_,rfl,rfl, .inr b0.2,rd_bottom T (by rfl) hp ⟨_,_,rfl,rfl, .inr b0.2, ?_⟩⟩⟩)
    exact ⟨_,rfl,_,rfl,_,_,rfl,rfl,k _ (Same.refl _)⟩
theorem ok_part_fault (F:Fun K "part_fault" "part_fault" s_part_fault f fd) (T:Txt K mg Z) (c_nodes_of:Cal P w K mg base 1 "nodes_of" ["part"] (spPtL Z.Part Jm.Good Jm.nodesOf)) (c_may_have_number:Cal P w K mg base 1 "may_have_number" ["part"] (spPt Z.Part Jm.Good fun c => .bl (Jm.mayNum c)))
    (c_may_refer:Cal P w K mg base 3 "may_refer" ["part", "before"] (spPB K Z.Part (fun _ _=>True) fun c cs => .bl (Jm.mayRef c cs)))
    (c_is_coupled_too_much:Cal P w K mg base 1 "is_coupled_too_much" ["part", "before"] (spPB K Z.Part (fun c cs=>(0 ≤ (Jm.pl c).getD 0 0 ∧ (Jm.pl c).getD 0 0 < cs.length) ∧ (0 ≤ (Jm.pl c).getD 1 0 ∧ (Jm.pl c).getD 1 0 < cs.length)) fun c cs => .bl (Jm.tooMuch c cs))) :
    FnOk P w K mg base CX0 4 f fd ["part", "before", "last_node"] (spFault K Z.Part):=by
  refine F.ok sc_part_fault (fun vs H Q E h => ?_) (fun cdv A outer s H vs Q E hr h => ?_)
  · obtain ⟨a,l,n,c,cs,rfl,_⟩:=h
    rfl
  · obtain ⟨a,l,n,c,cs,rfl,hp,hps,g,hg,hn,k⟩:=h
    refine ⟨_,(pss_cons (ps_if (pt_truthK K (pe_callB (cr_anyK K rfl) rfl T.b_any boot_any (pa_cons (pe_lc (own:=[("node",3)]) rfl sc_part_fault.nd (pi_listK K (pe_cal c_nodes_of hr (pa_cons (pv 0) pa_nil))) (blkOk_by (by (show L2.blkC ["part", "before", "last_node", "node"] (defScope s_part_fault) _ _ = true);decide +kernel)) (fun _ _ _ _ _=>(pg_name (i:=3) sc_part_fault.nd rfl (Or.inl rfl))) (fun _ _ _ _ _=>pts_nil) (fun _ _ _ _ _=>(pe_cmp (pc_gt (pv 3) (pv 2))))) pa_nil)) (fun _=>rfl)) (pss_one (ps_ret (pe_gi T.g_NODE_FAULT))) pss_nil)
      (pss_cons (ps_if (pt_not (pt_truthK K (pe_cal c_may_have_number hr (pa_cons (pv 0) pa_nil)) (fun _=>rfl))) (pss_one (ps_ret (pe_gi T.g_NUMBER_FAULT))) pss_nil)
      (pss_cons (ps_if (pt_not (pt_truthK K (pe_cal c_may_refer hr (pa_cons (pv 0) (pa_cons (pv 1) pa_nil))) (fun _=>rfl))) (pss_one (ps_ret (pe_gi T.g_REFERENCE_FAULT))) pss_nil)
      (pss_cons (ps_if (PW.pt (pw_and (pt_cmp (pc_eqI (pe_fldK K (pv 0) rfl) (pe_gi T.g_MUTUAL))) (pw_and1 (pt_truthK K (pe_cal c_is_coupled_too_much hr (pa_cons (pv 0) (pa_cons (pv 1) pa_nil))) (fun _=>rfl))))) (pss_one (ps_ret (pe_gi T.g_NUMBER_FAULT))) pss_nil)
      (pss_one (ps_ret (pe_gi T.g_NO_FAULT))))))), ?_⟩
    unfold Jm.fault at k
    refine ⟨_,rfl,a,c,rfl,hp,g,fun H1 r s1 hr1=>⟨r,rfl,⟨_,SqL.of hr1⟩,fun D hD => ?_⟩⟩
    have hrl:((Jm.nodesOf c).map V.int).length ≤ 1000:=by
      rw [List.length_map]
      unfold Jm.nodesOf Jm.pl
      rw [List.length_take,List.length_take]
      omega
    refine lc_lst (cs:=Jm.nodesOf c) (fun _=>true) (fun x y H=>y = V.bl (decide (n < x))) (fun _ _ _ _ _ h=>h) (SqL.of hr1) (small_line hrl) (by rw [List.length_map]) hD (fun i z x H2 acc Ny Nx hx hc s2 hD1 h1 h2 => ?_) (fun H2 zs s2 hD1 pz => ?_)
    · rw [List.getElem?_map,hc] at hx
      have e:V.int x = z:=Option.some.inj hx
      subst e
      refine ⟨rfl, ?_⟩
      exact ⟨_,rfl,_,rfl,_,_,rfl,rfl,h1 rfl _ _ (Same.refl _) rfl⟩
    rw [filter_tt] at pz
    have e:=paired_eq pz
    refine ⟨D,(Jm.nodesOf c).map fun x=>decide (n < x),rfl,SqL.of (by rw [hD1,e,List.map_map];all_goals rfl),_,rfl, ?_⟩
    have eany:((Jm.nodesOf c).map fun x=>decide (n < x)).any id = (Jm.nodesOf c).any fun x=>decide (n < x):=by rw [List.any_map];rfl
    rw [eany]
    have s12:=s1.trans s2
    refine ite_v (fun far => ?_) (fun far => ?_)
    · rw [if_pos far] at k
      exact k _ s12
    rw [if_neg (show ¬ ((Jm.nodesOf c).any fun x=>decide (n < x)) = true by rw [far];simp)] at k
    refine ⟨_,rfl,a,c,rfl,hp.same s12,g,fun H3 s3=>⟨_,rfl,ite_v (fun hm => ?_) (fun hm => ?_)⟩⟩
    · have hm':Jm.mayNum c = false:=by cases z:Jm.mayNum c with | true=>rw [z] at hm;cases hm | false=>rfl
      rw [if_pos hm'] at k
      exact k _ (s12.trans s3)
    have hm':Jm.mayNum c = true:=by cases z:Jm.mayNum c with | false=>rw [z] at hm;cases hm | true=>rfl
    rw [if_neg (show ¬ Jm.mayNum c = false by rw [hm'];simp)] at k
    have s13:=s12.trans s3
    refine ⟨_,rfl,_,rfl,a,l,c,cs,rfl,hp.same s13,hps.same s13,g,hg,hn,trivial,fun H4 s4=>⟨_,rfl,ite_v (fun hm2 => ?_) (fun hm2 => ?_)⟩⟩
    · have hm':Jm.mayRef c cs = false:=by cases z:Jm.mayRef c cs with | true=>rw [z] at hm2;cases hm2 | false=>rfl
      rw [if_pos hm'] at k
      exact k _ (s13.trans s4)
    have hm2':Jm.mayRef c cs = true:=by cases z:Jm.mayRef c cs with | false=>rw [z] at hm2;cases hm2 | true=>rfl
    rw [if_neg (show ¬ Jm.mayRef c cs = false by rw [hm2'];simp)] at k
    have s14:=s13.trans s4
    walk_at "go"
    refine rd_kind T rfl (hp.same s14) ⟨_,_,rfl,rfl,_,rfl,ite_b (fun hM => ?_) (fun hM => ?_)⟩
    · refine ⟨_,rfl,_,rfl,a,l,c,cs,rfl,hp.same s14,hps.same s14,g,hg,hn,near_M g hM hm2',fun H5 s5=>⟨_,rfl,ite_v (fun ht => ?_) (fun ht => ?_)⟩⟩
      · rw [if_pos ⟨hM,ht⟩] at k
        exact k _ (s14.trans s5)
      · rw [if_neg (show ¬ (Jm.kd c = 3 ∧ Jm.tooMuch c cs = true) from fun z=>by rw [ht] at z;cases z.2)] at k
        exact k _ (s14.trans s5)
    · refine iteF ?_
      rw [if_neg (show ¬ (Jm.kd c = 3 ∧ Jm.tooMuch c cs = true) from fun z=>hM z.1)] at k
      exact k _ s14
theorem ok_first_fault (F:Fun K "first_fault" "first_fault" s_first_fault f fd) (T:Txt K mg Z) (c_part_fault:Cal P w K mg base 4 "part_fault" ["part", "before", "last_node"] (spFault K Z.Part)):FnOk P w K mg base CX0 5 f fd ["parts", "last_node"] (spFirst K Z.Part):=by
  refine F.ok sc_first_fault (fun vs H Q E h => ?_) (fun cdv A outer s H vs Q E hr h => ?_)
  · obtain ⟨l,n,cs,rfl,_⟩:=h
    rfl
  · obtain ⟨l,n,cs,rfl,⟨ys,hy,pr⟩,hg,hn,k⟩:=h
    have hl:=pr.length
    refine ⟨_,(pss_cons (ps_for PassesOwn.never rfl (pi_enumK K rfl T.b_enumerate (pa_cons (pv 0) pa_nil)) (pg_tupK K (n:=2) rfl (pgs_cons (pg_name (i:=2) sc_first_fault.nd rfl (Or.inl rfl)) (pgs_cons (pg_name (i:=3) sc_first_fault.nd rfl (Or.inl rfl)) pgs_nil))) (pss_cons (ps_set (i:=4) sc_first_fault.nd rfl (Or.inl rfl) (pe_cal c_part_fault hr (pa_cons (pv 3) (pa_cons (pe_slice (sl_listK K) (pv 0) po_none (po_some (pv 2))) (pa_cons (pv 1) pa_nil)))))
      (pss_one (ps_if (pt_cmp (pc_neI (pv 4) (pe_gi T.g_NO_FAULT))) (pss_one (ps_ret (pe_lst (pa_cons (pv 2) (pa_cons (pv 4) pa_nil))))) pss_nil))))
      (pss_one (ps_ret (pe_lst pa_nil)))), ?_⟩
    refine ⟨_,rfl,l,_,rfl,hy,for_enum (K:=K) (a:=l) (xs:=ys) (fun i σ H' => ∃ v2 v3 v4:Option V, σ = [some (.ref l),some (.int n),v2,v3,v4] ∧ Same H H' ∧ Jm.firstFrom n (cs.take i) (cs.drop i) = Jm.firstFault cs n)
      ⟨none,none,none,rfl,Same.refl _,rfl⟩ (fun i σ H' _ ⟨_,_,_,_,s1,_⟩=>s1.seq hy) ?_ ?_⟩
    · rintro i x σ H1 Tt hx ⟨v2,v3,v4,rfl,s1,inv⟩ hTt
      have hi:i < cs.length:=by rw [hl];exact (List.getElem?_eq_some_iff.mp hx).1
      have hc:cs[i]? = some cs[i]:=List.getElem?_eq_getElem hi
      obtain ⟨y,hy2,b,rfl,hp⟩:=L2.paired_get pr hc
      have e:x = .ref b:=Option.some.inj (hx.symm.trans hy2)
      subst e
      have hd:cs.drop i = cs[i] :: cs.drop (i + 1):=(List.drop_eq_getElem_cons hi)
      have ht:=take_snoc hc
      have gc:=hg _ (List.mem_of_getElem? hc)
      generalize cs[i] = c at hc hp hd ht gc
      have s2:Same H1 (upd H1 Tt (.tup [.int (i:Nat), .ref b])):=same_new hTt
      have s12:=s1.trans s2
      refine ⟨Tt,_,rfl,SqT.of upd_same,rfl,_,_,rfl,_,_,rfl,rfl, ?_⟩
      refine ⟨_,rfl,_,rfl,_,rfl,_,rfl,l,_,rfl,s12.seq hy,fun p hp0 => ?_⟩
      have s3:=same_new (u := .lst (cutV ys none (some (i:Nat)))) hp0
      have s13:=s12.trans s3
      have hb:PsAt K Z.Part (upd (upd H1 Tt (.tup [.int (i:Nat), .ref b])) p (.lst (cutV ys none (some (i:Nat))))) p (cs.take i) :=
        ⟨ys.take i,SqL.of (by rw [upd_same,cut_to]),paired_take i (paired_same PV.same s13 pr)⟩
      refine ⟨_,rfl,b,p,n,c,cs.take i,rfl,hp.same s13,hb,gc,fun c hc=>hg c (List.mem_of_mem_take hc),(by rw [List.length_take];omega),fun H3 s4 => ?_⟩
      have s14:=s13.trans s4
      have hlen:(cs.take i).length = i:=by rw [List.length_take];omega
      have step:Jm.firstFault cs n = if Jm.fault c (cs.take i) n ≠ 0 then [(i:Int),Jm.fault c (cs.take i) n] else Jm.firstFrom n (cs.take (i + 1)) (cs.drop (i + 1)):=by
        rw [← inv,hd,ht]
        show (if Jm.fault c (cs.take i) n ≠ 0 then [((cs.take i).length:Int),Jm.fault c (cs.take i) n] else _) = _
        rw [hlen]
      refine ⟨_,rfl,_,_,rfl,rfl,_,rfl,ite_n (fun g' => ?_) (fun g => ?_)⟩
      · rw [if_pos g'] at step
        refine ⟨_,rfl,_,rfl,(by show 2 ≤ sizeLine;decide),fun q hq=>k _ q (s14.trans (same_new hq)) ?_⟩
        rw [upd_same,step]
        rfl
      · have g':¬ Jm.fault c (cs.take i) n ≠ 0:=fun z=>z g
        rw [if_neg g'] at step
        exact ⟨_,_,_,rfl,s14,step.symm⟩
    · rintro σ H1 ⟨v2,v3,v4,rfl,s1,inv⟩
      rw [← hl,List.drop_length] at inv
      refine ⟨Nat.zero_le _,fun q hq=>k _ q (s1.trans (same_new hq)) ?_⟩
      rw [upd_same, ← inv]
      rfl
theorem ok_Columns_init (F:Fun K "__init__" "Columns.__init__" s_Columns_init f fd) (T:Txt K mg Z):FnOk P w K mg base CX0 1 f fd ["self", "parts", "last_node"] (spCols K Z.Part Z.Columns):=by
  refine F.ok sc_Columns_init (fun vs H Q E h => ?_) (fun cdv A outer s H vs Q E hr h => ?_)
  · obtain ⟨p,dx,a,N,cs,H0,rfl,_⟩:=h
    rfl
  · obtain ⟨p,dx,a,N,cs,H0,rfl,hp,s0,np,⟨ys,hy,pr⟩,hg,hn,k⟩:=h
    have hl:=pr.length
    refine ⟨_,(pss_cons (ps_fldK K (pv 0) (pe_op op_add (pv 2) pe_int) rfl)
      (pss_cons (ps_fldK K (pv 0) (pe_lst pa_nil) rfl)
      (pss_cons (ps_set (i:=3) sc_Columns_init.nd rfl (Or.inl rfl) (pe_fldK K (pv 0) rfl))
      (pss_cons (ps_for PassesOwn.never rfl (pi_listK K (pv 1)) (pg_name (i:=4) sc_Columns_init.nd rfl (Or.inl rfl)) (pss_cons (ps_expr (pe_bm PySem.F.plainAttrs_list PySem.F.slot_list_append PySem.F.type_list_append mt_append (pe_fldK K (pv 0) rfl) (pa_cons (pv 3) pa_nil)))
      (pss_one (ps_aug (i:=3) sc_Columns_init.nd rfl (Or.inl rfl) (pe_ix (ix_tupK K) (pe_gr T.g_CURRENT_COUNTS) (pe_fldK K (pv 4) rfl) (fun _ _=>rfl)) ip_add))))
      (pss_one (ps_fldK K (pv 0) (pv 3) rfl)))))), ?_⟩
    refine ⟨_,rfl,_,_,rfl,rfl,_,rfl,p,Z.Columns,dx,_,rfl,hp,T.cl_Columns,T.n_Columns_nodes,(by show 0 < 1000;decide), ?_⟩
    have s1:Same H0 (upd H p (.ins Z.Columns dx (putF "nodes" (.int ((N:Int) + 1)) []))):=same_upd s0 np
    refine ⟨Nat.zero_le _,fun l hl0=>⟨_,rfl,p,Z.Columns,dx,_,rfl,(upd_ne (ne_of_none upd_same hl0)).trans upd_same,T.cl_Columns,T.n_Columns_currents,(by show 1 < 1000;decide), ?_⟩⟩
    have nlp:l ≠ p:=fun e=>by rw [e,upd_same] at hl0;cases hl0
    have l0:H0 l = none:=s1.free hl0
    have s2:Same H0 (upd (upd (upd H p (.ins Z.Columns dx (putF "nodes" (.int ((N:Int) + 1)) []))) l (.lst [])) p (.ins Z.Columns dx (putF "currents" (.ref l) (putF "nodes" (.int ((N:Int) + 1)) [])))):=same_upd (same_upd s1 l0) np
    refine ⟨_,rfl,p,Z.Columns,dx,_,_,rfl,upd_same,T.cl_Columns,T.n_Columns_nodes,(by rw [lookup_putF,if_neg (by decide +kernel),lookup_putF,if_pos rfl]), ?_⟩
    refine ⟨_,rfl,a,rfl,⟨_,s2.seq hy⟩,for_list (K:=K) (a:=a) (xs:=ys) (fun i σ H' => ∃ v4:Option V, σ = [some (.ref p),some (.ref a),some (.int N),some (.int (Fm.cur N cs i:Nat)),v4] ∧ Same H0 H' ∧ H' p = some (.ins Z.Columns dx (putF "currents" (.ref l) (putF "nodes" (.int ((N:Int) + 1)) []))) ∧ H' l = some (.lst ((List.range i).map fun k=>V.int (Fm.cur N cs k:Nat))))
      ⟨none, ?_,s2,upd_same, ?_⟩ (fun i σ H' _ ⟨_,_,s3,_⟩=>s3.seq hy) ?_ ?_⟩
    · have e:((Fm.cur N cs 0:Nat):Int) = (N:Int) + 1:=by
        unfold Fm.cur
        simp
      rw [e]
      rfl
    · rw [upd_ne nlp,upd_same]
      rfl
    · rintro i x σ H3 hx ⟨v4,rfl,s3,hp3,hl3⟩
      have hi:i < cs.length:=by rw [hl];exact (List.getElem?_eq_some_iff.mp hx).1
      obtain ⟨b,hb,hpb,hc⟩:=part_at (K:=K) pr hi
      have e:x = .ref b:=Option.some.inj (hx.symm.trans hb)
      subst e
      have g:=hg _ (List.mem_of_getElem? hc)
      refine ⟨_,rfl,p,Z.Columns,dx,_, .ref l,rfl,hp3,T.cl_Columns,T.n_Columns_currents,(by rw [lookup_putF,if_pos rfl]), .inl ⟨rfl,_,SqL.of hl3⟩,_,rfl,l,_,_,rfl,rfl,hl3,(by rw [List.length_map,List.length_range];exact small_line' (by omega)), ?_⟩
      refine ⟨_,rfl, ?_⟩
      walk_at "go"
      refine rd_kind T rfl (hpb.same (same_upd s3 l0)) ⟨Z.CURRENT_COUNTS,_,_,_,rfl,rfl,T.s_CURRENT_COUNTS _,count_at g (by decide),_,_,rfl,rfl,some (.ref b), ?_,same_upd s3 l0, ?_, ?_⟩
      · rw [Fm.cur_succ hc,Int.natCast_add,cc_cast]
        rfl
      · rw [upd_ne (Ne.symm nlp)];exact hp3
      · rw [upd_same,List.range_succ,List.map_append]
        rfl
    · rintro σ H3 ⟨v4,rfl,s3,hp3,hl3⟩
      refine ⟨_,rfl,_,rfl,p,Z.Columns,dx,_,rfl,hp3,T.cl_Columns,T.n_Columns_one,(by show 2 < 1000;decide),k _ l (same_upd s3 np) ?_ ?_⟩
      · rw [upd_same, ← hl]
        unfold cfs
        have e:Fm.cur N cs cs.length = Fm.one N cs:=by
          unfold Fm.cur Fm.one
          rw [List.take_length]
        rw [e]
      · rw [upd_ne nlp,hl3, ← hl]
        unfold Fm.curL
        rw [List.map_map]
        rfl
theorem ok_Columns_nothing (F:Fun K "nothing" "Columns.nothing" s_Columns_nothing f fd) (T:Txt K mg Z):FnOk P w K mg base CX0 1 f fd ["self"] (spNothing Z.Columns):=by
  refine F.ok sc_Columns_nothing (fun vs H Q E h => ?_) (fun cdv A outer s H vs Q E hr h => ?_)
  · obtain ⟨a,N,cs,rfl,_⟩:=h
    rfl
  · obtain ⟨a,N,cs,rfl,hc,hw,k⟩:=h
    refine ⟨_,(pss_one (ps_ret (pe_op op_rep (pe_lst (pa_cons pe_int pa_nil)) (pe_op op_add (pe_fldK K (pv 0) rfl) pe_int)))), ?_⟩
    obtain ⟨dx,l0,h1,h2⟩:=hc.ex
    refine ⟨(by show 1 ≤ sizeLine;decide),fun l hl => ?_⟩
    have s1:=same_new (u := .lst [.int 0]) hl
    refine ⟨_,rfl,a,Z.Columns,dx,_,_,rfl,s1 _ _ h1,T.cl_Columns,T.n_Columns_one,cfs_one N cs l0,_,_,rfl,rfl,l,_,_,rfl,rfl,upd_same,by omega,by omega, ?_,fun p hp=>k _ p (s1.trans (same_new hp)) (s1.free hp) ?_⟩
    · show 1 * _ ≤ sizeLine
      exact small_line (by omega)
    · rw [upd_same,rep_flat,show ((Fm.one N cs:Nat) + 1:Int).toNat = Fm.one N cs + 1 by omega]
      unfold Fm.zero
      rw [List.map_replicate]
theorem ok_Columns_single (F:Fun K "single" "Columns.single" s_Columns_single f fd) (T:Txt K mg Z) (m_Columns_nothing:Mth P w K mg base 1 Z.Columns "nothing" ["self"] (spNothing Z.Columns)):FnOk P w K mg base CX0 2 f fd ["self", "column"] (spSingle Z.Columns):=by
  refine F.ok sc_Columns_single (fun vs H Q E h => ?_) (fun cdv A outer s H vs Q E hr h => ?_)
  · obtain ⟨a,N,cs,j,rfl,_⟩:=h
    rfl
  · obtain ⟨a,N,cs,j,rfl,hc,hw,hj,k⟩:=h
    refine ⟨_,(pss_cons (ps_set (i:=2) sc_Columns_single.nd rfl (Or.inl rfl) (pe_mth0 m_Columns_nothing hr (pv 0)))
      (pss_cons (ps_asg pe_int (pg_sub (pv 2) (pv 1) set_list))
      (pss_one (ps_ret (pv 2))))), ?_⟩
    obtain ⟨dx,l0,h1,h2⟩:=hc.ex
    refine ⟨_,rfl,a,dx,_,rfl,h1,cfs_no _ _ _ (by decide +kernel) (by decide +kernel) (by decide +kernel),a,N,cs,rfl,hc,hw,fun H1 l s1 hl g => ?_⟩
    refine ⟨_,rfl,_,rfl,l,_,_,j,rfl,rfl,g,ixN_nat (by rw [List.length_map,Fm.len_zero];omega),_,rfl,k _ l (same_upd s1 hl) hl ?_⟩
    rw [upd_same]
    unfold Fm.single
    rw [List.map_set]
theorem ok_Columns_between (F:Fun K "between" "Columns.between" s_Columns_between f fd) (T:Txt K mg Z) (m_Columns_nothing:Mth P w K mg base 1 Z.Columns "nothing" ["self"] (spNothing Z.Columns)):FnOk P w K mg base CX0 2 f fd ["self", "first", "second"] (spBetween Z.Columns):=by
  refine F.ok sc_Columns_between (fun vs H Q E h => ?_) (fun cdv A outer s H vs Q E hr h => ?_)
  · obtain ⟨a,N,cs,i,j,rfl,_⟩:=h
    rfl
  · obtain ⟨a,N,cs,i,j,rfl,hc,hw,hi,hj,k⟩:=h
    refine ⟨_,(pss_cons (ps_set (i:=3) sc_Columns_between.nd rfl (Or.inl rfl) (pe_mth0 m_Columns_nothing hr (pv 0)))
      (pss_cons (ps_augS (pv 3) (pv 1) (get_listK K) pe_int ip_add set_list)
      (pss_cons (ps_augS (pv 3) (pv 2) (get_listK K) pe_int ip_sub set_list)
      (pss_one (ps_ret (pv 3)))))), ?_⟩
    obtain ⟨dx,l0,h1,h2⟩:=hc.ex
    have z0:(Fm.zero (Fm.one N cs)).getD i 0 = 0:=by
      unfold Fm.zero
      rw [List.getD_eq_getElem?_getD,List.getElem?_replicate]
      split <;> rfl
    have li:i < (Fm.zero (Fm.one N cs)).length:=by rw [Fm.len_zero];omega
    have lj:j < ((Fm.zero (Fm.one N cs)).set i 1).length:=by rw [List.length_set,Fm.len_zero];omega
    refine ⟨_,rfl,a,dx,_,rfl,h1,cfs_no _ _ _ (by decide +kernel) (by decide +kernel) (by decide +kernel),a,N,cs,rfl,hc,hw,fun H1 l s1 hl g => ?_⟩
    refine ⟨_,rfl,_,rfl,l,_,_,_,rfl,rfl,SqL.of g,at_int li,_,_,rfl,rfl,l,_,_,i,rfl,rfl,g,ixN_nat (by rw [List.length_map];exact li), ?_⟩
    have e1:((Fm.zero (Fm.one N cs)).map V.int).set i (V.int ((Fm.zero (Fm.one N cs)).getD i 0 + 1)) = ((Fm.zero (Fm.one N cs)).set i 1).map V.int:=by rw [z0,List.map_set];rfl
    rw [e1]
    refine ⟨_,rfl,_,rfl,l,_,_,_,rfl,rfl,SqL.of upd_same,at_int lj,_,_,rfl,rfl,l,_,_,j,rfl,rfl,upd_same,ixN_nat (by rw [List.length_map];exact lj),_,rfl,k _ l ?_ hl ?_⟩
    · rw [upd_upd]
      exact same_upd s1 hl
    · rw [upd_same]
      unfold Fm.between
      simp only [List.map_set]
theorem ok_times (F:Fun K "times" "times" s_times f fd) (T:Txt K mg Z):FnOk P w K mg base CX0 1 f fd ["factor", "form"] (spTimes K):=by
  refine F.ok sc_times (fun vs H Q E h => ?_) (fun cdv A outer s H vs Q E hr h => ?_)
  · obtain ⟨a,q,g,rfl,_⟩:=h
    rfl
  · obtain ⟨a,q,g,rfl,ha,bq,bg,hl,k⟩:=h
    refine ⟨_,(pss_one (ps_ret (pe_lc (own:=[("number",2)]) rfl sc_times.nd (pi_listK K (pv 1)) (blkOk_by (by (show L2.blkC ["factor", "form", "number"] (defScope s_times) _ _ = true);decide +kernel)) (fun _ _ _ _ _=>(pg_name (i:=2) sc_times.nd rfl (Or.inl rfl))) (fun _ _ _ _ _=>pts_nil) (fun _ _ _ _ _=>(pe_op op_mulB (pv 0) (pv 2)))))), ?_⟩
    refine ⟨_,rfl,a,rfl,⟨_,ha⟩,fun D hD => ?_⟩
    refine lc_lst (cs:=g) (fun _=>true) (fun x y H=>y = V.int (q * x)) (fun _ _ _ _ _ h=>h) ha (by rw [List.length_map];exact small_line hl) (by rw [List.length_map]) hD (fun i z x H1 acc Ny Nx hx hc s1 hD1 h1 h2 => ?_) (fun H1 zs s1 hD1 pz => ?_)
    · rw [List.getElem?_map,hc] at hx
      have e:V.int x = z:=Option.some.inj hx
      subst e
      exact ⟨rfl,_,rfl,_,rfl,_,_,rfl,rfl,⟨bq,bg x (List.mem_of_getElem? hc)⟩,h1 rfl _ _ (Same.refl _) rfl⟩
    · rw [filter_tt] at pz
      refine k _ D s1 hD ?_
      rw [hD1,paired_eq pz]
      unfold Fm.times
      rw [List.map_map]
      all_goals rfl
theorem ok_less (F:Fun K "less" "less" s_less f fd) (T:Txt K mg Z):FnOk P w K mg base CX0 1 f fd ["first", "second"] (spLess K):=by
  refine F.ok sc_less (fun vs H Q E h => ?_) (fun cdv A outer s H vs Q E hr h => ?_)
  · obtain ⟨a,b,u,v,rfl,_⟩:=h
    rfl
  · obtain ⟨a,b,u,v,rfl,ha,hb,huv,hl,k⟩:=h
    refine ⟨_,(pss_one (ps_ret (pe_lc (own:=[("x",2),("y",3)]) rfl sc_less.nd (pi_zipK K rfl T.b_zip (pa_cons (pv 0) (pa_cons (pv 1) pa_nil))) (blkOk_by (by (show L2.blkC ["first", "second", "x", "y"] (defScope s_less) _ _ = true);decide +kernel)) (fun _ _ _ _ _=>(pg_tupK K (n:=2) rfl (pgs_cons (pg_name (i:=2) sc_less.nd rfl (Or.inl rfl)) (pgs_cons (pg_name (i:=3) sc_less.nd rfl (Or.inl rfl)) pgs_nil)))) (fun _ _ _ _ _=>pts_nil) (fun _ _ _ _ _=>(pe_op op_sub (pv 2) (pv 3)))))), ?_⟩
    refine ⟨_,rfl,_,rfl,a,b,_,_,rfl,ha,hb,fun D hD => ?_⟩
    refine lc_zip (cs:=u.zip v) (fun _=>true) (fun x y H=>y = V.int (x.1 - x.2)) (fun _ _ _ _ _ h=>h) ha hb (by rw [List.length_map,List.length_map,huv]) (by rw [List.length_map];exact small_line hl) (by rw [List.length_map,List.length_zip];omega) hD (fun i z1 z2 c H1 T1 acc Ny Nx hx hy hc s1 hD1 hT h1 h2 => ?_) (fun H1 zs s1 hD1 pz => ?_)
    · obtain ⟨x1,x2⟩:=c
      obtain ⟨e1,e2⟩:=zip_get hc
      rw [List.getElem?_map,e1] at hx
      rw [List.getElem?_map,e2] at hy
      have e:V.int x1 = z1:=Option.some.inj hx
      have e':V.int x2 = z2:=Option.some.inj hy
      subst e e'
      exact ⟨T1,_,rfl,SqT.of upd_same,rfl,_,_,rfl,_,_,rfl,rfl,rfl,_,rfl,_,rfl,_,_,rfl,rfl,h1 rfl _ _ (same_new hT) rfl⟩
    · rw [filter_tt] at pz
      refine k _ D s1 hD ?_
      rw [hD1,paired_eq pz]
      unfold Fm.less
      rw [List.map_map]
      all_goals rfl
theorem ok_product (F:Fun K "product" "product" s_product f fd) (T:Txt K mg Z):FnOk P w K mg base CX0 1 f fd ["first", "second"] (spProduct K):=by
  refine F.ok sc_product (fun vs H Q E h => ?_) (fun cdv A outer s H vs Q E hr h => ?_)
  · obtain ⟨a,b,u,v,rfl,_⟩:=h
    rfl
  · obtain ⟨a,b,u,v,rfl,ha,hb,huv,hl,bu,bv,k⟩:=h
    refine ⟨_,(pss_one (ps_ret (pe_callB (cr_sumK K rfl) rfl T.b_sum boot_sum (pa_cons (pe_lc (own:=[("x",2),("y",3)]) rfl sc_product.nd (pi_zipK K rfl T.b_zip (pa_cons (pv 0) (pa_cons (pv 1) pa_nil))) (blkOk_by (by (show L2.blkC ["first", "second", "x", "y"] (defScope s_product) _ _ = true);decide +kernel)) (fun _ _ _ _ _=>(pg_tupK K (n:=2) rfl (pgs_cons (pg_name (i:=2) sc_product.nd rfl (Or.inl rfl)) (pgs_cons (pg_name (i:=3) sc_product.nd rfl (Or.inl rfl)) pgs_nil)))) (fun _ _ _ _ _=>pts_nil) (fun _ _ _ _ _=>(pe_op op_mulB (pv 2) (pv 3)))) pa_nil)))), ?_⟩
    refine ⟨_,rfl,_,rfl,a,b,_,_,rfl,ha,hb,fun D hD => ?_⟩
    refine lc_zip (cs:=u.zip v) (fun _=>true) (fun x y H=>y = V.int (x.1 * x.2)) (fun _ _ _ _ _ h=>h) ha hb (by rw [List.length_map,List.length_map,huv]) (by rw [List.length_map];exact small_line hl) (by rw [List.length_map,List.length_zip];omega) hD (fun i z1 z2 c H1 T1 acc Ny Nx hx hy hc s1 hD1 hT h1 h2 => ?_) (fun H1 zs s1 hD1 pz => ?_)
    · obtain ⟨x1,x2⟩:=c
      obtain ⟨e1,e2⟩:=zip_get hc
      rw [List.getElem?_map,e1] at hx
      rw [List.getElem?_map,e2] at hy
      have e:V.int x1 = z1:=Option.some.inj hx
      have e':V.int x2 = z2:=Option.some.inj hy
      subst e e'
      exact ⟨T1,_,rfl,SqT.of upd_same,rfl,_,_,rfl,_,_,rfl,rfl,rfl,_,rfl,_,rfl,_,_,rfl,rfl,⟨bu _ (List.mem_of_getElem? e1),bv _ (List.mem_of_getElem? e2)⟩,h1 rfl _ _ (same_new hT) rfl⟩
    · rw [filter_tt] at pz
      refine ⟨D,(u.zip v).map fun (x:Int × Int)=>x.1 * x.2,rfl,SqL.of ?_,k _ s1⟩
      rw [hD1,paired_eq pz,List.map_map]
      all_goals rfl
theorem ok_Law_init (F:Fun K "__init__" "Law.__init__" s_Law_init f fd) (T:Txt K mg Z):FnOk P w K mg base CX0 1 f fd ["self", "told", "factor", "part"] (spLawInit Z.Part Z.Law):=by
  refine F.ok sc_Law_init (fun vs H Q E h => ?_) (fun cdv A outer s H vs Q E hr h => ?_)
  · obtain ⟨p,dx,t,g,a,u,v,c,H0,rfl,_⟩:=h
    rfl
  · obtain ⟨p,dx,t,g,a,u,v,c,H0,rfl,hp,s0,np,ha,k⟩:=h
    refine ⟨_,(pss_cons (ps_fldK K (pv 0) (pv 1) rfl)
      (pss_cons (ps_fldK K (pv 0) (pv 2) rfl)
      (pss_cons (ps_fldK K (pv 0) (pe_fldK K (pv 3) rfl) rfl)
      (pss_one (ps_fldK K (pv 0) (pe_fldK K (pv 3) rfl) rfl))))), ?_⟩
    refine ⟨_,rfl,_,rfl,p,Z.Law,dx,_,rfl,hp,T.cl_Law,T.n_Law_told,(by show 0 < 1000;decide), ?_⟩
    refine ⟨_,rfl,_,rfl,p,Z.Law,dx,_,rfl,upd_same,T.cl_Law,T.n_Law_factor,(by show 1 < 1000;decide), ?_⟩
    walk_at "go"
    refine rd_top T rfl (ha.same (same_upd (same_upd s0 np) np)) ⟨_,rfl,p,Z.Law,dx,_,rfl,upd_same,T.cl_Law,T.n_Law_top,(by show 2 < 1000;decide), ?_⟩
    walk_at "go"
    refine rd_bottom T rfl (ha.same (same_upd (same_upd (same_upd s0 np) np) np)) ⟨_,rfl,p,Z.Law,dx,_,rfl,upd_same,T.cl_Law,T.n_Law_bottom,(by show 3 < 1000;decide), ?_⟩
    exact k _ (same_upd (same_upd (same_upd (same_upd s0 np) np) np) np) upd_same
theorem ok_Law_form (F:Fun K "form" "Law.form" s_Law_form f fd) (T:Txt K mg Z) (c_less:Cal P w K mg base 1 "less" ["first", "second"] (spLess K)) (c_times:Cal P w K mg base 1 "times" ["factor", "form"] (spTimes K)):FnOk P w K mg base CX0 2 f fd ["self"] (spForm Z.Law Fm.LawD.form):=by
  refine F.ok sc_Law_form (fun vs H Q E h => ?_) (fun cdv A outer s H vs Q E hr h => ?_)
  · obtain ⟨a,d,rfl,_⟩:=h
    rfl
  · obtain ⟨a,d,rfl,⟨a',dx,t,g,e,h1,h2,h3⟩,m,k⟩:=h
    cases e
    refine ⟨_,(pss_one (ps_ret (pe_cal c_less hr (pa_cons (pe_cal c_times hr (pa_cons (pe_fldK K (pv 0) rfl) (pa_cons (pe_fldK K (pv 0) rfl) pa_nil))) (pa_cons (pe_cal c_times hr (pa_cons (pe_fldK K (pv 0) rfl) (pa_cons (pe_fldK K (pv 0) rfl) pa_nil))) pa_nil))))), ?_⟩
    refine ⟨_,rfl,a,Z.Law,dx,_,_,rfl,h1,T.cl_Law,T.n_Law_bottom,lfs_bottom d t g,_,rfl,a,Z.Law,dx,_,_,rfl,h1,T.cl_Law,T.n_Law_told,lfs_told d t g,t,_,d.told,rfl,SqL.of h2,m.bt,m.bx,m.ls,fun H1 l1 s1 n1 g1 => ?_⟩
    refine ⟨_,rfl,a,Z.Law,dx,_,_,rfl,s1 _ _ h1,T.cl_Law,T.n_Law_top,lfs_top d t g,_,rfl,a,Z.Law,dx,_,_,rfl,s1 _ _ h1,T.cl_Law,T.n_Law_factor,lfs_factor d t g,g,_,d.fac,rfl,SqL.of (s1 _ _ h3),m.tp,m.by_,(by rw [m.ll];exact m.ls),fun H2 l2 s2 n2 g2 => ?_⟩
    refine ⟨l1,l2,_,_,rfl,SqL.of (s2 _ _ g1),SqL.of g2,(by rw [Fm.len_times,Fm.len_times];exact m.ll),(by rw [Fm.len_times];exact m.ls),fun H3 l3 s3 n3 g3=>k _ l3 ((s1.trans s2).trans s3) ((s1.trans s2).free n3) g3⟩
theorem ok_sets_voltage (F:Fun K "sets_voltage" "sets_voltage" s_sets_voltage f fd) (T:Txt K mg Z):FnOk P w K mg base CX0 1 f fd ["part", "state"] (spSets Z.Part):=by
  refine F.ok sc_sets_voltage (fun vs H Q E h => ?_) (fun cdv A outer s H vs Q E hr h => ?_)
  · obtain ⟨a,st,c,rfl,_⟩:=h
    rfl
  · obtain ⟨a,st,c,rfl,hp,g,k⟩:=h
    refine ⟨_,(pss_cons (ps_if (pt_cmp (pc_eqI (pe_fldK K (pv 0) rfl) (pe_gi T.g_SWITCH))) (pss_one (ps_ret (pe_cmp (pc_neI (pe_fldK K (pv 0) rfl) pe_int)))) pss_nil)
      (pss_cons (ps_if (pt_cmp (pc_eqI (pe_fldK K (pv 0) rfl) (pe_gi T.g_DIODE))) (pss_one (ps_ret (pe_cmp (pc_eqI (pv 1) pe_int)))) pss_nil)
      (pss_one (ps_ret (pe_cmpR (op_inK K) (pe_fldK K (pv 0) rfl) (pe_tup (pa_cons (pe_gi T.g_RESISTOR) (pa_cons (pe_gi T.g_INDUCTOR) (pa_cons (pe_gi T.g_VOLTAGE_SOURCE) (pa_cons (pe_gi T.g_VOLTAGE_BY_VOLTAGE) (pa_cons (pe_gi T.g_VOLTAGE_BY_CURRENT) (pa_cons (pe_gi T.g_TRANSFORMER) pa_nil))))))) (by with_unfolding_all rfl)))))), ?_⟩
    unfold Fm.setsV at k
    walk_at "go"
    refine rd_kind T rfl hp ⟨_,_,rfl,rfl,_,rfl,ite_b (fun h12 => ?_) (fun h12 => ?_)⟩
    · rw [if_pos h12] at k
      refine rd_top T rfl hp ⟨_,_,rfl,rfl, ?_⟩
      have e:(!decide (Jm.tp c = 0)) = decide (Jm.tp c ≠ 0):=by simp
      rw [e]
      exact k _ (Same.refl _)
    rw [if_neg h12] at k
    walk_at "go"
    refine rd_kind T rfl hp ⟨_,_,rfl,rfl,_,rfl,ite_b (fun h13 => ?_) (fun h13 => ?_)⟩
    · rw [if_pos h13] at k
      exact ⟨_,rfl,_,_,rfl,rfl,k _ (Same.refl _)⟩
    rw [if_neg h13] at k
    walk_at "go"
    refine rd_kind T rfl hp ⟨(by show 6 ≤ sizeLine;decide),fun t ht=>⟨t,_,rfl, .inr (SqT.of upd_same),rfl,rfl, ?_⟩⟩
    exact Eq.mp (congrArg (fun b=>Q (.bl b) _) (in_eq (Jm.kd c) [0,2,4,6,8,10]).symm) (k _ (same_new ht))
theorem ok_told_form (F:Fun K "told_form" "told_form" s_told_form f fd) (T:Txt K mg Z) (c_sets_voltage:Cal P w K mg base 1 "sets_voltage" ["part", "state"] (spSets Z.Part))
    (m_Columns_single:Mth P w K mg base 2 Z.Columns "single" ["self", "column"] (spSingle Z.Columns)) (m_Columns_between:Mth P w K mg base 2 Z.Columns "between" ["self", "first", "second"] (spBetween Z.Columns)) :
    FnOk P w K mg base CX0 3 f fd ["parts", "k", "state", "columns"] (spEltF K Z.Part Z.Columns Fm.toldF):=by
  refine F.ok sc_told_form (fun vs H Q E h => ?_) (fun cdv A outer s H vs Q E hr h => ?_)
  · obtain ⟨l,a,N,cs,j,st,rfl,_⟩:=h
    rfl
  · obtain ⟨l,a,N,cs,j,st,rfl,⟨⟨ys,hy,pr⟩,hcols,R,hj⟩,h3,k⟩:=h
    refine ⟨_,(pss_cons (ps_set (i:=4) sc_told_form.nd rfl (Or.inl rfl) (pe_ix (ix_listK K) (pv 0) (pv 1) (fun _ _=>rfl)))
      (pss_cons (ps_if (pt_cmp (pc_eqI (pe_fldK K (pv 4) rfl) (pe_gi T.g_AMPLIFIER))) (pss_one (ps_ret (pe_mth m_Columns_between hr (pv 3) (pa_cons (pe_ix (ix_listK K) (pe_fldK K (pv 4) rfl) pe_int (fun _ _=>rfl)) (pa_cons (pe_ix (ix_listK K) (pe_fldK K (pv 4) rfl) pe_int (fun _ _=>rfl)) pa_nil))))) pss_nil)
      (pss_cons (ps_if (pt_truthK K (pe_cal c_sets_voltage hr (pa_cons (pv 4) (pa_cons (pv 2) pa_nil))) (fun _=>rfl)) (pss_one (ps_ret (pe_mth m_Columns_between hr (pv 3) (pa_cons (pe_ix (ix_listK K) (pe_fldK K (pv 4) rfl) pe_int (fun _ _=>rfl)) (pa_cons (pe_ix (ix_listK K) (pe_fldK K (pv 4) rfl) pe_int (fun _ _=>rfl)) pa_nil))))) pss_nil)
      (pss_one (ps_ret (pe_mth m_Columns_single hr (pv 3) (pa_cons (pe_ix (ix_listK K) (pe_fldK K (pv 3) rfl) (pv 1) (fun _ _=>rfl)) pa_nil))))))), ?_⟩
    obtain ⟨b,hb,hp,hc⟩:=part_at (K:=K) pr hj
    have hmem:=List.mem_of_getElem? hc
    have g:=R.good _ hmem
    have hw:=Fm.one_le R.n8 R.len
    have hnl:=Fm.node_le R hmem
    have hcur:Fm.cur N cs j ≤ Fm.one N cs:=Fm.cur_le _ _ _
    unfold Fm.toldF at k
    dsimp only at k
    generalize hcc:cs.getD j [] = c at *
    refine ⟨_,rfl,_,rfl,l,_,_,_,rfl,rfl,hy,atI_nat hb, ?_⟩
    walk_at "go"
    obtain ⟨dx,l0,hc1,hc2⟩:=hcols.ex
    refine rd_kind T rfl hp ⟨_,_,rfl,rfl,_,rfl,ite_b (fun h11 => ?_) (fun h11 => ?_)⟩
    · rw [if_pos h11] at k
      have n4:=hnl (by rw [h11];decide)
      refine ⟨_,rfl,a,dx,_,rfl,hc1,cfs_no _ _ _ (by decide +kernel) (by decide +kernel) (by decide +kernel), ?_⟩
      walk_at "go"
      refine rd_places T rfl hp fun lp hlp=>⟨lp,_,_,_,rfl,rfl,SqL.of hlp,pl_at' g (j:=2) (by decide), ?_⟩
      walk_at "go"
      refine rd_places T rfl hp fun lp hlp=>⟨lp,_,_,_,rfl,rfl,SqL.of hlp,pl_at' g (j:=3) (by decide),a,N,cs,Fm.pn c 2,Fm.pn c 3,rfl,hcols,by omega,by omega,by omega,k⟩
    rw [if_neg h11] at k
    refine ⟨_,rfl,_,rfl,b,st,c,rfl,hp,g,fun H1 s1=>⟨_,rfl,ite_v (fun hv => ?_) (fun hv => ?_)⟩⟩
    · rw [if_pos hv] at k
      have n2:=Fm.node2_le R hmem h3
      refine ⟨_,rfl,a,dx,_,rfl,s1 _ _ hc1,cfs_no _ _ _ (by decide +kernel) (by decide +kernel) (by decide +kernel), ?_⟩
      walk_at "go"
      refine rd_places T rfl (hp.same s1) fun lp hlp=>⟨lp,_,_,_,rfl,rfl,SqL.of hlp,pl_at' g (j:=0) (by decide), ?_⟩
      walk_at "go"
      exact rd_places T rfl (hp.same s1) fun lp hlp=>⟨lp,_,_,_,rfl,rfl,SqL.of hlp,pl_at' g (j:=1) (by decide),a,N,cs,Fm.pn c 0,Fm.pn c 1,rfl,hcols.same s1,by omega,by omega,by omega,k.same s1⟩
    · rw [if_neg (by rw [hv];simp)] at k
      refine ⟨_,rfl,a,dx,_,rfl,s1 _ _ hc1,cfs_no _ _ _ (by decide +kernel) (by decide +kernel) (by decide +kernel), ?_⟩
      exact ⟨_,rfl,a,Z.Columns,dx,_,_,rfl,s1 _ _ hc1,T.cl_Columns,T.n_Columns_currents,cfs_currents N cs l0,_,rfl,l0,_,_,_,rfl,rfl,SqL.of (s1 _ _ hc2),cur_at hj,a,N,cs,_,rfl,hcols.same s1,by omega,hcur,k.same s1⟩
theorem ok_factor_form (F:Fun K "factor_form" "factor_form" s_factor_form f fd) (T:Txt K mg Z) (m_Columns_nothing:Mth P w K mg base 1 Z.Columns "nothing" ["self"] (spNothing Z.Columns))
    (m_Columns_single:Mth P w K mg base 2 Z.Columns "single" ["self", "column"] (spSingle Z.Columns)) (m_Columns_between:Mth P w K mg base 2 Z.Columns "between" ["self", "first", "second"] (spBetween Z.Columns)) :
    FnOk P w K mg base CX0 3 f fd ["parts", "k", "state", "columns"] (spEltF K Z.Part Z.Columns Fm.facF):=by
  refine F.ok sc_factor_form (fun vs H Q E h => ?_) (fun cdv A outer s H vs Q E hr h => ?_)
  · obtain ⟨l,a,N,cs,j,st,rfl,_⟩:=h
    rfl
  · obtain ⟨l,a,N,cs,j,st,rfl,⟨⟨ys,hy,pr⟩,hcols,R,hj⟩,h3,k⟩:=h
    refine ⟨_,(pss_cons (ps_set (i:=4) sc_factor_form.nd rfl (Or.inl rfl) (pe_ix (ix_listK K) (pv 0) (pv 1) (fun _ _=>rfl)))
      (pss_cons (ps_if (pt_cmp (pc_eqI (pe_fldK K (pv 4) rfl) (pe_gi T.g_RESISTOR))) (pss_one (ps_ret (pe_mth m_Columns_single hr (pv 3) (pa_cons (pe_ix (ix_listK K) (pe_fldK K (pv 3) rfl) (pv 1) (fun _ _=>rfl)) pa_nil)))) pss_nil)
      (pss_cons (ps_if (PW.pt (pw_or (pt_cmpR (op_inK K) (pe_fldK K (pv 4) rfl) (pe_tup (pa_cons (pe_gi T.g_VOLTAGE_SOURCE) (pa_cons (pe_gi T.g_CURRENT_SOURCE) pa_nil))) (by with_unfolding_all rfl)) (pw_or1 (PW.pt (pw_and (pt_cmp (pc_eqI (pe_fldK K (pv 4) rfl) (pe_gi T.g_DIODE))) (pw_and1 (pt_cmp (pc_eqI (pv 2) pe_int)))))))) (pss_one (ps_ret (pe_mth m_Columns_single hr (pv 3) (pa_cons (pe_fldK K (pv 3) rfl) pa_nil)))) pss_nil)
      (pss_cons (ps_if (pt_cmpR (op_inK K) (pe_fldK K (pv 4) rfl) (pe_tup (pa_cons (pe_gi T.g_VOLTAGE_BY_VOLTAGE) (pa_cons (pe_gi T.g_CURRENT_BY_VOLTAGE) (pa_cons (pe_gi T.g_TRANSFORMER) pa_nil)))) (by with_unfolding_all rfl)) (pss_one (ps_ret (pe_mth m_Columns_between hr (pv 3) (pa_cons (pe_ix (ix_listK K) (pe_fldK K (pv 4) rfl) pe_int (fun _ _=>rfl)) (pa_cons (pe_ix (ix_listK K) (pe_fldK K (pv 4) rfl) pe_int (fun _ _=>rfl)) pa_nil))))) pss_nil)
      (pss_cons (ps_if (pt_cmpR (op_inK K) (pe_fldK K (pv 4) rfl) (pe_tup (pa_cons (pe_gi T.g_VOLTAGE_BY_CURRENT) (pa_cons (pe_gi T.g_CURRENT_BY_CURRENT) pa_nil))) (by with_unfolding_all rfl)) (pss_one (ps_ret (pe_mth m_Columns_single hr (pv 3) (pa_cons (pe_ix (ix_listK K) (pe_fldK K (pv 3) rfl) (pe_ix (ix_listK K) (pe_fldK K (pv 4) rfl) pe_int (fun _ _=>rfl)) (fun _ _=>rfl)) pa_nil)))) pss_nil)
      (pss_one (ps_ret (pe_mth0 m_Columns_nothing hr (pv 3))))))))), ?_⟩
    obtain ⟨b,hb,hp,hc⟩:=part_at (K:=K) pr hj
    have hmem:=List.mem_of_getElem? hc
    have g:=R.good _ hmem
    have hw:=Fm.one_le R.n8 R.len
    have hnl:=Fm.node_le R hmem
    have href:=R.ref j _ hc
    have hcur:Fm.cur N cs j ≤ Fm.one N cs:=Fm.cur_le _ _ _
    unfold Fm.facF at k
    dsimp only at k
    generalize hcc:cs.getD j [] = c at *
    refine ⟨_,rfl,_,rfl,l,_,_,_,rfl,rfl,hy,atI_nat hb, ?_⟩
    walk_at "go"
    obtain ⟨dx,l0,hc1,hc2⟩:=hcols.ex
    refine rd_kind T rfl hp ⟨_,_,rfl,rfl,_,rfl,ite_b (fun h0 => ?_) (fun h0 => ?_)⟩
    · rw [if_pos h0] at k
      refine ⟨_,rfl,a,dx,_,rfl,hc1,cfs_no _ _ _ (by decide +kernel) (by decide +kernel) (by decide +kernel), ?_⟩
      exact ⟨_,rfl,a,Z.Columns,dx,_,_,rfl,hc1,T.cl_Columns,T.n_Columns_currents,cfs_currents N cs l0,_,rfl,l0,_,_,_,rfl,rfl,SqL.of hc2,cur_at hj,a,N,cs,_,rfl,hcols,by omega,hcur,k⟩
    rw [if_neg h0] at k
    have one_:∀ H1,Same H H1 → (h:(Jm.kd c = 4 ∨ Jm.kd c = 5) ∨ (Jm.kd c = 13 ∧ st = 1)) → Ret H1 Q (Fm.single (Fm.one N cs) (Fm.one N cs)):=fun H1 s1 h=>by
      rw [if_pos h] at k
      exact k.same s1
    have go2:∀ H1,Same H H1 → ¬ ((Jm.kd c = 4 ∨ Jm.kd c = 5) ∨ (Jm.kd c = 13 ∧ st = 1)) → Ret H1 Q (if Jm.kd c = 6 ∨ Jm.kd c = 7 ∨ Jm.kd c = 10 then Fm.between (Fm.one N cs) (Fm.pn c 2) (Fm.pn c 3) else if Jm.kd c = 8 ∨ Jm.kd c = 9 then Fm.single (Fm.one N cs) (Fm.cur N cs (Fm.pn c 2)) else Fm.zero (Fm.one N cs)):=fun H1 s1 h=>by
      rw [if_neg h] at k
      exact k.same s1
    have sgl:∀ H1,Same H H1 → ((Jm.kd c = 4 ∨ Jm.kd c = 5) ∨ (Jm.kd c = 13 ∧ st = 1)) → tMt Z.Columns "single" (spSingle Z.Columns) (tVar 3) (tCons (tFld K (tVar 3) "one") tNil) [some (.ref l),some (.int j),some (.int st),some (.ref a),some (.ref b)] H1 Q:=fun H1 s1 h =>
      ⟨_,rfl,a,dx,_,rfl,s1 _ _ hc1,cfs_no _ _ _ (by decide +kernel) (by decide +kernel) (by decide +kernel),_,rfl,a,Z.Columns,dx,_,_,rfl,s1 _ _ hc1,T.cl_Columns,T.n_Columns_one,cfs_one N cs l0,a,N,cs,_,rfl,hcols.same s1,by omega,Nat.le_refl _,one_ H1 s1 h⟩
    walk_at "go"
    refine rd_kind T rfl hp ⟨(by show 2 ≤ sizeLine;decide),fun t ht=>⟨t,_,rfl, .inr (SqT.of upd_same),rfl,rfl,_,rfl,ite_in (Jm.kd c) [4,5] (fun h45=>iteT ?_) (fun h45 => ?_)⟩⟩
    · exact sgl _ (same_new ht) (.inl (by simpa using h45))
    have s1:=same_new (u := .tup [.int 4, .int 5]) ht
    have n45:¬ (Jm.kd c = 4 ∨ Jm.kd c = 5):=fun z=>h45 (by simpa using z)
    by_cases hB:Jm.kd c = 13 ∧ st = 1
    · walk_at "go"
      exact rd_kind T rfl (hp.same s1) ⟨_,_,rfl,rfl,_,rfl,ite_b (fun h13=>⟨_,rfl,_,_,rfl,rfl,_,rfl,ite_b (fun _=>sgl _ s1 (.inr hB)) (fun z=>absurd hB.2 z)⟩) (fun z=>absurd hB.1 z)⟩
    have nB:¬ ((Jm.kd c = 4 ∨ Jm.kd c = 5) ∨ (Jm.kd c = 13 ∧ st = 1)):=fun z=>z.elim n45 hB
    walk_at "go"
    refine rd_kind T rfl (hp.same s1) ⟨_,_,rfl,rfl,_,rfl,(fun hb=>ite_b (fun h13=>⟨_,rfl,_,_,rfl,rfl,_,rfl,ite_b (fun h2=>absurd ⟨h13,h2⟩ hB) (fun _=>hb)⟩) (fun _=>iteF hb)) ?_⟩
    have k2:=go2 _ s1 nB
    walk_at "go"
    refine rd_kind T rfl (hp.same s1) ⟨(by show 3 ≤ sizeLine;decide),fun t2 ht2=>⟨t2,_,rfl, .inr (SqT.of upd_same),rfl,rfl,_,rfl,ite_in (Jm.kd c) [6,7,10] (fun h6 => ?_) (fun h6 => ?_)⟩⟩
    · have h6':Jm.kd c = 6 ∨ Jm.kd c = 7 ∨ Jm.kd c = 10:=by simpa using h6
      rw [if_pos h6'] at k2
      have n4:=hnl (by rcases h6' with q | q | q <;> rw [q] <;> decide)
      have s2:=s1.trans (same_new (u := .tup [.int 6, .int 7, .int 10]) ht2)
      have k3:=k2.same (same_new (u := .tup [.int 6, .int 7, .int 10]) ht2)
      refine ⟨_,rfl,a,dx,_,rfl,s2 _ _ hc1,cfs_no _ _ _ (by decide +kernel) (by decide +kernel) (by decide +kernel), ?_⟩
      walk_at "go"
      refine rd_places T rfl (hp.same s2) fun lp hlp=>⟨lp,_,_,_,rfl,rfl,SqL.of hlp,pl_at' g (j:=2) (by decide), ?_⟩
      walk_at "go"
      exact rd_places T rfl (hp.same s2) fun lp hlp=>⟨lp,_,_,_,rfl,rfl,SqL.of hlp,pl_at' g (j:=3) (by decide),a,N,cs,Fm.pn c 2,Fm.pn c 3,rfl,hcols.same s2,by omega,by omega,by omega,k3⟩
    have h6':¬ (Jm.kd c = 6 ∨ Jm.kd c = 7 ∨ Jm.kd c = 10):=fun z=>h6 (by simpa using z)
    rw [if_neg h6'] at k2
    have s2:=s1.trans (same_new (u := .tup [.int 6, .int 7, .int 10]) ht2)
    have k3:=k2.same (same_new (u := .tup [.int 6, .int 7, .int 10]) ht2)
    walk_at "go"
    refine rd_kind T rfl (hp.same s2) ⟨(by show 2 ≤ sizeLine;decide),fun t3 ht3=>⟨t3,_,rfl, .inr (SqT.of upd_same),rfl,rfl,_,rfl,ite_in (Jm.kd c) [8,9] (fun h8 => ?_) (fun h8 => ?_)⟩⟩
    · have h8':Jm.kd c = 8 ∨ Jm.kd c = 9:=by simpa using h8
      rw [if_pos h8'] at k3
      have s3:=s2.trans (same_new (u := .tup [.int 8, .int 9]) ht3)
      have k4:=k3.same (same_new (u := .tup [.int 8, .int 9]) ht3)
      have hlt:Fm.pn c 2 < cs.length:=by have:=(href h8').1;omega
      refine ⟨_,rfl,a,dx,_,rfl,s3 _ _ hc1,cfs_no _ _ _ (by decide +kernel) (by decide +kernel) (by decide +kernel), ?_⟩
      refine ⟨_,rfl,a,Z.Columns,dx,_,_,rfl,s3 _ _ hc1,T.cl_Columns,T.n_Columns_currents,cfs_currents N cs l0, ?_⟩
      walk_at "go"
      exact rd_places T rfl (hp.same s3) fun lp hlp=>⟨lp,_,_,_,rfl,rfl,SqL.of hlp,pl_at' g (j:=2) (by decide),l0,_,_,_,rfl,rfl,SqL.of (s3 _ _ hc2),cur_at hlt,a,N,cs,_,rfl,hcols.same s3,by omega,Fm.cur_le _ _ _,k4⟩
    · have h8':¬ (Jm.kd c = 8 ∨ Jm.kd c = 9):=fun z=>h8 (by simpa using z)
      rw [if_neg h8'] at k3
      have s3:=s2.trans (same_new (u := .tup [.int 8, .int 9]) ht3)
      have k4:=k3.same (same_new (u := .tup [.int 8, .int 9]) ht3)
      exact ⟨_,rfl,a,dx,_,rfl,s3 _ _ hc1,cfs_no _ _ _ (by decide +kernel) (by decide +kernel) (by decide +kernel),a,N,cs,rfl,hcols.same s3,by omega,k4⟩
theorem ok_part_laws (F:Fun K "part_laws" "part_laws" s_part_laws f fd) (T:Txt K mg Z) (m_Law:Mak P w K mg base 1 "Law" Z.Law ["self", "told", "factor", "part"] (spLawInit Z.Part Z.Law))
    (c_told_form:Cal P w K mg base 3 "told_form" ["parts", "k", "state", "columns"] (spEltF K Z.Part Z.Columns Fm.toldF)) (c_factor_form:Cal P w K mg base 3 "factor_form" ["parts", "k", "state", "columns"] (spEltF K Z.Part Z.Columns Fm.facF))
    (c_times:Cal P w K mg base 1 "times" ["factor", "form"] (spTimes K)) (m_Columns_single:Mth P w K mg base 2 Z.Columns "single" ["self", "column"] (spSingle Z.Columns)) :
    FnOk P w K mg base CX0 4 f fd ["parts", "k", "state", "columns"] (spPartLaws K Z.Part Z.Columns Z.Law):=by
  refine F.ok sc_part_laws (fun vs H Q E h => ?_) (fun cdv A outer s H vs Q E hr h => ?_)
  · obtain ⟨l,a,N,cs,j,st,rfl,_⟩:=h
    rfl
  · obtain ⟨l,a,N,cs,j,st,rfl,el,k⟩:=h
    obtain ⟨⟨ys,hy,pr⟩,hcols,R,hj⟩:=id el
    refine ⟨_,(pss_cons (ps_set (i:=4) sc_part_laws.nd rfl (Or.inl rfl) (pe_ix (ix_listK K) (pv 0) (pv 1) (fun _ _=>rfl)))
      (pss_cons (ps_if (pt_cmp (pc_eqI (pe_ix (ix_tupK K) (pe_gr T.g_CURRENT_COUNTS) (pe_fldK K (pv 4) rfl) (fun _ _=>rfl)) pe_int)) (pss_one (ps_ret (pe_lst pa_nil))) pss_nil)
      (pss_cons (ps_set (i:=5) sc_part_laws.nd rfl (Or.inl rfl) (pe_lst (pa_cons (pe_mak m_Law hr (pa_cons (pe_cal c_told_form hr (pa_cons (pv 0) (pa_cons (pv 1) (pa_cons (pv 2) (pa_cons (pv 3) pa_nil))))) (pa_cons (pe_cal c_factor_form hr (pa_cons (pv 0) (pa_cons (pv 1) (pa_cons (pv 2) (pa_cons (pv 3) pa_nil))))) (pa_cons (pv 4) pa_nil)))) pa_nil)))
      (pss_cons (ps_if (pt_cmp (pc_eqI (pe_fldK K (pv 4) rfl) (pe_gi T.g_TRANSFORMER))) (pss_cons (ps_set (i:=6) sc_part_laws.nd rfl (Or.inl rfl) (pe_mth m_Columns_single hr (pv 3) (pa_cons (pe_ix (ix_listK K) (pe_fldK K (pv 3) rfl) (pv 1) (fun _ _=>rfl)) pa_nil)))
      (pss_one (ps_expr (pe_bm PySem.F.plainAttrs_list PySem.F.slot_list_append PySem.F.type_list_append mt_append (pv 5) (pa_cons (pe_mak m_Law hr (pa_cons (pe_mth m_Columns_single hr (pv 3) (pa_cons (pe_op op_add (pe_ix (ix_listK K) (pe_fldK K (pv 3) rfl) (pv 1) (fun _ _=>rfl)) pe_int) pa_nil)) (pa_cons (pe_cal c_times hr (pa_cons (pe_un un_neg pe_int) (pa_cons (pv 6) pa_nil))) (pa_cons (pv 4) pa_nil)))) pa_nil))))) pss_nil)
      (pss_one (ps_ret (pv 5))))))), ?_⟩
    obtain ⟨b,hb,hp,hc⟩:=part_at (K:=K) pr hj
    have hmem:=List.mem_of_getElem? hc
    have g:=R.good _ hmem
    have hw:=Fm.one_le R.n8 R.len
    have hcur:=Fm.cur_lt (N:=N) hc
    unfold Fm.lawsOf at k
    dsimp only at k
    have el':∀ H1,Same H H1 → Elt K Z.Part Z.Columns H1 l a N cs j:=fun H1 s1=>⟨el.1.same s1,hcols.same s1,R,hj⟩
    generalize hcc:cs.getD j [] = c at *
    refine ⟨_,rfl,_,rfl,l,_,_,_,rfl,rfl,hy,atI_nat hb, ?_⟩
    walk_at "go"
    obtain ⟨dx,l0,hc1,hc2⟩:=hcols.ex
    refine rd_kind T rfl hp ⟨Z.CURRENT_COUNTS,_,_,_,rfl,rfl,T.s_CURRENT_COUNTS _,count_at g (by decide),_,_,rfl,rfl,_,rfl,ite_b (fun h0 => ?_) (fun h0 => ?_)⟩
    · have h0':Fm.cc c = 0:=by
        have:((Fm.cc c:Nat):Int) = 0:=by rw [cc_cast];exact h0
        omega
      rw [if_pos h0'] at k
      exact ⟨Nat.zero_le _,fun q hq=>k _ q (same_new hq) ⟨[],newer_at hq upd_same, .nil⟩⟩
    have h0':Fm.cc c ≠ 0:=fun z=>h0 (by
      have:((Fm.cc c:Nat):Int) = 0:=by rw [z];rfl
      rw [cc_cast] at this
      exact this)
    rw [if_neg h0'] at k
    refine ⟨_,rfl,_,rfl,_,rfl,_,rfl,l,a,N,cs,j,st,rfl,el,(by rw [hcc];exact h0'),fun H1 t1 s1 n1 g1 => ?_⟩
    refine ⟨_,rfl,_,rfl,_,rfl,_,rfl,l,a,N,cs,j,st,rfl,el' _ s1,(by rw [hcc];exact h0'),fun H2 f2 s2 n2 g2 => ?_⟩
    have s12:=s1.trans s2
    refine ⟨_,rfl,fun x dx1 nx ndx nex=>⟨x,dx1,t1,f2,b,Fm.toldF N cs j st,Fm.facF N cs j st,c,H2,rfl,upd_same,made_same nx ndx,nx,hp.same s12,fun H3 s3 g3=>⟨rfl, ?_⟩⟩⟩
    have s13:=s12.trans s3
    refine ⟨(by show 1 ≤ sizeLine;decide),fun q hq => ?_⟩
    have s4:=same_new (u := .lst [.ref x]) hq
    have s14:=s13.trans s4
    have m1:H f2 = none:=s1.free n2
    have m2:H x = none:=s12.free nx
    have nq:H q = none:=s13.free hq
    have lv:LV Z.Law ⟨Fm.toldF N cs j st,Fm.facF N cs j st,Jm.tp c,Jm.bt c⟩ (.ref x) (newer H (upd H3 q (.lst [.ref x]))):=⟨x,dx1,t1,f2,rfl,newer_at m2 (s4 _ _ g3),newer_at n1 (s4 _ _ (s3 _ _ (s2 _ _ g1))),newer_at m1 (s4 _ _ (s3 _ _ g2))⟩
    walk_at "go"
    refine rd_kind T rfl (hp.same s14) ⟨_,_,rfl,rfl,_,rfl,ite_b (fun h10 => ?_) (fun h10 => ?_)⟩
    rotate_left
    · rw [if_neg h10] at k
      exact ⟨_,rfl,k _ q s14 ⟨[.ref x],newer_at nq upd_same, .cons lv .nil⟩⟩
    rw [if_pos h10] at k
    have hcc2:Fm.cc c = 2:=by unfold Fm.cc;rw [h10];rfl
    refine ⟨_,rfl,a,dx,_,rfl,s14 _ _ hc1,cfs_no _ _ _ (by decide +kernel) (by decide +kernel) (by decide +kernel), ?_⟩
    refine ⟨_,rfl,a,Z.Columns,dx,_,_,rfl,s14 _ _ hc1,T.cl_Columns,T.n_Columns_currents,cfs_currents N cs l0,_,rfl,l0,_,_,_,rfl,rfl,SqL.of (s14 _ _ hc2),cur_at hj,a,N,cs,_,rfl,hcols.same s14,by omega,by omega,fun H5 u5 s5 n5 g5 => ?_⟩
    have s15:=s14.trans s5
    refine ⟨_,rfl, .inl ⟨rfl,_,SqL.of (s5 _ _ upd_same)⟩, ?_⟩
    refine ⟨_,rfl,a,dx,_,rfl,s15 _ _ hc1,cfs_no _ _ _ (by decide +kernel) (by decide +kernel) (by decide +kernel), ?_⟩
    refine ⟨_,rfl,a,Z.Columns,dx,_,_,rfl,s15 _ _ hc1,T.cl_Columns,T.n_Columns_currents,cfs_currents N cs l0,_,rfl,l0,_,_,_,rfl,rfl,SqL.of (s15 _ _ hc2),cur_at hj,_,_,rfl,rfl,a,N,cs,Fm.cur N cs j + 1,rfl,hcols.same s15,by omega,by omega,fun H6 t6 s6 n6 g6 => ?_⟩
    have s16:=s15.trans s6
    refine ⟨_,rfl,_,rfl,u5,_,_,rfl,SqL.of (s6 _ _ g5), .one (by decide),fun x hx => .one (Fm.abs_single _ _ x hx),(by rw [Fm.len_single];omega),fun H7 f7 s7 n7 g7 => ?_⟩
    have s17:=s16.trans s7
    refine ⟨_,rfl,fun x2 dx2 nx2 ndx2 nex2=>⟨x2,dx2,t6,f7,b,Fm.single (Fm.one N cs) (Fm.cur N cs j + 1),Fm.times (-1) (Fm.single (Fm.one N cs) (Fm.cur N cs j)),c,H7,rfl,upd_same,made_same nx2 ndx2,nx2,hp.same s17,fun H8 s8 g8=>⟨rfl, ?_⟩⟩⟩
    have s58:Same (upd H3 q (.lst [.ref x])) H8:=((s5.trans s6).trans s7).trans s8
    refine ⟨q,_,_,rfl,rfl,s58 _ _ upd_same,(by show 1 < sizeLine;decide),_,rfl, ?_⟩
    have s18:Same H (upd H8 q (.lst [.ref x, .ref x2])):=same_upd (s17.trans s8) nq
    have ne1:∀ {b':Addr} {o:HO},H3 b' = some o → b' ≠ q:=fun e z=>by rw [z] at e;rw [hq] at e;cases e
    have up8:∀ {b':Addr} {o:HO},H b' = none → H8 b' = some o → b' ≠ q → (newer H (upd H8 q (.lst [.ref x, .ref x2]))) b' = some o:=fun n e z=>newer_at n (by rw [upd_ne z];exact e)
    have q58:H8 q = some (.lst [.ref x]):=s58 _ _ upd_same
    refine k _ q s18 ⟨[.ref x, .ref x2],newer_at nq upd_same, .cons ⟨x,dx1,t1,f2,rfl,up8 m2 (s58 _ _ (s4 _ _ g3)) (ne1 g3),up8 n1 (s58 _ _ (s4 _ _ (s3 _ _ (s2 _ _ g1)))) (ne1 (s3 _ _ (s2 _ _ g1))),up8 m1 (s58 _ _ (s4 _ _ (s3 _ _ g2))) (ne1 (s3 _ _ g2))⟩ (.cons ⟨x2,dx2,t6,f7,rfl,up8 (s17.free nx2) g8 ?_,up8 (s15.free n6) (s8 _ _ (s7 _ _ g6)) ?_,up8 (s16.free n7) (s8 _ _ g7) ?_⟩ .nil)⟩
    · exact fun z=>by rw [z,q58] at g8;cases g8
    · have hq5:H5 q = some (.lst [.ref x]):=s5 _ _ upd_same
      exact fun z=>by rw [z,hq5] at n6;cases n6
    · have hq6:H6 q = some (.lst [.ref x]):=s6 _ _ (s5 _ _ upd_same)
      exact fun z=>by rw [z,hq6] at n7;cases n7
theorem ok_all_part_laws (F:Fun K "all_part_laws" "all_part_laws" s_all_part_laws f fd) (T:Txt K mg Z) (c_part_laws:Cal P w K mg base 4 "part_laws" ["parts", "k", "state", "columns"] (spPartLaws K Z.Part Z.Columns Z.Law)) :
    FnOk P w K mg base CX0 5 f fd ["parts", "states", "columns"] (spAllLaws K Z.Part Z.Columns Z.Law):=by
  refine F.ok sc_all_part_laws (fun vs H Q E h => ?_) (fun cdv A outer s H vs Q E hr h => ?_)
  · obtain ⟨l,t,a,N,cs,sts,rfl,_⟩:=h
    rfl
  · obtain ⟨l,t,a,N,cs,sts,rfl,hps,hcols,R,ht,hlen,k⟩:=h
    refine ⟨_,(pss_cons (ps_set (i:=3) sc_all_part_laws.nd rfl (Or.inl rfl) (pe_lst pa_nil))
      (pss_cons (ps_for PassesOwn.never rfl (pi_enumK K rfl T.b_enumerate (pa_cons (pv 1) pa_nil)) (pg_tupK K (n:=2) rfl (pgs_cons (pg_name (i:=4) sc_all_part_laws.nd rfl (Or.inl rfl)) (pgs_cons (pg_name (i:=5) sc_all_part_laws.nd rfl (Or.inl rfl)) pgs_nil))) (pss_one (ps_expr (pe_bm PySem.F.plainAttrs_list PySem.F.slot_list_extend PySem.F.type_list_extend mt_extend (pv 3) (pa_cons (pe_cal c_part_laws hr (pa_cons (pv 0) (pa_cons (pv 4) (pa_cons (pv 5) (pa_cons (pv 2) pa_nil))))) pa_nil)))))
      (pss_one (ps_ret (pv 3))))), ?_⟩
    refine ⟨Nat.zero_le _,fun q hq => ?_⟩
    have s1:=same_new (u := .lst []) hq
    have lens:∀ i,i ≤ sts.length → ((List.range i).flatMap fun k=>Fm.lawsOf N cs k (sts.getD k 0)).length ≤ 2 * i:=by
      intro i
      induction i with
      | zero=>intro _;exact Nat.le_refl _
      | succ i ih =>
        intro hi
        rw [List.range_succ,List.flatMap_append,List.length_append]
        have h1:=ih (by omega)
        have h2:([i].flatMap fun k=>Fm.lawsOf N cs k (sts.getD k 0)).length ≤ 2:=by
          rw [List.flatMap_singleton]
          exact Fm.lawsOf_len _ _ _ _
        omega
    have hl14:=R.len
    refine ⟨_,rfl,t,_,rfl,SqL.of (s1 _ _ ht),for_enum (K:=K) (a:=t) (xs:=sts.map V.int) (fun i σ H' => ∃ v4 v5:Option V, σ = [some (.ref l),some (.ref t),some (.ref a),some (.ref q),v4,v5] ∧ Same H H' ∧ ∃ ys,H' q = some (.lst ys) ∧ Paired (fun d y=>LV Z.Law d y (hid q H')) ((List.range i).flatMap fun k=>Fm.lawsOf N cs k (sts.getD k 0)) ys)
      ⟨none,none,rfl,s1,[],upd_same, .nil⟩ (fun i σ H' _ ⟨_,_,_,s2,_⟩=>SqL.of (s2 _ _ ht)) ?_ ?_⟩
    · rintro i x σ H2 Tt hx ⟨v4,v5,rfl,s2,ys,hys,pr⟩ hTt
      have hi:i < sts.length:=by have:=(List.getElem?_eq_some_iff.mp hx).1;rw [List.length_map] at this;exact this
      have e:x = V.int (sts.getD i 0):=by
        rw [List.getElem?_map,List.getElem?_eq_getElem hi] at hx
        rw [List.getD_eq_getElem?_getD,List.getElem?_eq_getElem hi]
        exact (Option.some.inj hx).symm
      subst e
      have s3:=same_new (u := .tup [.int (i:Nat), .int (sts.getD i 0)]) hTt
      have s23:=s2.trans s3
      refine ⟨Tt,_,rfl,SqT.of upd_same,rfl,_,_,rfl,_,_,rfl,rfl, ?_⟩
      refine ⟨_,rfl, .inl ⟨rfl,_,SqL.of (s3 _ _ hys)⟩,_,rfl,_,rfl,_,rfl,_,rfl,l,a,N,cs,i,sts.getD i 0,rfl,⟨hps.same s23,hcols.same s23,R,by omega⟩,fun H4 q4 s4 ⟨zs,hz,pz⟩ => ?_⟩
      have s34:=s3.trans s4
      have hl1:=pr.length
      have hl2:=pz.length
      have hl3:=lens i (by omega)
      have hl4:=Fm.lawsOf_len N cs i (sts.getD i 0)
      refine ⟨q,q4,_,_,rfl,rfl,s34 _ _ hys,newer_le _ _ _ _ hz,small_line (by omega),some (.int (i:Nat)),some (.int (sts.getD i 0)),rfl,same_upd (s2.trans s34) hq,ys ++ zs,upd_same, ?_⟩
      rw [List.range_succ,List.flatMap_append,List.flatMap_singleton]
      exact paired_append (paired_same LV.same ((hid_mono s34).trans hid_upd) pr) (paired_same LV.same ((newer_hid (s3 _ _ hys)).trans hid_upd) pz)
    · rintro σ H2 ⟨v4,v5,rfl,s2,ys,g2,pr⟩
      refine ⟨_,rfl,k _ q s2 ⟨ys,g2,paired_same LV.same (hid_le q H2) ?_⟩⟩
      rw [List.length_map] at pr
      exact pr
theorem ok_branches_of (F:Fun K "branches_of" "branches_of" s_branches_of f fd) (T:Txt K mg Z):FnOk P w K mg base CX0 1 f fd ["parts", "columns"] (spBranches K Z.Part Z.Columns):=by
  refine F.ok sc_branches_of (fun vs H Q E h => ?_) (fun cdv A outer s H vs Q E hr h => ?_)
  · obtain ⟨l,a,N,cs,rfl,_⟩:=h
    rfl
  · obtain ⟨l,a,N,cs,rfl,⟨ys,hy,pr⟩,hcols,R,k⟩:=h
    refine ⟨_,(pss_cons (ps_set (i:=2) sc_branches_of.nd rfl (Or.inl rfl) (pe_lst pa_nil))
      (pss_cons (ps_for PassesOwn.never rfl (pi_zipK K rfl T.b_zip (pa_cons (pv 0) (pa_cons (pe_fldK K (pv 1) rfl) pa_nil))) (pg_tupK K (n:=2) rfl (pgs_cons (pg_name (i:=3) sc_branches_of.nd rfl (Or.inl rfl)) (pgs_cons (pg_name (i:=4) sc_branches_of.nd rfl (Or.inl rfl)) pgs_nil))) (pss_cons (ps_if (pt_cmp (pc_gt (pe_ix (ix_tupK K) (pe_gr T.g_CURRENT_COUNTS) (pe_fldK K (pv 3) rfl) (fun _ _=>rfl)) pe_int)) (pss_one (ps_expr (pe_bm PySem.F.plainAttrs_list PySem.F.slot_list_append PySem.F.type_list_append mt_append (pv 2) (pa_cons (pe_tup (pa_cons (pe_ix (ix_listK K) (pe_fldK K (pv 3) rfl) pe_int (fun _ _=>rfl)) (pa_cons (pe_ix (ix_listK K) (pe_fldK K (pv 3) rfl) pe_int (fun _ _=>rfl)) (pa_cons (pv 4) pa_nil)))) pa_nil)))) pss_nil)
      (pss_one (ps_if (pt_cmp (pc_eqI (pe_fldK K (pv 3) rfl) (pe_gi T.g_TRANSFORMER))) (pss_one (ps_expr (pe_bm PySem.F.plainAttrs_list PySem.F.slot_list_append PySem.F.type_list_append mt_append (pv 2) (pa_cons (pe_tup (pa_cons (pe_ix (ix_listK K) (pe_fldK K (pv 3) rfl) pe_int (fun _ _=>rfl)) (pa_cons (pe_ix (ix_listK K) (pe_fldK K (pv 3) rfl) pe_int (fun _ _=>rfl)) (pa_cons (pe_op op_add (pv 4) pe_int) pa_nil)))) pa_nil)))) pss_nil))))
      (pss_one (ps_ret (pv 2))))), ?_⟩
    obtain ⟨dx,l0,hc1,hc2⟩:=hcols.ex
    have hl:=pr.length
    refine ⟨Nat.zero_le _,fun q hq => ?_⟩
    have s1:=same_new (u := .lst []) hq
    have lens:∀ i,i ≤ cs.length → ((List.range i).flatMap (Fm.branchAt N cs)).length ≤ 2 * i:=by
      intro i
      induction i with
      | zero=>intro _;exact Nat.le_refl _
      | succ i ih =>
        intro hi
        rw [List.range_succ,List.flatMap_append,List.length_append]
        have h1:=ih (by omega)
        have h2:([i].flatMap (Fm.branchAt N cs)).length ≤ 2:=by
          rw [List.flatMap_singleton]
          exact Fm.branchAt_len _ _ _
        omega
    have hl14:=R.len
    have hll:((Fm.curL N cs).map V.int).length = ys.length:=by rw [← hl];simp [Fm.curL]
    refine ⟨_,rfl,_,rfl,a,Z.Columns,dx,_,_,rfl,s1 _ _ hc1,T.cl_Columns,T.n_Columns_currents,cfs_currents N cs l0,l,l0,_,_,rfl,s1.seq hy,SqL.of (s1 _ _ hc2),for_zip (K:=K) (a:=l) (b:=l0) (xs:=ys) (ys:=(Fm.curL N cs).map V.int) (fun i σ H' => ∃ v3 v4:Option V, σ = [some (.ref l),some (.ref a),some (.ref q),v3,v4] ∧ Same H H' ∧ ∃ zs,H' q = some (.lst zs) ∧ Paired (fun b y=>BV b y (newer H H')) ((List.range i).flatMap (Fm.branchAt N cs)) zs)
      ⟨none,none,rfl,s1,[],upd_same, .nil⟩ hll (fun i σ H' _ ⟨_,_,_,s2,_⟩=>⟨s2.seq hy,SqL.of (s2 _ _ hc2)⟩) ?_ ?_⟩
    · rintro i x z σ H2 Tt hx hz ⟨v3,v4,rfl,s2,zs,hzs,pz⟩ hTt
      have hi:i < cs.length:=by rw [hl];exact (List.getElem?_eq_some_iff.mp hx).1
      obtain ⟨b,hb,hp,hc⟩:=part_at (K:=K) pr hi
      have e:x = .ref b:=Option.some.inj (hx.symm.trans hb)
      subst e
      have e:z = V.int (Fm.cur N cs i:Nat):=by
        have:=cur_at (N:=N) hi
        rw [atI_nat hz] at this
        exact Option.some.inj this
      subst e
      have g:=R.good _ (List.mem_of_getElem? hc)
      have hpz:=pz.length
      have hl3:=lens i (by omega)
      have s3:=same_new (u := .tup [.ref b, .int (Fm.cur N cs i:Nat)]) hTt
      have s23:=s2.trans s3
      have hb2:=Fm.branchAt_len N cs i
      have hbr:(List.range (i + 1)).flatMap (Fm.branchAt N cs) = (List.range i).flatMap (Fm.branchAt N cs) ++ Fm.branchAt N cs i:=by rw [List.range_succ,List.flatMap_append,List.flatMap_singleton]
      have hbA:Fm.branchAt N cs i = (if 0 < Fm.cc (cs.getD i []) then [(Fm.pn (cs.getD i []) 0,Fm.pn (cs.getD i []) 1,Fm.cur N cs i)] else []) ++ (if Jm.kd (cs.getD i []) = 10 then [(Fm.pn (cs.getD i []) 2,Fm.pn (cs.getD i []) 3,Fm.cur N cs i + 1)] else []):=rfl
      generalize hcc:cs.getD i [] = c at *
      refine ⟨Tt,_,rfl,SqT.of upd_same,rfl,_,_,rfl,_,_,rfl,rfl, ?_⟩
      walk_at "go"
      refine rd_kind T rfl (hp.same s23) ⟨Z.CURRENT_COUNTS,_,_,_,rfl,rfl,T.s_CURRENT_COUNTS _,count_at g (by decide),_,_,rfl,rfl,_,rfl,ite_b (fun h0 => ?_) (fun h0 => ?_)⟩
      · have h0':0 < Fm.cc c:=by
          have:(0:Int) < ((Fm.cc c:Nat):Int):=by rw [cc_cast];exact h0
          omega
        rw [if_pos h0'] at hbA
        refine ⟨_,rfl, .inl ⟨rfl,_,SqL.of (s3 _ _ hzs)⟩, ?_⟩
        walk_at "go"
        refine rd_places T rfl (hp.same s23) fun lp hlp=>⟨lp,_,_,_,rfl,rfl,SqL.of hlp,pl_at' g (j:=0) (by decide), ?_⟩
        walk_at "go"
        refine rd_places T rfl (hp.same s23) fun lp hlp=>⟨lp,_,_,_,rfl,rfl,SqL.of hlp,pl_at' g (j:=1) (by decide),_,rfl,(by show 3 ≤ sizeLine;decide),fun t1 ht1 => ?_⟩
        have s4:=s3.trans (same_new (u := .tup [.int (Fm.pn c 0:Nat), .int (Fm.pn c 1:Nat), .int (Fm.cur N cs i:Nat)]) ht1)
        refine ⟨q,_,_,rfl,rfl,s4 _ _ hzs,small_line' (by omega), ?_⟩
        have pz4:Paired (fun b' y=>BV b' y (newer H (upd (upd (upd H2 Tt (.tup [.ref b, .int (Fm.cur N cs i:Nat)])) t1 (.tup [.int (Fm.pn c 0:Nat), .int (Fm.pn c 1:Nat), .int (Fm.cur N cs i:Nat)])) q (.lst (zs ++ [.ref t1]))))) ((List.range i).flatMap (Fm.branchAt N cs) ++ [(Fm.pn c 0,Fm.pn c 1,Fm.cur N cs i)]) (zs ++ [.ref t1]):=by
          rw [newer_upd hq]
          exact (pz.mono fun b y h=>bv_upd (newer_at hq (s4 _ _ hzs)) (BV.same _ _ _ _ (newer_mono s4) h)).snoc (bv_upd (b:=(Fm.pn c 0,Fm.pn c 1,Fm.cur N cs i)) (newer_at hq (s4 _ _ hzs)) ⟨t1,rfl,newer_at (s23.free ht1) upd_same⟩)
        have s5:Same H (upd (upd (upd H2 Tt (.tup [.ref b, .int (Fm.cur N cs i:Nat)])) t1 (.tup [.int (Fm.pn c 0:Nat), .int (Fm.pn c 1:Nat), .int (Fm.cur N cs i:Nat)])) q (.lst (zs ++ [.ref t1]))):=same_upd (s2.trans s4) hq
        walk_at "go"
        refine rd_kind T rfl (hp.same s5) ⟨_,_,rfl,rfl,_,rfl,ite_b (fun h10 => ?_) (fun h10 => ?_)⟩
        · rw [if_pos h10] at hbA
          refine ⟨_,rfl, .inl ⟨rfl,_,SqL.of upd_same⟩, ?_⟩
          walk_at "go"
          refine rd_places T rfl (hp.same s5) fun lp hlp=>⟨lp,_,_,_,rfl,rfl,SqL.of hlp,pl_at' g (j:=2) (by decide), ?_⟩
          walk_at "go"
          refine rd_places T rfl (hp.same s5) fun lp hlp=>⟨lp,_,_,_,rfl,rfl,SqL.of hlp,pl_at' g (j:=3) (by decide),_,rfl,_,_,rfl,rfl,(by show 3 ≤ sizeLine;decide),fun t2 ht2 => ?_⟩
          have s6:=same_new (u := .tup [.int (Fm.pn c 2:Nat), .int (Fm.pn c 3:Nat), .int ((Fm.cur N cs i:Nat) + 1)]) ht2
          refine ⟨q,_,_,rfl,rfl,s6 _ _ upd_same,(by rw [List.length_append];exact small_line' (by simp;omega)),some (.ref b),some (.int (Fm.cur N cs i:Nat)),rfl,same_upd (s5.trans s6) hq,_,upd_same, ?_⟩
          rw [hbr,hbA, ← List.append_assoc,newer_upd hq]
          exact (pz4.mono fun b y h=>bv_upd (newer_at hq (s6 _ _ upd_same)) (BV.same _ _ _ _ (newer_mono s6) h)).snoc (bv_upd (b:=(Fm.pn c 2,Fm.pn c 3,Fm.cur N cs i + 1)) (newer_at hq (s6 _ _ upd_same)) ⟨t2,rfl,newer_at (s5.free ht2) upd_same⟩)
        · rw [if_neg h10,List.append_nil] at hbA
          refine ⟨some (.ref b),some (.int (Fm.cur N cs i:Nat)),rfl,s5,_,upd_same, ?_⟩
          rw [hbr,hbA]
          exact pz4
      · have h0':¬ 0 < Fm.cc c:=fun z=>h0 (by
          have:(0:Int) < ((Fm.cc c:Nat):Int):=by omega
          rw [cc_cast] at this
          exact this)
        rw [if_neg h0'] at hbA
        walk_at "go"
        refine rd_kind T rfl (hp.same s23) ⟨_,_,rfl,rfl,_,rfl,ite_b (fun h10 => ?_) (fun h10 => ?_)⟩
        · exfalso
          apply h0'
          unfold Fm.cc
          rw [h10]
          decide
        · rw [if_neg h10] at hbA
          refine ⟨some (.ref b),some (.int (Fm.cur N cs i:Nat)),rfl,s23,_,s3 _ _ hzs, ?_⟩
          rw [hbr,hbA,List.append_nil,List.append_nil]
          exact paired_same BV.same (newer_mono s3) pz
    · rintro σ H2 ⟨v3,v4,rfl,s2,zs,hzs,pz⟩
      refine ⟨_,rfl,k _ q zs s2 (newer_at hq hzs) ?_⟩
      rw [← hl] at pz
      exact pz
theorem ok_node_forms (F:Fun K "node_forms" "node_forms" s_node_forms f fd) (T:Txt K mg Z) (m_Columns_nothing:Mth P w K mg base 1 Z.Columns "nothing" ["self"] (spNothing Z.Columns)) (c_branches_of:Cal P w K mg base 1 "branches_of" ["parts", "columns"] (spBranches K Z.Part Z.Columns)) :
    FnOk P w K mg base CX0 2 f fd ["parts", "columns"] (spNodes K Z.Part Z.Columns):=by
  refine F.ok sc_node_forms (fun vs H Q E h => ?_) (fun cdv A outer s H vs Q E hr h => ?_)
  · obtain ⟨l,a,N,cs,rfl,_⟩:=h
    rfl
  · obtain ⟨l,a,N,cs,rfl,hps,hcols,R,k⟩:=h
    refine ⟨_,(pss_cons (ps_setLc (own:=[("node",6)]) (i:=2) rfl sc_node_forms.nd rfl rfl (sw_true rfl rfl rfl rfl) (pi_range1 rfl T.b_range (pa_cons (pe_fldK K (pv 1) rfl) pa_nil)) (blkOk_by (by (show L2.blkC ["parts", "columns", "forms", "left", "entered", "column", "node"] (defScope s_node_forms) _ _ = true);decide +kernel)) (fun _ _ _ _ _=>(pg_name (i:=6) sc_node_forms.nd rfl (Or.inl rfl))) (fun _ _ _ _ _=>pts_nil) (fun _ _ _ _ _=>(pe_mth0 m_Columns_nothing hr (pv 1))))
      (pss_cons (ps_for PassesOwn.never rfl (pi_listK K (pe_cal c_branches_of hr (pa_cons (pv 0) (pa_cons (pv 1) pa_nil)))) (pg_tupK K (n:=3) rfl (pgs_cons (pg_name (i:=3) sc_node_forms.nd rfl (Or.inl rfl)) (pgs_cons (pg_name (i:=4) sc_node_forms.nd rfl (Or.inl rfl)) (pgs_cons (pg_name (i:=5) sc_node_forms.nd rfl (Or.inl rfl)) pgs_nil)))) (pss_cons (ps_augS (pe_ix (ix_listK K) (pv 2) (pv 3) (fun _ _=>rfl)) (pv 5) (get_listK K) pe_int ip_add set_list)
      (pss_one (ps_augS (pe_ix (ix_listK K) (pv 2) (pv 4) (fun _ _=>rfl)) (pv 5) (get_listK K) pe_int ip_sub set_list))))
      (pss_one (ps_ret (pe_slice (sl_listK K) (pv 2) (po_some pe_int) po_none))))), ?_⟩
    obtain ⟨dx,l0,hc1,hc2⟩:=hcols.ex
    have hw:=Fm.one_le R.n8 R.len
    have hn8:=R.n8
    refine ⟨_,rfl,a,Z.Columns,dx,_,_,rfl,hc1,T.cl_Columns,T.n_Columns_nodes,cfs_nodes N cs l0,_,rfl,by omega,by omega,fun D hD => ?_⟩
    have en:((N:Int) + 1).toNat = N + 1:=by omega
    rw [en]
    refine L2.lc_range (n:=N + 1) (fun i H' => ∃ qs,Own H H' D qs (List.replicate i (Fm.zero (Fm.one N cs)))) ⟨[],same_new hD,hD,upd_same,List.nodup_nil,by simp,by simp,rfl,fun i hi=>by simp at hi⟩ (fun i H1 hi ⟨qs,O⟩ => ?_) (fun H1 ⟨qs,O⟩ => ?_)
    · refine ⟨rfl, ?_⟩
      refine ⟨_,rfl,a,dx,_,rfl,O.s _ _ hc1,cfs_no _ _ _ (by decide +kernel) (by decide +kernel) (by decide +kernel),a,N,cs,rfl,hcols.same O.s,by omega,fun H4 q4 s4 n4 g4 => ?_⟩
      have hlq:=O.len
      refine ⟨_,s4 _ _ O.d,(by rw [List.length_map,hlq,List.length_replicate];exact small_line' (by omega)),qs ++ [q4], ?_⟩
      rw [List.replicate_succ']
      exact own_snoc O s4 n4 g4
    refine ⟨_,rfl,_,rfl,l,a,N,cs,rfl,hps.same O.s,hcols.same O.s,R,fun H2 qb zs s2 hzs pz => ?_⟩
    have O2:=O.same s2
    have hbo:=Fm.branch_ok R
    have hpz:=pz.length
    refine ⟨qb,rfl,⟨_,SqL.of (newer_le _ _ _ _ hzs)⟩,for_list (K:=K) (a:=qb) (xs:=zs) (fun i σ H' => ∃ v3 v4 v5:Option V, σ = [some (.ref l),some (.ref a),some (.ref D),v3,v4,v5,none] ∧ Same (newer H1 H2) H' ∧ (∀ r ∈ ((Fm.branches N cs).take i).foldl Fm.bump2 (List.replicate (N + 1) (Fm.zero (Fm.one N cs))),r.length = Fm.one N cs + 1) ∧ (((Fm.branches N cs).take i).foldl Fm.bump2 (List.replicate (N + 1) (Fm.zero (Fm.one N cs)))).length = N + 1 ∧ Own H H' D qs (((Fm.branches N cs).take i).foldl Fm.bump2 (List.replicate (N + 1) (Fm.zero (Fm.one N cs)))))
      ⟨none,none,none,rfl,newer_le _ _,(fun r hr=>by rw [List.eq_of_mem_replicate hr,Fm.len_zero]),(by simp),O2⟩ (fun i σ H' _ ⟨_,_,_,_,h,_⟩=>SqL.of (h _ _ hzs)) ?_ ?_⟩
    · rintro i x σ H3 hx ⟨v3,v4,v5,rfl,s3,wid,len,O3⟩
      have hi:i < (Fm.branches N cs).length:=by rw [hpz];exact (List.getElem?_eq_some_iff.mp hx).1
      have hbi:(Fm.branches N cs)[i]? = some (Fm.branches N cs)[i]:=List.getElem?_eq_getElem hi
      obtain ⟨y,hy,t,rfl,ht⟩:=L2.paired_get pz hbi
      have e:x = .ref t:=Option.some.inj (hx.symm.trans hy)
      subst e
      have hb:=hbo _ (List.getElem_mem hi)
      have htk:(Fm.branches N cs).take (i + 1) = (Fm.branches N cs).take i ++ [(Fm.branches N cs)[i]]:=take_snoc hbi
      rw [htk,List.foldl_append]
      generalize (Fm.branches N cs)[i] = b at *
      generalize ((Fm.branches N cs).take i).foldl Fm.bump2 (List.replicate (N + 1) (Fm.zero (Fm.one N cs))) = rows at *
      have h1:b.1 < rows.length:=by omega
      have O4:=own_bump (j:=b.2.2) (d:=1) O3 h1
      have h2:b.2.1 < (Fm.bump rows b.1 b.2.2 1).length:=by rw [Fm.len_bump];omega
      have w4:=Fm.wid_bump (j:=b.2.2) (d:=1) wid h1
      have O5:=own_bump (j:=b.2.2) (d := -1) O4 h2
      have l1:b.2.2 < (rows.getD b.1 []).length:=by rw [wid _ (Red.mem_getD.mpr ⟨_,h1,rfl⟩)];omega
      have l2:b.2.2 < ((Fm.bump rows b.1 b.2.2 1).getD b.2.1 []).length:=by rw [w4 _ (Red.mem_getD.mpr ⟨_,h2,rfl⟩)];omega
      have hq1:H1 (qs.getD b.1 0) ≠ none:=fun z=>by
        have m:=O.at_ b.1 (by rw [List.length_replicate];omega)
        rw [z] at m
        cases m
      have hq2:H1 (qs.getD b.2.1 0) ≠ none:=fun z=>by
        have m:=O.at_ b.2.1 (by rw [List.length_replicate];omega)
        rw [z] at m
        cases m
      have nw:∀ {q:Addr},H1 q ≠ none → newer H1 H2 q = none:=fun {q} hq=>by
        cases z:H1 q with
        | none=>exact absurd z hq
        | some u=>exact newer_old z
      refine ⟨t,_,rfl,SqT.of (s3 _ _ ht),rfl,_,_,rfl,_,_,rfl,_,_,rfl,rfl, ?_⟩
      refine ⟨_,rfl,_,rfl,D,_,_,_,rfl,rfl,SqL.of O3.d,atI_nat (O3.get h1),_,rfl,_,_,_,_,rfl,rfl,SqL.of (O3.at_ _ h1),at_int l1,_,_,rfl,rfl,_,_,_,b.2.2,rfl,rfl,O3.at_ _ h1,ixN_nat (by rw [List.length_map];exact l1), ?_⟩
      refine ⟨_,rfl,_,rfl,D,_,_,_,rfl,rfl,SqL.of O4.d,atI_nat (O4.get h2),_,rfl,_,_,_,_,rfl,rfl,SqL.of (O4.at_ _ h2),at_int l2,_,_,rfl,rfl,_,_,_,b.2.2,rfl,rfl,O4.at_ _ h2,ixN_nat (by rw [List.length_map];exact l2), ?_⟩
      refine ⟨some (.int (b.1:Nat)),some (.int (b.2.1:Nat)),some (.int (b.2.2:Nat)),rfl,same_upd (same_upd s3 (nw hq1)) (nw hq2),Fm.wid_bump2 wid h1 (by omega),(by show (Fm.bump2 rows b).length = _;rw [Fm.len_bump2];exact len),O5⟩
    · rintro σ H3 ⟨v3,v4,v5,rfl,s3,wid,len,O3⟩
      refine ⟨_,rfl,_,rfl,D,_,rfl,SqL.of O3.d,fun p hp=>k _ p (O3.s.trans (same_new hp)) ?_⟩
      rw [← hpz,List.take_length] at O3
      have e:cutV (qs.map V.ref) (some 1) none = (qs.map V.ref).drop 1:=cut_from 1
      refine ⟨_,upd_same, ?_⟩
      rw [e]
      exact paired_drop 1 (paired_same RV.same (same_new hp) O3.mat)
theorem ok_law_forms (F:Fun K "law_forms" "law_forms" s_law_forms f fd) (T:Txt K mg Z) (c_node_forms:Cal P w K mg base 2 "node_forms" ["parts", "columns"] (spNodes K Z.Part Z.Columns)) (c_all_part_laws:Cal P w K mg base 5 "all_part_laws" ["parts", "states", "columns"] (spAllLaws K Z.Part Z.Columns Z.Law))
    (m_Law_form:Mth P w K mg base 2 Z.Law "form" ["self"] (spForm Z.Law Fm.LawD.form)):FnOk P w K mg base CX0 6 f fd ["parts", "states", "columns"] (spLawForms K Z.Part Z.Columns):=by
  refine F.ok sc_law_forms (fun vs H Q E h => ?_) (fun cdv A outer s H vs Q E hr h => ?_)
  · obtain ⟨l,t,a,N,cs,sts,rfl,_⟩:=h
    rfl
  · obtain ⟨l,t,a,N,cs,sts,rfl,hps,hcols,R,ht,hlen,k⟩:=h
    refine ⟨_,(pss_one (ps_ret (pe_op op_cat (pe_cal c_node_forms hr (pa_cons (pv 0) (pa_cons (pv 2) pa_nil))) (pe_lc (own:=[("law",3)]) rfl sc_law_forms.nd (pi_listK K (pe_cal c_all_part_laws hr (pa_cons (pv 0) (pa_cons (pv 1) (pa_cons (pv 2) pa_nil))))) (blkOk_by (by (show L2.blkC ["parts", "states", "columns", "law"] (defScope s_law_forms) _ _ = true);decide +kernel)) (fun _ _ _ _ _=>(pg_name (i:=3) sc_law_forms.nd rfl (Or.inl rfl))) (fun _ _ _ _ _=>pts_nil) (fun _ _ _ _ _=>(pe_mth0 m_Law_form hr (pv 3))))))), ?_⟩
    have hl14:=R.len
    have hn8:=R.n8
    refine ⟨_,rfl,_,rfl,l,a,N,cs,rfl,hps,hcols,R,fun H1 l1 s1 ⟨ys1,g1,p1⟩ => ?_⟩
    refine ⟨_,rfl,_,rfl,_,rfl,l,t,a,N,cs,sts,rfl,hps.same s1,hcols.same s1,R,s1 _ _ ht,hlen,fun H2 l2 s2 ⟨ys2,g2,p2⟩=>⟨l2,rfl,⟨_,SqL.of g2⟩,fun D hD => ?_⟩⟩
    have hl2:=p2.length
    have hal:(Fm.allLaws N cs sts).length ≤ 28:=Nat.le_trans (Fm.allLaws_len N cs sts) (by omega)
    refine lc_lst (cs:=Fm.allLaws N cs sts) (fun _=>true) (fun d y H=>RV d.form y H) (fun d y H H' s h=>RV.same _ _ _ _ s h) (SqL.of g2) (small_line (by omega)) hl2 hD (fun i x d H3 acc Ny Nx hx hc s3 hD1 h1 h2 => ?_) (fun H3 zs s3 hD1 pz => ?_)
    · obtain ⟨y,hy,la,dx,lt,lf,rfl,q1,q2,q3⟩:=L2.paired_get p2 hc
      have e:x = .ref la:=Option.some.inj (hx.symm.trans hy)
      subst e
      refine ⟨rfl, ?_⟩
      refine ⟨_,rfl,la,dx,_,rfl,s3 _ _ q1,lfs_no _ _ _ (by decide +kernel) (by decide +kernel) (by decide +kernel) (by decide +kernel),la,d,rfl,⟨la,dx,lt,lf,rfl,s3 _ _ q1,s3 _ _ q2,s3 _ _ q3⟩,mild_laws R hlen d (List.mem_of_getElem? hc),fun H4 q4 s4 n4 g4=>h1 rfl _ _ s4 ⟨q4,rfl, ?_⟩⟩
      rw [hid_ne fun z=>by rw [z,hD1] at n4;cases n4]
      exact g4
    · rw [filter_tt] at pz
      have s23:=s2.trans s3
      have hp1:=p1.length
      have hpz:=pz.length
      have hnl:(Fm.nodeForms N cs).length ≤ 9:=by
        have:=Fm.nodeForms_len N cs
        omega
      refine ⟨l1,D,_,_,rfl,rfl,s23 _ _ g1,hD1,small_line (by omega),fun p hp=>k _ p ((s1.trans s23).trans (same_new hp)) ⟨_,upd_same, ?_⟩⟩
      have s4:=same_new (u := .lst (ys1 ++ zs)) hp
      exact paired_append (paired_same RV.same (s23.trans s4) p1) (paired_map (F:=fun r y=>RV r y _) Fm.LawD.form (pz.mono fun d y h=>RV.same _ _ _ _ s4 h))
theorem ok_Reduced_init (F:Fun K "__init__" "Reduced.__init__" s_Reduced_init f fd) (T:Txt K mg Z):FnOk P w K mg base CX0 1 f fd ["self", "rows", "rank", "divisor"] (spRedInit Z.Reduced):=by
  refine F.ok sc_Reduced_init (fun vs H Q E h => ?_) (fun cdv A outer s H vs Q E hr h => ?_)
  · obtain ⟨p,dx,r,st,H0,rfl,_⟩:=h
    rfl
  · obtain ⟨p,dx,r,st,H0,rfl,hp,s0,np,k⟩:=h
    refine ⟨_,(pss_cons (ps_fldK K (pv 0) (pv 1) rfl)
      (pss_cons (ps_fldK K (pv 0) (pv 2) rfl)
      (pss_one (ps_fldK K (pv 0) (pv 3) rfl)))), ?_⟩
    refine ⟨_,rfl,_,rfl,p,Z.Reduced,dx,_,rfl,hp,T.cl_Reduced,T.n_Reduced_rows,(by show 0 < 1000;decide), ?_⟩
    refine ⟨_,rfl,_,rfl,p,Z.Reduced,dx,_,rfl,upd_same,T.cl_Reduced,T.n_Reduced_rank,(by show 1 < 1000;decide), ?_⟩
    refine ⟨_,rfl,_,rfl,p,Z.Reduced,dx,_,rfl,upd_same,T.cl_Reduced,T.n_Reduced_divisor,(by show 2 < 1000;decide), ?_⟩
    exact k _ (same_upd (same_upd (same_upd s0 np) np) np) upd_same
theorem ok_pivot_place (F:Fun K "pivot_place" "pivot_place" s_pivot_place f fd) (T:Txt K mg Z):FnOk P w K mg base CX0 1 f fd ["rows", "start", "column"] spPlace:=by
  refine F.ok sc_pivot_place (fun vs H Q E h => ?_) (fun cdv A outer s H vs Q E hr h => ?_)
  · obtain ⟨r,rows,b,c,rfl,_⟩:=h
    rfl
  · obtain ⟨r,rows,b,c,rfl,⟨ys,hy,pr⟩,hn,hb,hw,k⟩:=h
    have hl:=pr.length
    refine ⟨_,(pss_cons (ps_for PassesOwn.never rfl (pi_range2 rfl T.b_range (pa_cons (pv 1) (pa_cons (pe_callB (call_lenK K) rfl T.b_len boot_len (pa_cons (pv 0) pa_nil)) pa_nil))) (pg_name (i:=3) sc_pivot_place.nd rfl (Or.inl rfl)) (pss_one (ps_if (pt_cmp (pc_neI (pe_ix (ix_listK K) (pe_ix (ix_listK K) (pv 0) (pv 3) (fun _ _=>rfl)) (pv 2) (fun _ _=>rfl)) pe_int)) (pss_one (ps_ret (pv 3))) pss_nil)))
      (pss_one (ps_ret pe_non))), ?_⟩
    refine ⟨_,rfl,_,rfl,r,_,rfl, .inl (SqL.of hy),_,_,rfl,⟨by omega,by omega,by omega,by omega⟩, ?_⟩
    have en:(((ys.length:Nat):Int) - (b:Int)).toNat = rows.length - b:=by omega
    rw [en]
    refine for_range (n:=rows.length - b) (fun i σ H' => ∃ v3:Option V, σ = [some (.ref r),some (.int (b:Nat)),some (.int (c:Nat)),v3] ∧ Same H H' ∧ ∀ j,b ≤ j → j < b + i → Red.ent rows j c = 0) ⟨none,rfl,Same.refl _,fun j h1 h2=>by omega⟩ ?_ ?_
    · rintro i σ H1 hi ⟨v3,rfl,s1,inv⟩
      have hbi:b + i < rows.length:=by omega
      obtain ⟨q,hq,hrow⟩:=mat_get pr hbi
      have hmem:rows.getD (b + i) [] ∈ rows:=Red.mem_getD.mpr ⟨_,hbi,rfl⟩
      refine ⟨_,rfl,_,rfl,r,_,_,_,rfl,rfl,SqL.of (s1 _ _ hy),at_of (j:=b + i) (by omega) hq,_,rfl,q,_,_,_,rfl,rfl,SqL.of (s1 _ _ hrow),at_int (hw _ hmem),_,_,rfl,rfl,_,rfl,ite_n (fun g => ?_) (fun g => ?_)⟩
      · refine ⟨_,rfl, ?_⟩
        have e:=Red.place_is (rows:=rows) (start:=b) (c:=c) (k:=b + i) (by omega) hbi g (fun j h1 h2=>inv j h1 (by omega))
        rw [e] at k
        exact k _ s1
      · exact ⟨_,rfl,s1,fun j h1 h2=>by
          by_cases ej:j = b + i
          · rw [ej];exact g
          · exact inv j h1 (by omega)⟩
    · rintro σ H1 ⟨v3,rfl,s1,inv⟩
      have e:=Red.place_no (rows:=rows) (start:=b) (c:=c) (fun j h1 h2=>inv j h1 (by omega))
      rw [e] at k
      exact k _ s1
theorem ok_exchanged (F:Fun K "exchanged" "exchanged" s_exchanged f fd) (T:Txt K mg Z):FnOk P w K mg base CX0 1 f fd ["rows", "first", "second"] spExch:=by
  refine F.ok sc_exchanged (fun vs H Q E h => ?_) (fun cdv A outer s H vs Q E hr h => ?_)
  · obtain ⟨r,rows,i,j,rfl,_⟩:=h
    rfl
  · obtain ⟨r,rows,i,j,rfl,⟨ys,hy,pr⟩,hi,hj,k⟩:=h
    have hl:=pr.length
    refine ⟨_,(pss_cons (ps_set (i:=3) sc_exchanged.nd rfl (Or.inl rfl) (pe_callTy (call_listK K) rfl T.b_list boot_list (pa_cons (pv 0) pa_nil)))
      (pss_cons (ps_asg (pe_ix (ix_listK K) (pv 0) (pv 2) (fun _ _=>rfl)) (pg_sub (pv 3) (pv 1) set_list))
      (pss_cons (ps_asg (pe_ix (ix_listK K) (pv 0) (pv 1) (fun _ _=>rfl)) (pg_sub (pv 3) (pv 2) set_list))
      (pss_one (ps_ret (pv 3)))))), ?_⟩
    obtain ⟨q1,hq1,hr1⟩:=mat_get pr hi
    obtain ⟨q2,hq2,hr2⟩:=mat_get pr hj
    refine ⟨_,rfl,r,_,rfl, .inl (SqL.of hy),fun l hl0 => ?_⟩
    have s1:=same_new (u := .lst ys) hl0
    refine ⟨_,rfl,_,rfl,r,_,_,_,rfl,rfl,SqL.of (s1 _ _ hy),atI_nat hq2,_,rfl,_,rfl,l,_,_,i,rfl,rfl,upd_same,ixN_nat (by omega), ?_⟩
    have s2:Same H (upd (upd H l (.lst ys)) l (.lst (ys.set i (.ref q2)))):=same_upd s1 hl0
    refine ⟨_,rfl,_,rfl,r,_,_,_,rfl,rfl,SqL.of (s2 _ _ hy),atI_nat hq1,_,rfl,_,rfl,l,_,_,j,rfl,rfl,upd_same,ixN_nat (by rw [List.length_set];omega),_,rfl,k _ l (same_upd s2 hl0) ⟨_,upd_same, ?_⟩⟩
    have s3:Same H (upd (upd (upd H l (.lst ys)) l (.lst (ys.set i (.ref q2)))) l (.lst ((ys.set i (.ref q2)).set j (.ref q1)))):=same_upd s2 hl0
    unfold Red.exch
    exact paired_set ⟨q1,rfl,s3 _ _ hr1⟩ j (paired_set ⟨q2,rfl,s3 _ _ hr2⟩ i (paired_same RV.same s3 pr))
theorem ok_cleared (F:Fun K "cleared" "cleared" s_cleared f fd) (T:Txt K mg Z):FnOk P w K mg base CX0 1 f fd ["row", "pivot_row", "column", "divisor"] spCleared:=by
  refine F.ok sc_cleared (fun vs H Q E h => ?_) (fun cdv A outer s H vs Q E hr h => ?_)
  · obtain ⟨a,b,u,v,c,d,rfl,_⟩:=h
    rfl
  · obtain ⟨a,b,u,v,c,d,rfl,ha,hb,huv,hl,hc,hd,bd,bu,bv,k⟩:=h
    refine ⟨_,(pss_cons (ps_set (i:=4) sc_cleared.nd rfl (Or.inr rfl) (pe_ix (ix_listK K) (pv 1) (pv 2) (fun _ _=>rfl)))
      (pss_cons (ps_set (i:=5) sc_cleared.nd rfl (Or.inr rfl) (pe_ix (ix_listK K) (pv 0) (pv 2) (fun _ _=>rfl)))
      (pss_one (ps_ret (pe_lc (own:=[("x",6),("y",7)]) rfl sc_cleared.nd (pi_zipK K rfl T.b_zip (pa_cons (pv 0) (pa_cons (pv 1) pa_nil))) (blkOk_by (by (show L2.blkC ["row", "pivot_row", "column", "divisor", "pivot", "factor", "x", "y"] (defScope s_cleared) _ _ = true);decide +kernel)) (fun _ _ _ _ _=>(pg_tupK K (n:=2) rfl (pgs_cons (pg_name (i:=6) sc_cleared.nd rfl (Or.inl rfl)) (pgs_cons (pg_name (i:=7) sc_cleared.nd rfl (Or.inl rfl)) pgs_nil)))) (fun _ _ _ _ _=>pts_nil) (fun _ _ _ _ _=>(pe_op op_fdivB (pe_op op_sub (pe_op op_mulB (pv 4) (pv 6)) (pe_op op_mulB (pv 5) (pv 7))) (pv 3)))))))), ?_⟩
    have hcv:c < v.length:=by omega
    have bp:Big (v.getD c 0):=bv _ (Red.mem_getD.mpr ⟨c,hcv,rfl⟩)
    have bf:Big (u.getD c 0):=bu _ (Red.mem_getD.mpr ⟨c,hc,rfl⟩)
    refine ⟨_,rfl,_,rfl,b,_,_,_,rfl,rfl,SqL.of hb,at_int hcv, ?_⟩
    refine ⟨_,rfl,_,rfl,a,_,_,_,rfl,rfl,SqL.of ha,at_int hc, ?_⟩
    refine ⟨_,rfl,_,rfl,a,b,_,_,rfl,SqL.of ha,SqL.of hb,fun D hD => ?_⟩
    refine lc_zip (cs:=u.zip v) (fun _=>true) (fun x y H=>y = V.int ((v.getD c 0 * x.1 - u.getD c 0 * x.2).fdiv d)) (fun _ _ _ _ _ h=>h) (SqL.of ha) (SqL.of hb) (by rw [List.length_map,List.length_map,huv]) (by rw [List.length_map];exact small_line hl) (by rw [List.length_map,List.length_zip];omega) hD (fun i z1 z2 x H1 T1 acc Ny Nx hx hy hc s1 hD1 hT h1 h2 => ?_) (fun H1 zs s1 hD1 pz => ?_)
    · obtain ⟨x1,x2⟩:=x
      obtain ⟨e1,e2⟩:=zip_get hc
      rw [List.getElem?_map,e1] at hx
      rw [List.getElem?_map,e2] at hy
      have e:V.int x1 = z1:=Option.some.inj hx
      have e':V.int x2 = z2:=Option.some.inj hy
      subst e e'
      exact ⟨T1,_,rfl,SqT.of upd_same,rfl,_,_,rfl,_,_,rfl,rfl,rfl,_,rfl,_,rfl,_,_,rfl,rfl,⟨bp,bu _ (List.mem_of_getElem? e1)⟩,_,rfl,_,rfl,_,_,rfl,rfl,⟨bf,bv _ (List.mem_of_getElem? e2)⟩,_,_,rfl,rfl,_,rfl,_,_,rfl,rfl,⟨hd,bd⟩,h1 rfl _ _ (same_new hT) rfl⟩
    · rw [filter_tt] at pz
      refine k _ D s1 hD ?_
      rw [hD1,paired_eq pz]
      unfold Red.clr
      rw [List.map_map]
      all_goals rfl
theorem ok_reduced (F:Fun K "reduced" "reduced" s_reduced f fd) (T:Txt K mg Z) (c_pivot_place:Cal P w K mg base 1 "pivot_place" ["rows", "start", "column"] spPlace) (c_exchanged:Cal P w K mg base 1 "exchanged" ["rows", "first", "second"] spExch)
    (c_cleared:Cal P w K mg base 1 "cleared" ["row", "pivot_row", "column", "divisor"] spCleared) (m_Reduced:Mak P w K mg base 1 "Reduced" Z.Reduced ["self", "rows", "rank", "divisor"] (spRedInit Z.Reduced)) :
    FnOk P w K mg base CX0 3 f fd ["rows", "unknowns"] (spReduced Z.Reduced):=by
  refine F.ok sc_reduced (fun vs H Q E h => ?_) (fun cdv A outer s H vs Q E hr h => ?_)
  · obtain ⟨a,rows,m,u,rfl,_⟩:=h
    rfl
  · obtain ⟨a,rows,m,u,rfl,hm,sf,k⟩:=h
    have hms:=sf.ms
    have hus:=sf.us
    refine ⟨_,(pss_cons (ps_set (i:=2) sc_reduced.nd rfl (Or.inr rfl) pe_int)
      (pss_cons (ps_set (i:=3) sc_reduced.nd rfl (Or.inr rfl) pe_int)
      (pss_cons (ps_for PassesOwn.never rfl (pi_range1 rfl T.b_range (pa_cons (pv 1) pa_nil)) (pg_name (i:=4) sc_reduced.nd rfl (Or.inr rfl)) (pss_cons (ps_set (i:=5) sc_reduced.nd rfl (Or.inl rfl) (pe_cal c_pivot_place hr (pa_cons (pv 0) (pa_cons (pv 2) (pa_cons (pv 4) pa_nil)))))
      (pss_cons (ps_if (pt_cmp (pc_isN (pv 5))) (pss_one ps_continue) pss_nil)
      (pss_cons (ps_set (i:=0) sc_reduced.nd rfl (Or.inl rfl) (pe_cal c_exchanged hr (pa_cons (pv 0) (pa_cons (pv 2) (pa_cons (pv 5) pa_nil)))))
      (pss_cons (ps_set (i:=6) sc_reduced.nd rfl (Or.inr rfl) (pe_ix (ix_listK K) (pv 0) (pv 2) (fun _ _=>rfl)))
      (pss_cons (ps_setLc (own:=[("k",7),("row",8)]) (i:=0) rfl sc_reduced.nd rfl rfl (sw_true rfl rfl rfl rfl) (pi_enumK K rfl T.b_enumerate (pa_cons (pv 0) pa_nil)) (blkOk_by (by (show L2.blkC ["rows", "unknowns", "rank", "divisor", "column", "place", "pivot_row", "k", "row"] (defScope s_reduced) _ _ = true);decide +kernel)) (fun _ _ _ _ _=>(pg_tupK K (n:=2) rfl (pgs_cons (pg_name (i:=7) sc_reduced.nd rfl (Or.inl rfl)) (pgs_cons (pg_name (i:=8) sc_reduced.nd rfl (Or.inl rfl)) pgs_nil)))) (fun _ _ _ _ _=>pts_nil) (fun _ _ _ _ _=>(pe_ifExp (pt_cmp (pc_eqI (pv 7) (pv 2))) (pv 8) (pe_cal c_cleared hr (pa_cons (pv 8) (pa_cons (pv 6) (pa_cons (pv 4) (pa_cons (pv 3) pa_nil))))))))
      (pss_cons (ps_set (i:=3) sc_reduced.nd rfl (Or.inr rfl) (pe_ix (ix_listK K) (pv 6) (pv 4) (fun _ _=>rfl)))
      (pss_one (ps_aug (i:=2) sc_reduced.nd rfl (Or.inr rfl) pe_int ip_add)))))))))
      (pss_one (ps_ret (pe_mak m_Reduced hr (pa_cons (pv 0) (pa_cons (pv 2) (pa_cons (pv 3) pa_nil))))))))), ?_⟩
    refine ⟨_,rfl,_,rfl,by omega,by omega, ?_⟩
    have eu:((u:Nat):Int).toNat = u:=by omega
    rw [eu]
    refine for_range (n:=u) (fun i σ H' => ∃ (r:Addr) (v4 v5 v6:Option V), σ = [some (.ref r),some (.int (u:Nat)),some (.int ((Red.upto rows i).rank:Nat)),some (.int (Red.upto rows i).div),v4,v5,v6,none,none] ∧ Same H H' ∧ MatAt H' r (Red.upto rows i).rows) ⟨a,none,none,none,rfl,Same.refl _,hm⟩ ?_ ?_
    · rintro i σ H1 hi ⟨r,v4,v5,v6,rfl,s1,hm1⟩
      rw [Int.zero_add]
      obtain ⟨cs,rs, π,I⟩:=Red.inv_upto sf.len sf.wid i (by omega)
      obtain ⟨bd,bx⟩:=sf.big i (by omega)
      have hst:=Red.upto_succ rows i
      rw [hst]
      generalize Red.upto rows i = st at *
      have hwid:∀ x ∈ st.rows,x.length = u + 1:=fun x hx=>by
        obtain ⟨j,hj,e⟩:=(Red.mem_getD (d:=[])).mp hx
        rw [← e]
        exact I.wid j (by rw [← I.len];exact hj)
      have hil:=I.len
      have hrm:=I.rm
      refine ⟨_,rfl,_,rfl,_,rfl,r,st.rows,st.rank,i,rfl,hm1,by omega,by omega,fun x hx=>by rw [hwid x hx];omega,fun H2 s2 => ?_⟩
      have s12:=s1.trans s2
      cases hpl:Red.place st.rows st.rank i with
      | none =>
        have e:Red.step st i = st:=by unfold Red.step;rw [hpl]
        refine ⟨_,rfl,_,rfl,iteT ?_⟩
        rw [e]
        exact ⟨r,some (.int (i:Nat)),some .non,v6,rfl,s12,hm1.same s2⟩
      | some j =>
        obtain ⟨k1,k2,k3⟩:=Red.place_some hpl
        have e:Red.step st i = ⟨Red.clrAll (Red.exch st.rows st.rank j) st.rank i st.div,st.rank + 1,Red.ent (Red.exch st.rows st.rank j) st.rank i⟩:=by unfold Red.step;rw [hpl]
        refine ⟨_,rfl,_,rfl,iteF ?_⟩
        rw [e]
        have hxl:=Red.len_exch st.rows st.rank j
        have hxm:∀ x ∈ Red.exch st.rows st.rank j,x ∈ st.rows:=fun x hx=>by
          unfold Red.exch at hx
          rcases List.mem_or_eq_of_mem_set hx with q | q
          · rcases List.mem_or_eq_of_mem_set q with q' | q'
            · exact q'
            · rw [q'];exact Red.mem_getD.mpr ⟨_,k2,rfl⟩
          · rw [q];exact Red.mem_getD.mpr ⟨_,by omega,rfl⟩
        refine ⟨_,rfl,_,rfl,_,rfl,r,st.rows,st.rank,j,rfl,hm1.same s2,by omega,k2,fun H3 r3 s3 ⟨ys,hy,pr⟩ => ?_⟩
        have s13:=s12.trans s3
        generalize hX:Red.exch st.rows st.rank j = X at *
        have hl:=pr.length
        have hrX:st.rank < X.length:=by omega
        obtain ⟨q,hq,hrow⟩:=mat_get pr hrX
        have hpm:X.getD st.rank [] ∈ X:=Red.mem_getD.mpr ⟨_,hrX,rfl⟩
        have hpw:(X.getD st.rank []).length = u + 1:=hwid _ (hxm _ hpm)
        refine ⟨_,rfl,_,rfl,r3,_,_,_,rfl,rfl,SqL.of hy,atI_nat hq, ?_⟩
        refine ⟨_,rfl,r3,_,rfl,SqL.of hy,fun D hD => ?_⟩
        refine lc_enum (cs:=Red.clrAll X st.rank i st.div) (fun _=>true) (fun x y H=>RV x y H) RV.same (SqL.of hy) (small_line (by omega)) (by rw [Red.len_clrAll,hl]) hD (fun n x c H4 T1 acc Ny Nx hx hc s4 hD1 hT h1 h2 => ?_) (fun H4 zs s4 hD1 pz => ?_)
        · have hn:n < X.length:=by rw [hl];exact (List.getElem?_eq_some_iff.mp hx).1
          have ec:c = if n = st.rank then X.getD n [] else Red.clr (X.getD st.rank []) (X.getD n []) i st.div:=by
            have:=Red.getD_clrAll (k:=st.rank) (c:=i) (d:=st.div) hn
            rw [List.getD_eq_getElem?_getD,hc] at this
            exact this
          obtain ⟨qn,hqn,hrn⟩:=mat_get pr hn
          have ex:x = .ref qn:=Option.some.inj (hx.symm.trans hqn)
          subst ex
          have hnm:X.getD n [] ∈ X:=Red.mem_getD.mpr ⟨_,hn,rfl⟩
          have hnw:(X.getD n []).length = u + 1:=hwid _ (hxm _ hnm)
          have s5:=same_new (u := .tup [.int (n:Nat), .ref qn]) hT
          have s45:=s4.trans s5
          refine ⟨T1,_,rfl,SqT.of upd_same,rfl,_,_,rfl,_,_,rfl,rfl,rfl, ?_⟩
          refine ⟨_,rfl,_,rfl,_,_,rfl,rfl,_,rfl,ite_b (fun hk => ?_) (fun hk => ?_)⟩
          · have hk':n = st.rank:=by omega
            rw [if_pos hk'] at ec
            refine ⟨_,rfl,h1 rfl _ _ s5 ⟨qn,rfl, ?_⟩⟩
            have:qn ≠ D:=fun z=>by rw [z] at hrn;rw [hrn] at hD;cases hD
            rw [hid_ne this,ec]
            exact s45 _ _ hrn
          · have hk':n ≠ st.rank:=fun z=>hk (by rw [z])
            rw [if_neg hk'] at ec
            refine ⟨_,rfl,_,rfl,_,rfl,_,rfl,qn,q,X.getD n [],X.getD st.rank [],i,st.div,rfl,s45 _ _ hrn,s45 _ _ hrow,by omega,by omega,by omega,I.d0,bd,bx _ (hxm _ hnm),bx _ (hxm _ hpm),fun H6 q6 s6 n6 g6=>h1 rfl _ _ (s5.trans s6) ⟨q6,rfl, ?_⟩⟩
            have:q6 ≠ D:=fun z=>by
              have:=s5 _ _ hD1
              rw [z,this] at n6
              cases n6
            rw [hid_ne this,ec]
            exact g6
        · rw [filter_tt] at pz
          have s14:=s13.trans s4
          refine ⟨_,rfl,_,rfl,q,_,_,_,rfl,rfl,SqL.of (s4 _ _ hrow),at_int (by omega), ?_⟩
          refine ⟨_,rfl,_,_,rfl,rfl,D,some (.int (i:Nat)),some (.int (j:Nat)),some (.ref q),rfl,s14,zs,hD1,pz⟩
    · rintro σ H1 ⟨r,v4,v5,v6,rfl,s1,hm1⟩
      refine ⟨_,rfl,_,rfl,_,rfl,fun x dx nx ndx nex=>⟨x,dx,r,Red.upto rows u,H1,rfl,upd_same,made_same nx ndx,nx,fun H2 s2 g2=>⟨rfl,k _ x (s1.trans s2) ⟨dx,r,g2,hm1.same s2⟩⟩⟩⟩
theorem ok_Solution_init (F:Fun K "__init__" "Solution.__init__" s_Solution_init f fd) (T:Txt K mg Z):FnOk P w K mg base CX0 1 f fd ["self", "tops", "bottom"] (spSolInit Z.Solution):=by
  refine F.ok sc_Solution_init (fun vs H Q E h => ?_) (fun cdv A outer s H vs Q E hr h => ?_)
  · obtain ⟨p,dx,t,st,H0,rfl,_⟩:=h
    rfl
  · obtain ⟨p,dx,t,st,H0,rfl,hp,s0,np,k⟩:=h
    refine ⟨_,(pss_cons (ps_fldK K (pv 0) (pv 1) rfl)
      (pss_one (ps_fldK K (pv 0) (pv 2) rfl))), ?_⟩
    refine ⟨_,rfl,_,rfl,p,Z.Solution,dx,_,rfl,hp,T.cl_Solution,T.n_Solution_tops,(by show 0 < 1000;decide), ?_⟩
    refine ⟨_,rfl,_,rfl,p,Z.Solution,dx,_,rfl,upd_same,T.cl_Solution,T.n_Solution_bottom,(by show 1 < 1000;decide), ?_⟩
    exact k _ (same_upd (same_upd s0 np) np) upd_same
theorem ok_Solution_top_of (F:Fun K "top_of" "Solution.top_of" s_Solution_top_of f fd) (T:Txt K mg Z) (c_product:Cal P w K mg base 1 "product" ["first", "second"] (spProduct K)):FnOk P w K mg base CX0 2 f fd ["self", "form"] (spTopOf K Z.Solution):=by
  refine F.ok sc_Solution_top_of (fun vs H Q E h => ?_) (fun cdv A outer s H vs Q E hr h => ?_)
  · obtain ⟨a,b,st,g,rfl,_⟩:=h
    rfl
  · obtain ⟨a,b,st,g,rfl,⟨dx,t,h1,h2⟩,hb,hl,hn,bg,bt,k⟩:=h
    refine ⟨_,(pss_one (ps_ret (pe_cal c_product hr (pa_cons (pv 1) (pa_cons (pe_fldK K (pv 0) rfl) pa_nil))))), ?_⟩
    exact ⟨_,rfl,_,rfl,a,Z.Solution,dx,_,_,rfl,h1,T.cl_Solution,T.n_Solution_tops,sfs_tops st t,b,t,g,st.tops,rfl,hb,SqL.of h2,hl,hn,bg,bt,k⟩
theorem ok_reduced_laws (F:Fun K "reduced_laws" "reduced_laws" s_reduced_laws f fd) (T:Txt K mg Z) (c_reduced:Cal P w K mg base 3 "reduced" ["rows", "unknowns"] (spReduced Z.Reduced)):FnOk P w K mg base CX0 4 f fd ["forms", "columns"] (spRedLaws Z.Columns Z.Reduced):=by
  refine F.ok sc_reduced_laws (fun vs H Q E h => ?_) (fun cdv A outer s H vs Q E hr h => ?_)
  · obtain ⟨a,b,N,cs,forms,rfl,_⟩:=h
    rfl
  · obtain ⟨a,b,N,cs,forms,rfl,⟨ys,hy,pr⟩,hcols,fi,k⟩:=h
    refine ⟨_,(pss_one (ps_ret (pe_cal c_reduced hr (pa_cons (pe_lc (own:=[("form",2)]) rfl sc_reduced_laws.nd (pi_listK K (pv 0)) (blkOk_by (by (show L2.blkC ["forms", "columns", "form"] (defScope s_reduced_laws) _ _ = true);decide +kernel)) (fun _ _ _ _ _=>(pg_name (i:=2) sc_reduced_laws.nd rfl (Or.inl rfl))) (fun _ _ _ _ _=>pts_nil) (fun _ _ _ _ _=>(pe_slice (sl_listK K) (pv 2) (po_some pe_int) po_none))) (pa_cons (pe_op op_sub (pe_fldK K (pv 1) rfl) pe_int) pa_nil))))), ?_⟩
    have hl:=pr.length
    have hsl:=fi.safe.len
    rw [List.length_map] at hsl
    have hsm:=fi.safe.ms
    obtain ⟨dx,l0,hc1,hc2⟩:=hcols.ex
    refine ⟨_,rfl,a,rfl,⟨_,SqL.of hy⟩,fun D hD => ?_⟩
    refine lc_lst (cs:=forms) (fun _=>true) (fun x y H=>RV (x.drop 1) y H) (fun x y H H' s h=>RV.same _ _ _ _ s h) (SqL.of hy) (small_line (by omega)) hl hD (fun i x c H1 acc Ny Nx hx hc s1 hD1 h1 h2 => ?_) (fun H1 zs s1 hD1 pz => ?_)
    · obtain ⟨y,hy2,q,rfl,hq⟩:=L2.paired_get pr hc
      have e:x = .ref q:=Option.some.inj (hx.symm.trans hy2)
      subst e
      refine ⟨rfl, ?_⟩
      refine ⟨_,rfl,_,rfl,q,_,rfl,SqL.of (s1 _ _ hq),fun p hp=>h1 rfl _ _ (same_new hp) ⟨p,rfl, ?_⟩⟩
      have:p ≠ D:=fun z=>by rw [z,hD1] at hp;cases hp
      rw [hid_ne this,upd_same,List.map_drop]
      exact congrArg (fun z=>some (HO.lst z)) (cut_from 1)
    · rw [filter_tt] at pz
      refine ⟨_,rfl,b,Z.Columns,dx,_,_,rfl,s1 _ _ hc1,T.cl_Columns,T.n_Columns_one,cfs_one N cs l0,_,_,rfl,rfl,D,forms.map (fun (f:List Int)=>f.drop 1),Fm.one N cs - 1,Fm.one N cs - 1, ?_,⟨zs,hD1,paired_map (F:=fun r y=>RV r y _) (fun (f:List Int)=>f.drop 1) pz⟩,fi.safe,fun H2 q s2 g=>k _ q (s1.trans s2) g⟩
      have:=fi.pos
      show [V.ref D,V.int (((Fm.one N cs:Nat):Int) - 1)] = _
      rw [show ((Fm.one N cs:Nat):Int) - 1 = ((Fm.one N cs - 1:Nat):Int) by omega]
theorem ok_solution_of (F:Fun K "solution_of" "solution_of" s_solution_of f fd) (T:Txt K mg Z) (c_reduced_laws:Cal P w K mg base 4 "reduced_laws" ["forms", "columns"] (spRedLaws Z.Columns Z.Reduced)) (m_Solution:Mak P w K mg base 1 "Solution" Z.Solution ["self", "tops", "bottom"] (spSolInit Z.Solution)) :
    FnOk P w K mg base CX0 5 f fd ["forms", "columns"] (spSolution Z.Columns Z.Solution):=by
  refine F.ok sc_solution_of (fun vs H Q E h => ?_) (fun cdv A outer s H vs Q E hr h => ?_)
  · obtain ⟨a,b,N,cs,forms,rfl,_⟩:=h
    rfl
  · obtain ⟨a,b,N,cs,forms,rfl,hm,hcols,fi,k⟩:=h
    refine ⟨_,(pss_cons (ps_set (i:=2) sc_solution_of.nd rfl (Or.inl rfl) (pe_cal c_reduced_laws hr (pa_cons (pv 0) (pa_cons (pv 1) pa_nil))))
      (pss_cons (ps_if (pt_cmp (pc_lt (pe_fldK K (pv 2) rfl) (pe_op op_sub (pe_fldK K (pv 1) rfl) pe_int))) (pss_one (ps_ret pe_non)) pss_nil)
      (pss_cons (ps_set (i:=3) sc_solution_of.nd rfl (Or.inr rfl) (pe_ifExp (pt_cmp (pc_gt (pe_fldK K (pv 2) rfl) pe_int)) (pe_un un_neg pe_int) pe_int))
      (pss_cons (ps_set (i:=4) sc_solution_of.nd rfl (Or.inl rfl) (pe_callB call_abs rfl T.b_abs boot_abs (pa_cons (pe_fldK K (pv 2) rfl) pa_nil)))
      (pss_one (ps_ret (pe_mak m_Solution hr (pa_cons (pe_op op_cat (pe_op op_cat (pe_lst (pa_cons pe_int pa_nil)) (pe_lc (own:=[("row",5)]) rfl sc_solution_of.nd (pi_listK K (pe_fldK K (pv 2) rfl)) (blkOk_by (by (show L2.blkC ["forms", "columns", "result", "sign", "bottom", "row"] (defScope s_solution_of) _ _ = true);decide +kernel)) (fun _ _ _ _ _=>(pg_name (i:=5) sc_solution_of.nd rfl (Or.inl rfl))) (fun _ _ _ _ _=>pts_nil) (fun _ _ _ _ _=>(pe_op op_mulB (pv 3) (pe_ix (ix_listK K) (pv 5) (pe_un un_neg pe_int) (fun _ _=>rfl)))))) (pe_lst (pa_cons (pv 4) pa_nil))) (pa_cons (pv 4) pa_nil))))))))), ?_⟩
    obtain ⟨dx,l0,hc1,hc2⟩:=hcols.ex
    refine ⟨_,rfl,_,rfl,a,b,N,cs,forms,rfl,hm,hcols,fi,fun H1 q1 s1 ⟨dxr,r,g1,⟨ys,hy,pr⟩⟩ => ?_⟩
    have hpos:=fi.pos
    obtain ⟨bd,bx⟩:=fi.safe.big (Fm.one N cs - 1) (Nat.le_refl _)
    obtain ⟨cs',rs', π',I⟩:=Red.inv_upto fi.safe.len fi.safe.wid (Fm.one N cs - 1) (by omega)
    have hus:=fi.safe.us
    unfold Fm.solOf at k
    show _
    have hrl:Fm.redL forms (Fm.one N cs) = Red.upto (forms.map fun f=>f.drop 1) (Fm.one N cs - 1):=rfl
    rw [← hrl] at bd bx I
    generalize Fm.redL forms (Fm.one N cs) = st at *
    have hl:=pr.length
    have hil:=I.len
    refine ⟨_,rfl,q1,Z.Reduced,dxr,_,_,rfl,g1,T.cl_Reduced,T.n_Reduced_rank,rfs_rank st r,_,rfl,b,Z.Columns,dx,_,_,rfl,s1 _ _ hc1,T.cl_Columns,T.n_Columns_one,cfs_one N cs l0,_,_,rfl,rfl,_,_,rfl,rfl,_,rfl,ite_b (fun h => ?_) (fun h => ?_)⟩
    · rw [if_pos (show st.rank < Fm.one N cs - 1 by omega)] at k
      exact k _ _ s1 rfl
    rw [if_neg (show ¬ st.rank < Fm.one N cs - 1 by omega)] at k
    have eabs:(if st.div < 0 then -st.div else st.div) = (st.div.natAbs:Int):=by split <;> omega
    have hpw:∀ c ∈ st.rows,0 < c.length:=fun c hc=>by
      obtain ⟨j,hj,e⟩:=(Red.mem_getD (d:=[])).mp hc
      rw [← e,I.wid j (by omega)]
      omega
    have blast:∀ c ∈ st.rows,Big (Fm.lastI c):=fun c hc=>bx c hc _ (Red.mem_getD.mpr ⟨c.length - 1,by have:=hpw c hc;omega,rfl⟩)
    refine ⟨_,rfl,q1,Z.Reduced,dxr,_,_,rfl,g1,T.cl_Reduced,T.n_Reduced_divisor,rfs_div st r,_,_,rfl,rfl,_,rfl,ite_b (fun hp=>⟨_,rfl, ?_⟩) (fun hp => ?_)⟩
    · rw [if_pos hp] at k
      refine ⟨_,rfl,q1,Z.Reduced,dxr,_,_,rfl,g1,T.cl_Reduced,T.n_Reduced_divisor,rfs_div st r,_,rfl, ?_⟩
      rw [eabs]
      refine ⟨(by show 1 ≤ sizeLine;decide),fun l1 hl1 => ?_⟩
      have t1:=same_new (u := .lst [.int 0]) hl1
      refine ⟨_,rfl,q1,Z.Reduced,dxr,_,_,rfl,t1 _ _ g1,T.cl_Reduced,T.n_Reduced_rows,rfs_rows st r,r,rfl,⟨_,SqL.of (t1 _ _ hy)⟩,fun D hD => ?_⟩
      refine lc_lst (cs:=st.rows) (fun _=>true) (fun x y H=>y = V.int ((-1) * Fm.lastI x)) (fun _ _ _ _ _ h=>h) (SqL.of (t1 _ _ hy)) (small_line (by omega)) hl hD (fun i x c H2 acc Ny Nx hx hc s2 hD1 h1 h2 => ?_) (fun H2 zs s2 hD1 pz => ?_)
      · obtain ⟨y,hy2,q,rfl,hq⟩:=L2.paired_get pr hc
        have e:x = .ref q:=Option.some.inj (hx.symm.trans hy2)
        subst e
        have hcm:=List.mem_of_getElem? hc
        refine ⟨rfl, ?_⟩
        exact ⟨_,rfl,_,rfl,_,rfl,q,_,_,_,rfl,rfl,SqL.of (s2 _ _ (t1 _ _ hq)),at_last_int (hpw c hcm),_,_,rfl,rfl,⟨.one (by decide),blast c hcm⟩,h1 rfl _ _ (Same.refl _) rfl⟩
      · rw [filter_tt] at pz
        have ez:=paired_eq pz
        have hzl:zs.length = st.rows.length:=by rw [ez,List.length_map]
        refine ⟨l1,D,_,_,rfl,rfl,s2 _ _ upd_same,hD1,(by rw [hzl];show 1 + _ ≤ _;exact small_line (by omega)),fun p1 hp1 => ?_⟩
        have t3:=same_new (u := .lst ([.int 0] ++ zs)) hp1
        refine ⟨_,rfl,(by show 1 ≤ sizeLine;decide),fun l2 hl2 => ?_⟩
        have t4:=same_new (u := .lst [.int (st.div.natAbs:Int)]) hl2
        refine ⟨p1,l2,_,_,rfl,rfl,t4 _ _ upd_same,upd_same,(by rw [List.length_append,hzl];show 1 + _ + 1 ≤ _;exact small_line (by omega)),fun p2 hp2 => ?_⟩
        have t5:=same_new (u := .lst ([.int 0] ++ zs ++ [.int (st.div.natAbs:Int)])) hp2
        refine ⟨_,rfl,fun x dx2 nx ndx nex=>⟨x,dx2,p2,⟨[0] ++ st.rows.map (fun r=>(-1) * Fm.lastI r) ++ [(st.div.natAbs:Int)],(st.div.natAbs:Int)⟩,_,rfl,upd_same,made_same nx ndx,nx,fun H7 s7 g7=>⟨rfl,k _ (.ref x) (((((s1.trans t1).trans s2).trans t3).trans t4).trans (t5.trans s7)) ⟨x,rfl,dx2,p2,g7,s7 _ _ ?_⟩⟩⟩⟩
        rw [upd_same,ez]
        simp only [List.map_append,List.map_map]
        rfl
    · rw [if_neg hp] at k
      refine ⟨_,rfl,q1,Z.Reduced,dxr,_,_,rfl,g1,T.cl_Reduced,T.n_Reduced_divisor,rfs_div st r,_,rfl, ?_⟩
      rw [eabs]
      refine ⟨(by show 1 ≤ sizeLine;decide),fun l1 hl1 => ?_⟩
      have t1:=same_new (u := .lst [.int 0]) hl1
      refine ⟨_,rfl,q1,Z.Reduced,dxr,_,_,rfl,t1 _ _ g1,T.cl_Reduced,T.n_Reduced_rows,rfs_rows st r,r,rfl,⟨_,SqL.of (t1 _ _ hy)⟩,fun D hD => ?_⟩
      refine lc_lst (cs:=st.rows) (fun _=>true) (fun x y H=>y = V.int (1 * Fm.lastI x)) (fun _ _ _ _ _ h=>h) (SqL.of (t1 _ _ hy)) (small_line (by omega)) hl hD (fun i x c H2 acc Ny Nx hx hc s2 hD1 h1 h2 => ?_) (fun H2 zs s2 hD1 pz => ?_)
      · obtain ⟨y,hy2,q,rfl,hq⟩:=L2.paired_get pr hc
        have e:x = .ref q:=Option.some.inj (hx.symm.trans hy2)
        subst e
        have hcm:=List.mem_of_getElem? hc
        refine ⟨rfl, ?_⟩
        exact ⟨_,rfl,_,rfl,_,rfl,q,_,_,_,rfl,rfl,SqL.of (s2 _ _ (t1 _ _ hq)),at_last_int (hpw c hcm),_,_,rfl,rfl,⟨.one (by decide),blast c hcm⟩,h1 rfl _ _ (Same.refl _) rfl⟩
      · rw [filter_tt] at pz
        have ez:=paired_eq pz
        have hzl:zs.length = st.rows.length:=by rw [ez,List.length_map]
        refine ⟨l1,D,_,_,rfl,rfl,s2 _ _ upd_same,hD1,(by rw [hzl];show 1 + _ ≤ _;exact small_line (by omega)),fun p1 hp1 => ?_⟩
        have t3:=same_new (u := .lst ([.int 0] ++ zs)) hp1
        refine ⟨_,rfl,(by show 1 ≤ sizeLine;decide),fun l2 hl2 => ?_⟩
        have t4:=same_new (u := .lst [.int (st.div.natAbs:Int)]) hl2
        refine ⟨p1,l2,_,_,rfl,rfl,t4 _ _ upd_same,upd_same,(by rw [List.length_append,hzl];show 1 + _ + 1 ≤ _;exact small_line (by omega)),fun p2 hp2 => ?_⟩
        have t5:=same_new (u := .lst ([.int 0] ++ zs ++ [.int (st.div.natAbs:Int)])) hp2
        refine ⟨_,rfl,fun x dx2 nx ndx nex=>⟨x,dx2,p2,⟨[0] ++ st.rows.map (fun r=>1 * Fm.lastI r) ++ [(st.div.natAbs:Int)],(st.div.natAbs:Int)⟩,_,rfl,upd_same,made_same nx ndx,nx,fun H7 s7 g7=>⟨rfl,k _ (.ref x) (((((s1.trans t1).trans s2).trans t3).trans t4).trans (t5.trans s7)) ⟨x,rfl,dx2,p2,g7,s7 _ _ ?_⟩⟩⟩⟩
        rw [upd_same,ez]
        simp only [List.map_append,List.map_map]
        rfl
theorem ok_Point_init (F:Fun K "__init__" "Point.__init__" s_Point_init f fd) (T:Txt K mg Z):FnOk P w K mg base CX0 1 f fd ["self", "states", "solution"] (spPtInit Z.Point):=by
  refine F.ok sc_Point_init (fun vs H Q E h => ?_) (fun cdv A outer s H vs Q E hr h => ?_)
  · obtain ⟨p,dx,t,st,H0,rfl,_⟩:=h
    rfl
  · obtain ⟨p,dx,t,st,H0,rfl,hp,s0,np,k⟩:=h
    refine ⟨_,(pss_cons (ps_fldK K (pv 0) (pv 1) rfl)
      (pss_one (ps_fldK K (pv 0) (pv 2) rfl))), ?_⟩
    refine ⟨_,rfl,_,rfl,p,Z.Point,dx,_,rfl,hp,T.cl_Point,T.n_Point_states,(by show 0 < 1000;decide), ?_⟩
    refine ⟨_,rfl,_,rfl,p,Z.Point,dx,_,rfl,upd_same,T.cl_Point,T.n_Point_solution,(by show 1 < 1000;decide), ?_⟩
    exact k _ (same_upd (same_upd s0 np) np) upd_same
theorem ok_state_rows (F:Fun K "state_rows" "state_rows" s_state_rows f fd) (T:Txt K mg Z):FnOk P w K mg base CX0 1 f fd ["parts"] (spStates K Z.Part):=by
  refine F.ok sc_state_rows (fun vs H Q E h => ?_) (fun cdv A outer s H vs Q E hr h => ?_)
  · obtain ⟨l,cs,rfl,_⟩:=h
    rfl
  · obtain ⟨l,cs,rfl,⟨ys,hy,pr⟩,hg,hn,hd,k⟩:=h
    have hl:=pr.length
    refine ⟨_,(pss_cons (ps_set (i:=1) sc_state_rows.nd rfl (Or.inl rfl) (pe_lst (pa_cons (pe_lst pa_nil) pa_nil)))
      (pss_cons (ps_for PassesOwn.never rfl (pi_listK K (pv 0)) (pg_name (i:=2) sc_state_rows.nd rfl (Or.inl rfl)) (pss_cons (ps_set (i:=3) sc_state_rows.nd rfl (Or.inl rfl) (pe_ifExp (pt_cmp (pc_eqI (pe_fldK K (pv 2) rfl) (pe_gi T.g_DIODE))) (pe_tup (pa_cons pe_int (pa_cons pe_int pa_nil))) (pe_tup (pa_cons pe_int pa_nil))))
      (pss_cons (ps_set (i:=4) sc_state_rows.nd rfl (Or.inl rfl) (pe_lst pa_nil))
      (pss_cons (ps_for PassesOwn.never rfl (pi_listK K (pv 1)) (pg_name (i:=5) sc_state_rows.nd rfl (Or.inr rfl)) (pss_one (ps_expr (pe_bm PySem.F.plainAttrs_list PySem.F.slot_list_extend PySem.F.type_list_extend mt_extend (pv 4) (pa_cons (pe_lc (own:=[("state",6)]) rfl sc_state_rows.nd (pi_tupK K (pv 3)) (blkOk_by (by (show L2.blkC ["parts", "rows", "part", "choices", "longer", "row", "state"] (defScope s_state_rows) _ _ = true);decide +kernel)) (fun _ _ _ _ _=>(pg_name (i:=6) sc_state_rows.nd rfl (Or.inl rfl))) (fun _ _ _ _ _=>pts_nil) (fun _ _ _ _ _=>(pe_op op_cat (pv 5) (pe_lst (pa_cons (pv 6) pa_nil))))) pa_nil)))))
      (pss_one (ps_set (i:=1) sc_state_rows.nd rfl (Or.inl rfl) (pv 4)))))))
      (pss_one (ps_ret (pv 1))))), ?_⟩
    refine ⟨Nat.zero_le _,fun l1 hl1=>⟨(by show 1 ≤ sizeLine;decide),fun l2 hl2 => ?_⟩⟩
    have s1:=same_new (u := .lst []) hl1
    have s2:=same_new (u := .lst [.ref l1]) hl2
    have s12:=s1.trans s2
    refine ⟨_,rfl,l,rfl,⟨_,s12.seq hy⟩,for_list (K:=K) (a:=l) (xs:=ys) (fun i σ H' => ∃ (r:Addr) (v2 v3 v4 v5:Option V), σ = [some (.ref l),some (.ref r),v2,v3,v4,v5,none] ∧ Same H H' ∧ MatAt H' r ((cs.take i).foldl Fm.longer [[]]))
      ⟨l2,none,none,none,none,rfl,s12,[.ref l1],upd_same, .cons ⟨l1,rfl,s2 _ _ upd_same⟩ .nil⟩ (fun i σ H' _ ⟨_,_,_,_,_,_,s3,_⟩=>s3.seq hy) ?_ ?_⟩
    · rintro i x σ H1 hx ⟨r,v2,v3,v4,v5,rfl,t1,⟨zs,hz,pz⟩⟩
      have hi:i < cs.length:=by rw [hl];exact (List.getElem?_eq_some_iff.mp hx).1
      obtain ⟨b,hb,hp,hc⟩:=part_at (K:=K) pr hi
      have e:x = .ref b:=Option.some.inj (hx.symm.trans hb)
      subst e
      have g:=hg _ (List.mem_of_getElem? hc)
      have htk:cs.take (i + 1) = cs.take i ++ [cs.getD i []]:=take_snoc hc
      have hlen:=len_states (cs.take i) [[]]
      rw [List.length_take,Nat.min_eq_left (by omega)] at hlen
      have hpow:2 ^ i ≤ 2 ^ 13:=Nat.pow_le_pow_right (by decide) (by omega)
      have hwd:=wid_states (cs.take i) [[]] 0 (by simp)
      rw [htk,List.foldl_append]
      have hch:Fm.choices (cs.getD i []) = if Jm.kd (cs.getD i []) = 13 then [0,1] else [0]:=rfl
      have hch2:(Fm.choices (cs.getD i [])).length ≤ 2:=by rw [hch];split <;> decide
      generalize hcc:cs.getD i [] = c at *
      generalize (cs.take i).foldl Fm.longer [[]] = rows at *
      have hzl:=pz.length
      have hrl:rows.length ≤ 8192:=by
        have:2 ^ i * 1 ≤ 2 ^ 13:=by omega
        have e2:([[]] : List (List Int)).length = 1:=rfl
        rw [e2] at hlen
        omega
      walk_at "go"
      refine rd_kind T rfl (hp.same t1) ⟨_,_,rfl,rfl,_,rfl,ite_b (fun h13=>⟨(by show 2 ≤ sizeLine;decide),fun tc htc => ?_⟩) (fun h13=>⟨(by show 1 ≤ sizeLine;decide),fun tc htc => ?_⟩)⟩
      · rw [if_pos h13] at hch
        have u1:=same_new (u := .tup [.int 0, .int 1]) htc
        refine ⟨Nat.zero_le _,fun q hq => ?_⟩
        have u2:=same_new (u := .lst []) hq
        have u12:=u1.trans u2
        have nq:H1 q = none:=u1.free hq
        have ntq:tc ≠ q:=ne_of_none upd_same hq
        refine ⟨_,rfl,r,rfl,⟨_,SqL.of (u12 _ _ hz)⟩,for_list (K:=K) (a:=r) (xs:=zs) (fun j σ H' => ∃ v5:Option V, σ = [some (.ref l),some (.ref r),some (.ref b),some (.ref tc),some (.ref q),v5,none] ∧ Same H1 H' ∧ H' tc = some (.tup [.int 0, .int 1]) ∧ ∃ ws,H' q = some (.lst ws) ∧ Paired (fun x y => ∃ p,y = V.ref p ∧ p ≠ q ∧ H' p = some (.lst (x.map V.int))) (Fm.longer (rows.take j) c) ws)
          ⟨v5,rfl,u12,u2 _ _ upd_same,[],upd_same, .nil⟩ (fun j σ H' _ ⟨_,_,u3,_⟩=>SqL.of (u3 _ _ hz)) ?_ ?_⟩
        · rintro j x σ H4 hx ⟨w5,rfl,u4,htc4,ws,hws,pw⟩
          have hj:j < rows.length:=by rw [hzl];exact (List.getElem?_eq_some_iff.mp hx).1
          have hrj:rows[j]? = some rows[j]:=List.getElem?_eq_getElem hj
          obtain ⟨y,hy2,qj,rfl,hqj⟩:=L2.paired_get pz hrj
          have e:x = .ref qj:=Option.some.inj (hx.symm.trans hy2)
          subst e
          have hrw:=hwd _ (List.getElem_mem hj)
          have htj:rows.take (j + 1) = rows.take j ++ [rows[j]]:=take_snoc hrj
          have hlj:=len_longer c (rows.take j)
          have hpw:=pw.length
          rw [List.length_take] at hlj
          rw [htj]
          generalize rows[j] = row at *
          have elg:Fm.longer (rows.take j ++ [row]) c = Fm.longer (rows.take j) c ++ (Fm.choices c).map fun s=>row ++ [s]:=by
            unfold Fm.longer
            rw [List.flatMap_append,List.flatMap_singleton]
          rw [elg]
          refine ⟨_,rfl, .inl ⟨rfl,_,SqL.of hws⟩,_,rfl,tc,rfl,⟨_,SqT.of htc4⟩,fun D hD => ?_⟩
          refine lc_tpl (cs:=Fm.choices c) (fun _=>true) (fun s y H => ∃ p,y = V.ref p ∧ p ≠ q ∧ H p = some (.lst ((row ++ [s]).map V.int))) (fun s y H H' sm ⟨p,e1,e2,e3⟩=>⟨p,e1,e2,sm _ _ e3⟩) (SqT.of htc4) (by show 2 ≤ sizeLine;decide) (by rw [hch];rfl) hD (fun n x2 s2 H5 acc Ny Nx hx2 hs2 u5 hD1 h1 h2 => ?_) (fun H5 vs2 u5 hD1 pv => ?_)
          · have ex2:x2 = V.int s2:=by
              have:((Fm.choices c).map V.int)[n]? = some (V.int s2):=by rw [List.getElem?_map,hs2];rfl
              rw [hch] at this
              exact Option.some.inj (hx2.symm.trans this)
            subst ex2
            refine ⟨rfl, ?_⟩
            refine ⟨_,rfl,_,rfl,(by show 1 ≤ sizeLine;decide),fun l1 hl1 => ?_⟩
            have w1:=same_new (u := .lst [.int s2]) hl1
            have hqj5:H5 qj = some (.lst (row.map V.int)):=u5 _ _ (u4 _ _ hqj)
            refine ⟨qj,l1,_,_,rfl,rfl,w1 _ _ hqj5,upd_same,(by rw [List.length_map,hrw];show _ + 1 ≤ _;exact small_line (by rw [List.length_take];omega)),fun p hp=>h1 rfl _ _ (w1.trans (same_new hp)) ⟨p,rfl, ?_, ?_⟩⟩
            · exact fun z=>by rw [z,w1 _ _ (u5 _ _ hws)] at hp;cases hp
            · have:p ≠ D:=fun z=>by rw [z,w1 _ _ hD1] at hp;cases hp
              rw [hid_ne this,upd_same,List.map_append]
              rfl
          · rw [filter_tt] at pv
            have hpv:=pv.length
            refine ⟨q,D,_,_,rfl,rfl,u5 _ _ hws,hD1,(by show _ ≤ 2 ^ 24;omega),some (.ref qj),rfl,same_upd (u4.trans u5) nq, ?_,ws ++ vs2,upd_same, ?_⟩
            · rw [upd_ne ntq];exact u5 _ _ htc4
            · refine paired_append (pw.mono fun x y ⟨p,e1,e2,e3⟩=>⟨p,e1,e2,by rw [upd_ne e2];exact u5 _ _ e3⟩) (paired_map (F:=fun x y => ∃ p,y = V.ref p ∧ p ≠ q ∧ _ = some (HO.lst (x.map V.int))) (fun s=>row ++ [s]) (pv.mono fun s y ⟨p,e1,e2,e3⟩=>⟨p,e1,e2,by rw [upd_ne e2];exact e3⟩))
        · rintro σ H4 ⟨w5,rfl,u4,htc4,ws,hws,pw⟩
          rw [← hzl,List.take_length] at pw
          exact ⟨_,rfl,q,some (.ref b),some (.ref tc),some (.ref q),w5,rfl,t1.trans u4,ws,hws,pw.mono fun x y ⟨p,e1,e2,e3⟩=>⟨p,e1,e3⟩⟩
      · rw [if_neg h13] at hch
        have u1:=same_new (u := .tup [.int 0]) htc
        refine ⟨Nat.zero_le _,fun q hq => ?_⟩
        have u2:=same_new (u := .lst []) hq
        have u12:=u1.trans u2
        have nq:H1 q = none:=u1.free hq
        have ntq:tc ≠ q:=ne_of_none upd_same hq
        refine ⟨_,rfl,r,rfl,⟨_,SqL.of (u12 _ _ hz)⟩,for_list (K:=K) (a:=r) (xs:=zs) (fun j σ H' => ∃ v5:Option V, σ = [some (.ref l),some (.ref r),some (.ref b),some (.ref tc),some (.ref q),v5,none] ∧ Same H1 H' ∧ H' tc = some (.tup [.int 0]) ∧ ∃ ws,H' q = some (.lst ws) ∧ Paired (fun x y => ∃ p,y = V.ref p ∧ p ≠ q ∧ H' p = some (.lst (x.map V.int))) (Fm.longer (rows.take j) c) ws)
          ⟨v5,rfl,u12,u2 _ _ upd_same,[],upd_same, .nil⟩ (fun j σ H' _ ⟨_,_,u3,_⟩=>SqL.of (u3 _ _ hz)) ?_ ?_⟩
        · rintro j x σ H4 hx ⟨w5,rfl,u4,htc4,ws,hws,pw⟩
          have hj:j < rows.length:=by rw [hzl];exact (List.getElem?_eq_some_iff.mp hx).1
          have hrj:rows[j]? = some rows[j]:=List.getElem?_eq_getElem hj
          obtain ⟨y,hy2,qj,rfl,hqj⟩:=L2.paired_get pz hrj
          have e:x = .ref qj:=Option.some.inj (hx.symm.trans hy2)
          subst e
          have hrw:=hwd _ (List.getElem_mem hj)
          have htj:rows.take (j + 1) = rows.take j ++ [rows[j]]:=take_snoc hrj
          have hlj:=len_longer c (rows.take j)
          have hpw:=pw.length
          rw [List.length_take] at hlj
          rw [htj]
          generalize rows[j] = row at *
          have elg:Fm.longer (rows.take j ++ [row]) c = Fm.longer (rows.take j) c ++ (Fm.choices c).map fun s=>row ++ [s]:=by
            unfold Fm.longer
            rw [List.flatMap_append,List.flatMap_singleton]
          rw [elg]
          refine ⟨_,rfl, .inl ⟨rfl,_,SqL.of hws⟩,_,rfl,tc,rfl,⟨_,SqT.of htc4⟩,fun D hD => ?_⟩
          refine lc_tpl (cs:=Fm.choices c) (fun _=>true) (fun s y H => ∃ p,y = V.ref p ∧ p ≠ q ∧ H p = some (.lst ((row ++ [s]).map V.int))) (fun s y H H' sm ⟨p,e1,e2,e3⟩=>⟨p,e1,e2,sm _ _ e3⟩) (SqT.of htc4) (by show 1 ≤ sizeLine;decide) (by rw [hch];rfl) hD (fun n x2 s2 H5 acc Ny Nx hx2 hs2 u5 hD1 h1 h2 => ?_) (fun H5 vs2 u5 hD1 pv => ?_)
          · have ex2:x2 = V.int s2:=by
              have:((Fm.choices c).map V.int)[n]? = some (V.int s2):=by rw [List.getElem?_map,hs2];rfl
              rw [hch] at this
              exact Option.some.inj (hx2.symm.trans this)
            subst ex2
            refine ⟨rfl, ?_⟩
            refine ⟨_,rfl,_,rfl,(by show 1 ≤ sizeLine;decide),fun l1 hl1 => ?_⟩
            have w1:=same_new (u := .lst [.int s2]) hl1
            have hqj5:H5 qj = some (.lst (row.map V.int)):=u5 _ _ (u4 _ _ hqj)
            refine ⟨qj,l1,_,_,rfl,rfl,w1 _ _ hqj5,upd_same,(by rw [List.length_map,hrw];show _ + 1 ≤ _;exact small_line (by rw [List.length_take];omega)),fun p hp=>h1 rfl _ _ (w1.trans (same_new hp)) ⟨p,rfl, ?_, ?_⟩⟩
            · exact fun z=>by rw [z,w1 _ _ (u5 _ _ hws)] at hp;cases hp
            · have:p ≠ D:=fun z=>by rw [z,w1 _ _ hD1] at hp;cases hp
              rw [hid_ne this,upd_same,List.map_append]
              rfl
          · rw [filter_tt] at pv
            have hpv:=pv.length
            refine ⟨q,D,_,_,rfl,rfl,u5 _ _ hws,hD1,(by show _ ≤ 2 ^ 24;omega),some (.ref qj),rfl,same_upd (u4.trans u5) nq, ?_,ws ++ vs2,upd_same, ?_⟩
            · rw [upd_ne ntq];exact u5 _ _ htc4
            · refine paired_append (pw.mono fun x y ⟨p,e1,e2,e3⟩=>⟨p,e1,e2,by rw [upd_ne e2];exact u5 _ _ e3⟩) (paired_map (F:=fun x y => ∃ p,y = V.ref p ∧ p ≠ q ∧ _ = some (HO.lst (x.map V.int))) (fun s=>row ++ [s]) (pv.mono fun s y ⟨p,e1,e2,e3⟩=>⟨p,e1,e2,by rw [upd_ne e2];exact e3⟩))
        · rintro σ H4 ⟨w5,rfl,u4,htc4,ws,hws,pw⟩
          rw [← hzl,List.take_length] at pw
          exact ⟨_,rfl,q,some (.ref b),some (.ref tc),some (.ref q),w5,rfl,t1.trans u4,ws,hws,pw.mono fun x y ⟨p,e1,e2,e3⟩=>⟨p,e1,e3⟩⟩
    · rintro σ H1 ⟨r,v2,v3,v4,v5,rfl,t1,g1⟩
      refine ⟨_,rfl,k _ r t1 ?_⟩
      rw [← hl,List.take_length] at g1
      exact g1
theorem ok_diode_places (F:Fun K "diode_places" "diode_places" s_diode_places f fd) (T:Txt K mg Z):FnOk P w K mg base CX0 1 f fd ["parts"] (spDiodes K Z.Part):=by
  refine F.ok sc_diode_places (fun vs H Q E h => ?_) (fun cdv A outer s H vs Q E hr h => ?_)
  · obtain ⟨l,cs,rfl,_⟩:=h
    rfl
  · obtain ⟨l,cs,rfl,⟨ys,hy,pr⟩,hn,k⟩:=h
    have hl:=pr.length
    refine ⟨_,(pss_one (ps_ret (pe_lc (own:=[("k",1),("part",2)]) rfl sc_diode_places.nd (pi_enumK K rfl T.b_enumerate (pa_cons (pv 0) pa_nil)) (blkOk_by (by (show L2.blkC ["parts", "k", "part"] (defScope s_diode_places) _ _ = true);decide +kernel)) (fun _ _ _ _ _=>(pg_tupK K (n:=2) rfl (pgs_cons (pg_name (i:=1) sc_diode_places.nd rfl (Or.inl rfl)) (pgs_cons (pg_name (i:=2) sc_diode_places.nd rfl (Or.inl rfl)) pgs_nil)))) (fun _ _ _ _ _=>(pts_one (pt_cmp (pc_eqI (pe_fldK K (pv 2) rfl) (pe_gi T.g_DIODE))))) (fun _ _ _ _ _=>(pv 1))))), ?_⟩
    refine ⟨_,rfl,l,_,rfl,hy,fun D hD => ?_⟩
    refine lc_enum (cs:=List.range cs.length) (fun j=>decide (Jm.kd (cs.getD j []) = 13)) (fun j y H=>y = V.int (j:Nat)) (fun _ _ _ _ _ h=>h) hy (small_line (by omega)) (by rw [List.length_range,hl]) hD (fun i x j H1 T1 acc Ny Nx hx hj s1 hD1 hT h1 h2 => ?_) (fun H1 zs s1 hD1 pz => ?_)
    · have hi:i < cs.length:=by rw [hl];exact (List.getElem?_eq_some_iff.mp hx).1
      have ej:i = j:=by
        rw [List.getElem?_range hi] at hj
        exact Option.some.inj hj
      subst ej
      obtain ⟨b,hb,hp,hc⟩:=part_at (K:=K) pr hi
      have e:x = .ref b:=Option.some.inj (hx.symm.trans hb)
      subst e
      have s2:=same_new (u := .tup [.int (i:Nat), .ref b]) hT
      refine ⟨T1,_,rfl,SqT.of upd_same,rfl,_,_,rfl,_,_,rfl,rfl,rfl, ?_⟩
      walk_at "go"
      refine rd_kind T rfl (hp.same (s1.trans s2)) ⟨_,_,rfl,rfl,_,rfl,ite_b (fun h13 => ?_) (fun h13 => ?_)⟩
      · exact ⟨_,rfl,h1 (decide_eq_true h13) _ _ s2 rfl⟩
      · exact h2 (decide_eq_false h13) _ s2
    · refine k _ D s1 hD ?_
      rw [hD1,paired_eq pz]
      unfold nats Fm.diodeIx
      rw [List.map_map]
      rfl
theorem ok_condition_holds (F:Fun K "condition_holds" "condition_holds" s_condition_holds f fd) (T:Txt K mg Z) (m_Solution_top_of:Mth P w K mg base 2 Z.Solution "top_of" ["self", "form"] (spTopOf K Z.Solution)) (m_Columns_single:Mth P w K mg base 2 Z.Columns "single" ["self", "column"] (spSingle Z.Columns))
    (m_Columns_between:Mth P w K mg base 2 Z.Columns "between" ["self", "first", "second"] (spBetween Z.Columns)):FnOk P w K mg base CX0 3 f fd ["parts", "k", "state", "columns", "solution"] (spCond K Z.Part Z.Columns Z.Solution):=by
  refine F.ok sc_condition_holds (fun vs H Q E h => ?_) (fun cdv A outer s H vs Q E hr h => ?_)
  · obtain ⟨l,a,b,N,cs,j,st,so,rfl,_⟩:=h
    rfl
  · obtain ⟨l,a,b,N,cs,j,st,so,rfl,⟨⟨ys,hy,pr⟩,hcols,R,hj⟩,h13,hs,tm,k⟩:=h
    refine ⟨_,(pss_cons (ps_set (i:=5) sc_condition_holds.nd rfl (Or.inl rfl) (pe_ix (ix_listK K) (pv 0) (pv 1) (fun _ _=>rfl)))
      (pss_cons (ps_if (pt_cmp (pc_eqI (pv 2) pe_int)) (pss_one (ps_ret (pe_cmp (pc_ge (pe_mth m_Solution_top_of hr (pv 4) (pa_cons (pe_mth m_Columns_single hr (pv 3) (pa_cons (pe_ix (ix_listK K) (pe_fldK K (pv 3) rfl) (pv 1) (fun _ _=>rfl)) pa_nil)) pa_nil)) pe_int)))) pss_nil)
      (pss_cons (ps_set (i:=6) sc_condition_holds.nd rfl (Or.inl rfl) (pe_mth m_Solution_top_of hr (pv 4) (pa_cons (pe_mth m_Columns_between hr (pv 3) (pa_cons (pe_ix (ix_listK K) (pe_fldK K (pv 5) rfl) pe_int (fun _ _=>rfl)) (pa_cons (pe_ix (ix_listK K) (pe_fldK K (pv 5) rfl) pe_int (fun _ _=>rfl)) pa_nil))) pa_nil)))
      (pss_one (ps_ret (pe_cmp (pc_le (pe_op op_mulB (pv 6) (pe_fldK K (pv 5) rfl)) (pe_op op_mulB (pe_fldK K (pv 5) rfl) (pe_fldK K (pv 4) rfl))))))))), ?_⟩
    obtain ⟨bp,hb,hp,hc⟩:=part_at (K:=K) pr hj
    have hmem:=List.mem_of_getElem? hc
    have g:=R.good _ hmem
    have gb:=good_big g
    have hw:=Fm.one_le R.n8 R.len
    have hcc13:Fm.cc (cs.getD j []) ≠ 0:=by unfold Fm.cc;rw [h13];decide
    have n2:=Fm.node2_le R hmem hcc13
    have hcur:Fm.cur N cs j ≤ Fm.one N cs:=Fm.cur_le _ _ _
    obtain ⟨dx,l0,hc1,hc2⟩:=hcols.ex
    obtain ⟨dxs,t,hs1,hs2⟩:=id hs
    unfold Fm.condH at k
    generalize hcc:cs.getD j [] = c at *
    refine ⟨_,rfl,_,rfl,l,_,_,_,rfl,rfl,hy,atI_nat hb, ?_⟩
    refine ⟨_,rfl,_,_,rfl,rfl,_,rfl,ite_b (fun h1 => ?_) (fun h1 => ?_)⟩
    · rw [if_pos h1] at k
      refine ⟨_,rfl,b,dxs,_,rfl,hs1,sfs_no _ _ (by decide +kernel) (by decide +kernel),_,rfl,a,dx,_,rfl,hc1,cfs_no _ _ _ (by decide +kernel) (by decide +kernel) (by decide +kernel), ?_⟩
      refine ⟨_,rfl,a,Z.Columns,dx,_,_,rfl,hc1,T.cl_Columns,T.n_Columns_currents,cfs_currents N cs l0,_,rfl,l0,_,_,_,rfl,rfl,SqL.of hc2,cur_at hj,a,N,cs,_,rfl,hcols,by omega,hcur,fun H1 q1 s1 n1 g1 => ?_⟩
      exact ⟨b,q1,so,_,rfl,hs.same s1,SqL.of g1,(by rw [tm.len,Fm.len_single]),(by rw [Fm.len_single];omega),fun x hx => .one (Fm.abs_single _ _ x hx),tm.tb,fun H2 s2=>⟨_,_,rfl,rfl,k _ (s1.trans s2)⟩⟩
    rw [if_neg h1] at k
    refine ⟨_,rfl,b,dxs,_,rfl,hs1,sfs_no _ _ (by decide +kernel) (by decide +kernel),_,rfl,a,dx,_,rfl,hc1,cfs_no _ _ _ (by decide +kernel) (by decide +kernel) (by decide +kernel), ?_⟩
    walk_at "go"
    refine rd_places T rfl hp fun lp hlp=>⟨lp,_,_,_,rfl,rfl,SqL.of hlp,pl_at' g (j:=0) (by decide), ?_⟩
    walk_at "go"
    refine rd_places T rfl hp fun lp hlp=>⟨lp,_,_,_,rfl,rfl,SqL.of hlp,pl_at' g (j:=1) (by decide),a,N,cs,Fm.pn c 0,Fm.pn c 1,rfl,hcols,by omega,by omega,by omega,fun H1 q1 s1 n1 g1 => ?_⟩
    refine ⟨b,q1,so,_,rfl,hs.same s1,SqL.of g1,(by rw [tm.len,Fm.len_between]),(by rw [Fm.len_between];omega),fun x hx => .one (Fm.abs_between _ _ _ x hx),tm.tb,fun H2 s2 => ?_⟩
    have s12:=s1.trans s2
    refine ⟨_,rfl, ?_⟩
    walk_at "go"
    refine rd_bottom T rfl (hp.same s12) ⟨_,_,rfl,rfl,⟨tm.db _ _,gb.2⟩, ?_⟩
    walk_at "go"
    refine rd_top T rfl (hp.same s12) ⟨_,rfl,b,Z.Solution,dxs,_,_,rfl,s12 _ _ hs1,T.cl_Solution,T.n_Solution_bottom,sfs_bottom so t,_,_,rfl,rfl,⟨gb.1,tm.bt⟩,_,_,rfl,rfl,k _ s12⟩
theorem ok_conditions_hold (F:Fun K "conditions_hold" "conditions_hold" s_conditions_hold f fd) (T:Txt K mg Z) (c_condition_holds:Cal P w K mg base 3 "condition_holds" ["parts", "k", "state", "columns", "solution"] (spCond K Z.Part Z.Columns Z.Solution)) (c_diode_places:Cal P w K mg base 1 "diode_places" ["parts"] (spDiodes K Z.Part)) :
    FnOk P w K mg base CX0 4 f fd ["parts", "states", "columns", "solution"] (spConds K Z.Part Z.Columns Z.Solution):=by
  refine F.ok sc_conditions_hold (fun vs H Q E h => ?_) (fun cdv A outer s H vs Q E hr h => ?_)
  · obtain ⟨l,t,a,b,N,cs,sts,so,rfl,_⟩:=h
    rfl
  · obtain ⟨l,t,a,b,N,cs,sts,so,rfl,hps,hcols,R,ht,hlen,hs,tm,k⟩:=h
    refine ⟨_,(pss_one (ps_ret (pe_callB (cr_allK K rfl) rfl T.b_all boot_all (pa_cons (pe_lc (own:=[("k",4)]) rfl sc_conditions_hold.nd (pi_listK K (pe_cal c_diode_places hr (pa_cons (pv 0) pa_nil))) (blkOk_by (by (show L2.blkC ["parts", "states", "columns", "solution", "k"] (defScope s_conditions_hold) _ _ = true);decide +kernel)) (fun _ _ _ _ _=>(pg_name (i:=4) sc_conditions_hold.nd rfl (Or.inl rfl))) (fun _ _ _ _ _=>pts_nil) (fun _ _ _ _ _=>(pe_cal c_condition_holds hr (pa_cons (pv 0) (pa_cons (pv 4) (pa_cons (pe_ix (ix_listK K) (pv 1) (pv 4) (fun _ _=>rfl)) (pa_cons (pv 2) (pa_cons (pv 3) pa_nil)))))))) pa_nil)))), ?_⟩
    have hl14:=R.len
    refine ⟨_,rfl,l,cs,rfl,hps,by omega,fun H1 q1 s1 n1 g1=>⟨q1,rfl,⟨_,SqL.of g1⟩,fun D hD => ?_⟩⟩
    have hdl:(Fm.diodeIx cs).length ≤ cs.length:=Nat.le_trans (List.length_filter_le _ _) (by rw [List.length_range];exact Nat.le_refl _)
    have hnl:((nats (Fm.diodeIx cs)).map V.int).length = (Fm.diodeIx cs).length:=by rw [List.length_map];unfold nats;rw [List.length_map]
    refine lc_lst (cs:=Fm.diodeIx cs) (fun _=>true) (fun j y H=>y = V.bl (Fm.condH N cs j (sts.getD j 0) so)) (fun _ _ _ _ _ h=>h) (SqL.of g1) (small_line (by omega)) hnl.symm hD (fun i x j H2 acc Ny Nx hx hj s2 hD1 h1 h2 => ?_) (fun H2 zs s2 hD1 pz => ?_)
    · have e:x = V.int (j:Nat):=by
        unfold nats at hx
        rw [List.getElem?_map,List.getElem?_map,hj] at hx
        exact (Option.some.inj hx).symm
      subst e
      have hjm:=List.mem_filter.mp (List.mem_of_getElem? hj)
      have hjl:j < cs.length:=List.mem_range.mp hjm.1
      have s12:=s1.trans s2
      refine ⟨rfl, ?_⟩
      exact ⟨_,rfl,_,rfl,_,rfl,_,rfl,t,_,_,_,rfl,rfl,SqL.of (s12 _ _ ht),at_int (by omega),_,rfl,_,rfl,l,a,b,N,cs,j,_,so,rfl,⟨hps.same s12,hcols.same s12,R,hjl⟩,of_decide_eq_true hjm.2,hs.same s12,tm,fun H3 s3=>h1 rfl _ _ s3 rfl⟩
    · rw [filter_tt] at pz
      refine ⟨D,(Fm.diodeIx cs).map fun j=>Fm.condH N cs j (sts.getD j 0) so,rfl,SqL.of (by rw [hD1,paired_eq pz,List.map_map];all_goals rfl), ?_⟩
      have eall:((Fm.diodeIx cs).map fun j=>Fm.condH N cs j (sts.getD j 0) so).all id = Fm.condsH N cs sts so:=by rw [List.all_map];rfl
      rw [eall]
      exact k _ (s1.trans s2)
theorem ok_operating_point (F:Fun K "operating_point" "operating_point" s_operating_point f fd) (T:Txt K mg Z) (c_state_rows:Cal P w K mg base 1 "state_rows" ["parts"] (spStates K Z.Part)) (c_solution_of:Cal P w K mg base 5 "solution_of" ["forms", "columns"] (spSolution Z.Columns Z.Solution)) (c_law_forms:Cal P w K mg base 6 "law_forms" ["parts", "states", "columns"] (spLawForms K Z.Part Z.Columns))
    (c_conditions_hold:Cal P w K mg base 4 "conditions_hold" ["parts", "states", "columns", "solution"] (spConds K Z.Part Z.Columns Z.Solution)) (m_Point:Mak P w K mg base 1 "Point" Z.Point ["self", "states", "solution"] (spPtInit Z.Point)):FnOk P w K mg base CX0 7 f fd ["parts", "columns"] (spOp K Z.Part Z.Columns Z.Solution Z.Point):=by
  refine F.ok sc_operating_point (fun vs H Q E h => ?_) (fun cdv A outer s H vs Q E hr h => ?_)
  · obtain ⟨l,a,N,cs,rfl,_⟩:=h
    rfl
  · obtain ⟨l,a,N,cs,rfl,hps,hcols,R,k⟩:=h
    refine ⟨_,(pss_cons (ps_for PassesOwn.never rfl (pi_listK K (pe_cal c_state_rows hr (pa_cons (pv 0) pa_nil))) (pg_name (i:=2) sc_operating_point.nd rfl (Or.inl rfl)) (pss_cons (ps_set (i:=3) sc_operating_point.nd rfl (Or.inl rfl) (pe_cal c_solution_of hr (pa_cons (pe_cal c_law_forms hr (pa_cons (pv 0) (pa_cons (pv 2) (pa_cons (pv 1) pa_nil)))) (pa_cons (pv 1) pa_nil))))
      (pss_one (ps_if (PW.pt (pw_and (pt_cmp (pc_notN (pv 3))) (pw_and1 (pt_truthK K (pe_cal c_conditions_hold hr (pa_cons (pv 0) (pa_cons (pv 2) (pa_cons (pv 1) (pa_cons (pv 3) pa_nil))))) (fun _=>rfl))))) (pss_one (ps_ret (pe_mak m_Point hr (pa_cons (pv 2) (pa_cons (pv 3) pa_nil))))) pss_nil))))
      (pss_one (ps_ret pe_non))), ?_⟩
    refine ⟨_,rfl,l,cs,rfl,hps,R.good,R.len,R.dio,fun H1 q1 s1 ⟨ys,hy,pr⟩ => ?_⟩
    have hl:=pr.length
    refine ⟨q1,rfl,⟨_,SqL.of hy⟩,for_list (K:=K) (a:=q1) (xs:=ys) (fun i σ H' => ∃ v2 v3:Option V, σ = [some (.ref l),some (.ref a),v2,v3] ∧ Same H1 H' ∧ ∀ j,j < i → Fm.tryRow N cs ((Fm.stateRows cs).getD j []) = none)
      ⟨none,none,rfl,Same.refl _,fun j hj=>absurd hj (Nat.not_lt_zero j)⟩ (fun i σ H' _ ⟨_,_,_,s2,_⟩=>SqL.of (s2 _ _ hy)) ?_ ?_⟩
    · rintro i x σ H2 hx ⟨v2,v3,rfl,s2,inv⟩
      have hi:i < (Fm.stateRows cs).length:=by rw [hl];exact (List.getElem?_eq_some_iff.mp hx).1
      obtain ⟨q,hq,hrow⟩:=mat_get pr hi
      have e:x = .ref q:=Option.some.inj (hx.symm.trans hq)
      subst e
      have hmem:(Fm.stateRows cs).getD i [] ∈ Fm.stateRows cs:=Red.mem_getD.mpr ⟨_,hi,rfl⟩
      have hlen:=states_len _ hmem
      have hfound:∀ p,Fm.tryRow N cs ((Fm.stateRows cs).getD i []) = some p → Fm.opPoint N cs = some p:=fun p hp=>Fm.found_is hi inv hp
      have nx:Fm.tryRow N cs ((Fm.stateRows cs).getD i []) = none → ∀ j,j < i + 1 → Fm.tryRow N cs ((Fm.stateRows cs).getD j []) = none:=fun h j hj=>by
        by_cases ej:j = i
        · rw [ej];exact h
        · exact inv j (by omega)
      generalize (Fm.stateRows cs).getD i [] = sts at *
      have fi:=fine_laws R hlen
      have s12:=s1.trans s2
      refine ⟨_,rfl,_,rfl,_,rfl,l,q,a,N,cs,sts,rfl,hps.same s12,hcols.same s12,R,s2 _ _ hrow,hlen,fun H3 q3 s3 hm3 => ?_⟩
      have s13:=s12.trans s3
      refine ⟨_,rfl,q3,a,N,cs,_,rfl,hm3,hcols.same s13,fi,fun H4 y s4 hy4 => ?_⟩
      have s14:=s13.trans s4
      have s24:=(s2.trans s3).trans s4
      unfold Fm.tryRow at hfound nx
      cases hsol:Fm.solOf (Fm.lawForms N cs sts) (Fm.one N cs) with
      | none =>
        rw [hsol] at hy4 nx
        have ey:y = .non:=hy4
        subst ey
        exact ⟨_,rfl,_,rfl,iteF (iteF ⟨some (.ref q),some .non,rfl,s24,nx rfl⟩)⟩
      | some so =>
        have tm:=tame_sol R hlen hsol
        rw [hsol] at hy4 nx hfound
        obtain ⟨q4,ey,hs4⟩:=hy4
        subst ey
        dsimp only at nx hfound
        refine ⟨_,rfl,_,rfl,iteT ⟨_,rfl,_,rfl,_,rfl,_,rfl,l,q,a,q4,N,cs,sts,so,rfl,hps.same s14,hcols.same s14,R,s24 _ _ hrow,hlen,hs4,tm,fun H5 s5=>⟨_,rfl, ?_⟩⟩⟩
        refine ite_v (fun hc => ?_) (fun hc => ?_)
        · have hf:=hfound (sts,so) (by rw [if_pos hc])
          refine ⟨_,rfl,_,rfl,fun x dx nx ndx nex=>⟨x,dx,q,q4,H5,rfl,upd_same,made_same nx ndx,nx,fun H6 s6 g6=>⟨rfl,k _ _ ((s14.trans s5).trans s6) ?_⟩⟩⟩
          rw [hf]
          exact ⟨x,rfl,dx,q,q4,g6,s6 _ _ (s5 _ _ (s24 _ _ hrow)),(hs4.same s5).same s6⟩
        · exact ⟨some (.ref q),some (.ref q4),rfl,s24.trans s5,nx (by rw [if_neg (by rw [hc];simp)])⟩
    · rintro σ H2 ⟨v2,v3,rfl,s2,inv⟩
      refine k _ _ (s1.trans s2) ?_
      rw [Fm.found_no (fun j hj=>inv j (by rw [← hl];exact hj))]
      rfl
theorem ok_common_divisor (F:Fun K "common_divisor" "common_divisor" s_common_divisor f fd) (T:Txt K mg Z):FnOk P w K mg base CX0 1 f fd ["first", "second"] spDivisor:=by
  refine F.ok sc_common_divisor (fun vs H Q E h => ?_) (fun cdv A outer s H vs Q E hr h => ?_)
  · obtain ⟨t,b,rfl,_⟩:=h
    rfl
  · obtain ⟨t,b,rfl,hb,k⟩:=h
    refine ⟨_,(pss_cons (ps_while PassesOwn.never (pt_cmp (pc_neI (pv 1) pe_int)) (pss_cons (ps_set (i:=2) sc_common_divisor.nd rfl (Or.inl rfl) (pe_op op_modN (pv 0) (pv 1)))
      (pss_cons (ps_set (i:=0) sc_common_divisor.nd rfl (Or.inl rfl) (pv 1))
      (pss_one (ps_set (i:=1) sc_common_divisor.nd rfl (Or.inl rfl) (pv 2))))))
      (pss_one (ps_ret (pv 0)))), ?_⟩
    refine while_by (fun σ H' => ∃ (x y:Int) (v2:Option V), σ = [some (.int x),some (.int y),v2] ∧ H' = H ∧ 0 ≤ y ∧ (y = 0 → 0 < x) ∧ Int.gcd x y = Int.gcd t b) (fun (σ : L2.St) _=>match σ[1]? with | some (some (V.int y))=>y.toNat | _=>0) ⟨t,b,none,rfl,rfl,by omega,by omega,rfl⟩ ?_ ?_
    · rintro σ H1 ⟨x,y,v2,rfl,rfl,hy,hx,hg⟩
      refine ⟨_,rfl,_,_,rfl,rfl,_,rfl,ite_n (fun hy0 => ?_) (fun hy0 => ?_)⟩
      · have hyp:0 < y:=by omega
        have e:=Fm.gcd_step (a:=x) hyp
        have hm1:0 ≤ x.fmod y:=Int.fmod_nonneg_of_pos x hyp
        have hm2:x.fmod y < y:=Int.fmod_lt_of_pos x hyp
        refine ⟨_,rfl,_,rfl,_,_,rfl,rfl,hy0,_,rfl,_,rfl,⟨y,x.fmod y,some (.int (x.fmod y)),rfl,rfl,hm1,fun _=>hyp,by rw [e];exact hg⟩, ?_⟩
        show (x.fmod y).toNat < y.toNat
        omega
      · subst hy0
        refine ⟨_,rfl, ?_⟩
        have e:x = (Int.gcd t b:Nat):=by
          rw [← hg,Int.gcd_zero]
          have:=hx rfl
          omega
        rw [e]
        exact k _ (Same.refl _)
    · rintro σ H1 Q1 Q2 hq ⟨x,e,i,j,e1,e2,c,e3,q⟩
      exact ⟨x,e,i,j,e1,e2,c,e3,hq _ _ q⟩
theorem ok_lowest (F:Fun K "lowest" "lowest" s_lowest f fd) (T:Txt K mg Z) (c_common_divisor:Cal P w K mg base 1 "common_divisor" ["first", "second"] spDivisor):FnOk P w K mg base CX0 2 f fd ["top", "bottom"] spLowest:=by
  refine F.ok sc_lowest (fun vs H Q E h => ?_) (fun cdv A outer s H vs Q E hr h => ?_)
  · obtain ⟨t,b,rfl,_⟩:=h
    rfl
  · obtain ⟨t,b,rfl,hb,bb,k⟩:=h
    refine ⟨_,(pss_cons (ps_set (i:=2) sc_lowest.nd rfl (Or.inl rfl) (pe_cal c_common_divisor hr (pa_cons (pv 0) (pa_cons (pv 1) pa_nil))))
      (pss_one (ps_ret (pe_lst (pa_cons (pe_op op_fdivB (pv 0) (pv 2)) (pa_cons (pe_op op_fdivB (pv 1) (pv 2)) pa_nil)))))), ?_⟩
    have hp:=Fm.gcd_pos (t:=t) hb
    have hle:=Fm.gcd_le (t:=t) hb
    have bg:Big ((Int.gcd t b:Nat):Int):=by
      unfold Big at bb ⊢
      omega
    refine ⟨_,rfl,_,rfl,t,b,rfl,hb,fun H1 s1 => ?_⟩
    refine ⟨_,rfl,_,rfl,_,_,rfl,rfl,⟨by omega,bg⟩,_,rfl,_,rfl,_,_,rfl,rfl,⟨by omega,bg⟩,(by show 2 ≤ sizeLine;decide),fun q hq=>k _ q (s1.trans (same_new hq)) (s1.free hq) ?_⟩
    rw [upd_same]
    rfl
theorem ok_current_put (F:Fun K "current_put" "current_put" s_current_put f fd) (T:Txt K mg Z):FnOk P w K mg base CX0 1 f fd ["node", "a", "b"] spCurPut:=by
  refine F.ok sc_current_put (fun vs H Q E h => ?_) (fun cdv A outer s H vs Q E hr h => ?_)
  · obtain ⟨v,a,b,rfl,_⟩:=h
    rfl
  · obtain ⟨v,a,b,rfl,k⟩:=h
    refine ⟨_,(pss_cons (ps_set (i:=3) sc_current_put.nd rfl (Or.inl rfl) (pe_ifExp (pt_cmp (pc_eqI (pv 0) (pv 2))) pe_int pe_int))
      (pss_cons (ps_set (i:=4) sc_current_put.nd rfl (Or.inl rfl) (pe_ifExp (pt_cmp (pc_eqI (pv 0) (pv 1))) pe_int pe_int))
      (pss_one (ps_ret (pe_op op_sub (pv 3) (pv 4)))))), ?_⟩
    have fin:=k H (Same.refl _)
    unfold Fm.curPut at fin
    refine ⟨_,rfl,_,rfl,_,_,rfl,rfl,_,rfl,ite_b (fun h1 => ?_) (fun h1 => ?_)⟩
    · rw [if_pos (show v = b by omega)] at fin
      refine ⟨_,rfl,_,rfl,_,_,rfl,rfl,_,rfl,ite_b (fun h2 => ?_) (fun h2 => ?_)⟩
      · rw [if_pos (show v = a by omega)] at fin
        exact ⟨_,rfl,_,rfl,_,_,rfl,rfl,fin⟩
      · rw [if_neg (show ¬ v = a by omega)] at fin
        exact ⟨_,rfl,_,rfl,_,_,rfl,rfl,fin⟩
    · rw [if_neg (show ¬ v = b by omega)] at fin
      refine ⟨_,rfl,_,rfl,_,_,rfl,rfl,_,rfl,ite_b (fun h2 => ?_) (fun h2 => ?_)⟩
      · rw [if_pos (show v = a by omega)] at fin
        exact ⟨_,rfl,_,rfl,_,_,rfl,rfl,fin⟩
      · rw [if_neg (show ¬ v = a by omega)] at fin
        exact ⟨_,rfl,_,rfl,_,_,rfl,rfl,fin⟩
theorem ok_probe_forms (F:Fun K "probe_forms" "probe_forms" s_probe_forms f fd) (T:Txt K mg Z) (c_current_put:Cal P w K mg base 1 "current_put" ["node", "a", "b"] spCurPut) (c_node_forms:Cal P w K mg base 2 "node_forms" ["parts", "columns"] (spNodes K Z.Part Z.Columns)) (c_all_part_laws:Cal P w K mg base 5 "all_part_laws" ["parts", "states", "columns"] (spAllLaws K Z.Part Z.Columns Z.Law))
    (m_Law_form:Mth P w K mg base 2 Z.Law "form" ["self"] (spForm Z.Law Fm.LawD.form)):FnOk P w K mg base CX0 6 f fd ["a", "b", "parts", "states", "columns"] (spProbe K Z.Part Z.Columns):=by
  refine F.ok sc_probe_forms (fun vs H Q E h => ?_) (fun cdv A outer s H vs Q E hr h => ?_)
  · obtain ⟨l,t,c,a,b,N,cs,sts,rfl,_⟩:=h
    rfl
  · obtain ⟨l,t,c,a,b,N,cs,sts,rfl,hps,hcols,R,ht,hlen,k⟩:=h
    refine ⟨_,(pss_cons (ps_setLc (own:=[("node",6),("form",7)]) (i:=5) rfl sc_probe_forms.nd rfl rfl (sw_true rfl rfl rfl rfl) (Le.pi_from1 K rfl T.b_enumerate (pa_cons (pe_cal c_node_forms hr (pa_cons (pv 2) (pa_cons (pv 4) pa_nil))) pa_nil)) (blkOk_by (by (show L2.blkC ["a", "b", "parts", "states", "columns", "forms", "node", "form", "law"] (defScope s_probe_forms) _ _ = true);decide +kernel)) (fun _ _ _ _ _=>(pg_tupK K (n:=2) rfl (pgs_cons (pg_name (i:=6) sc_probe_forms.nd rfl (Or.inl rfl)) (pgs_cons (pg_name (i:=7) sc_probe_forms.nd rfl (Or.inl rfl)) pgs_nil)))) (fun _ _ _ _ _=>pts_nil) (fun _ _ _ _ _=>(pe_op op_cat (pe_slice (sl_listK K) (pv 7) po_none (po_some (pe_un un_neg pe_int))) (pe_lst (pa_cons (pe_cal c_current_put hr (pa_cons (pv 6) (pa_cons (pv 0) (pa_cons (pv 1) pa_nil)))) pa_nil)))))
      (pss_cons (ps_expr (pe_bm PySem.F.plainAttrs_list PySem.F.slot_list_extend PySem.F.type_list_extend mt_extend (pv 5) (pa_cons (pe_lc (own:=[("law",8)]) rfl sc_probe_forms.nd (pi_listK K (pe_cal c_all_part_laws hr (pa_cons (pv 2) (pa_cons (pv 3) (pa_cons (pv 4) pa_nil))))) (blkOk_by (by (show L2.blkC ["a", "b", "parts", "states", "columns", "forms", "node", "form", "law"] (defScope s_probe_forms) _ _ = true);decide +kernel)) (fun _ _ _ _ _=>(pg_name (i:=8) sc_probe_forms.nd rfl (Or.inl rfl))) (fun _ _ _ _ _=>pts_nil) (fun _ _ _ _ _=>(pe_op op_cat (pe_slice (sl_listK K) (pe_mth0 m_Law_form hr (pv 8)) po_none (po_some (pe_un un_neg pe_int))) (pe_lst (pa_cons pe_int pa_nil))))) pa_nil)))
      (pss_one (ps_ret (pv 5))))), ?_⟩
    have hl14:=R.len
    have hn8:=R.n8
    have ho:=Fm.one_le R.n8 R.len
    have hnl:=Fm.nodeForms_len N cs
    refine ⟨_,rfl,_,rfl,l,c,N,cs,rfl,hps,hcols,R,fun H1 l1 s1 ⟨ys1,g1,p1⟩=>⟨l1,_,rfl,SqL.of g1,fun D hD => ?_⟩⟩
    have hl1:=p1.length
    refine Le.lc_from1 (cs:=(List.range N).map fun i=>Fm.put ((Fm.nodeForms N cs).getD i []) (Fm.curPut (i + 1) a b)) (fun _=>true) (fun x y H => ∃ r,y = V.ref r ∧ r ≠ D ∧ H r = some (.lst (x.map V.int))) (fun x y H H' s ⟨r,e1,e2,e3⟩=>⟨r,e1,e2,s _ _ e3⟩) (SqL.of g1) (small_line (by omega)) (by rw [List.length_map,List.length_range, ← hl1,hnl]) hD (fun i x f' H2 Tt acc Ny Nx hx hc s2 hD1 hT h1 h2 => ?_) (fun H2 zs s2 hD1 pz => ?_)
    · have hi:i < N:=by have:=(List.getElem?_eq_some_iff.mp hx).1;omega
      have hci:(Fm.nodeForms N cs)[i]? = some ((Fm.nodeForms N cs).getD i []):=by rw [List.getD_eq_getElem?_getD,List.getElem?_eq_getElem (show i < (Fm.nodeForms N cs).length by omega)];rfl
      have ef:f' = Fm.put ((Fm.nodeForms N cs).getD i []) (Fm.curPut (i + 1) a b):=by
        rw [List.getElem?_map,List.getElem?_range hi] at hc
        exact (Option.some.inj hc).symm
      obtain ⟨y,hy2,r,rfl,hr2⟩:=L2.paired_get p1 hci
      have e:x = .ref r:=Option.some.inj (hx.symm.trans hy2)
      subst e
      have hcl:=(node_small R _ (List.mem_of_getElem? hci)).1
      subst ef
      generalize (Fm.nodeForms N cs).getD i [] = g at *
      have t0:=same_new (u := .tup [.int ((i + 1:Nat):Int), .ref r]) hT
      have s20:=s2.trans t0
      refine ⟨Tt,_,rfl,SqT.of upd_same,rfl,_,_,rfl,_,_,rfl,rfl,rfl, ?_⟩
      refine ⟨_,rfl,_,rfl,_,rfl,r,_,rfl,SqL.of (s20 _ _ hr2),fun q1 hq1 => ?_⟩
      have t1:=same_new (u := .lst (cutV (g.map V.int) none (some (-1)))) hq1
      refine ⟨_,rfl,_,rfl,_,rfl,i + 1,a,b,rfl,fun H3 s3=>⟨(by show 1 ≤ sizeLine;decide),fun q2 hq2 => ?_⟩⟩
      have t2:=same_new (u := .lst [.int (Fm.curPut (i + 1) a b)]) hq2
      have t02:=t0.trans ((t1.trans s3).trans t2)
      have hD2:=t02 _ _ hD1
      refine ⟨q1,q2,_,_,rfl,rfl,t2 _ _ (s3 _ _ upd_same),upd_same,(by rw [cut_last,List.length_dropLast,List.length_map,hcl];show _ + 1 ≤ _;exact small_line (by omega)),fun q3 hq3=>h1 rfl _ _ (t02.trans (same_new hq3)) ⟨q3,rfl, ?_, ?_⟩⟩
      · exact fun z=>by rw [z,hD2] at hq3;cases hq3
      · have:q3 ≠ D:=fun z=>by rw [z,hD2] at hq3;cases hq3
        rw [hid_ne this,upd_same,cut_last]
        unfold Fm.put
        rw [List.map_append,List.map_dropLast]
        rfl
    rw [filter_tt] at pz
    have s12:=s1.trans s2
    have nD:H D = none:=s1.free hD
    have hzl:=pz.length
    rw [List.length_map,List.length_range] at hzl
    refine ⟨_,rfl, .inl ⟨rfl,_,SqL.of hD1⟩,_,rfl,_,rfl,_,rfl,l,t,c,N,cs,sts,rfl,hps.same s12,hcols.same s12,R,s12 _ _ ht,hlen,fun H3 l3 s3 ⟨ys3,g3,p3⟩=>⟨l3,rfl,⟨_,SqL.of g3⟩,fun D2 hD2 => ?_⟩⟩
    have hl3:=p3.length
    have hal:(Fm.allLaws N cs sts).length ≤ 28:=Nat.le_trans (Fm.allLaws_len N cs sts) (by omega)
    refine lc_lst (cs:=Fm.allLaws N cs sts) (fun _=>true) (fun d y H => ∃ r,y = V.ref r ∧ r ≠ D ∧ H r = some (.lst ((Fm.put d.form 0).map V.int))) (fun x y H H' s ⟨r,e1,e2,e3⟩=>⟨r,e1,e2,s _ _ e3⟩) (SqL.of g3) (small_line (by omega)) hl3 hD2 (fun i x d H4 acc Ny Nx hx hc s4 hD3 h1 h2 => ?_) (fun H4 ws s4 hD3 pw => ?_)
    · obtain ⟨y,hy,la,dx,lt,lf,rfl,q1,q2,q3⟩:=L2.paired_get p3 hc
      have e:x = .ref la:=Option.some.inj (hx.symm.trans hy)
      subst e
      have ty:=tiny_all R.good (N:=N) hlen d (List.mem_of_getElem? hc)
      have dfl:=ty.form.1
      have hDH:=(s3.trans s4) _ _ hD1
      refine ⟨rfl, ?_⟩
      refine ⟨_,rfl,la,dx,_,rfl,s4 _ _ q1,lfs_no _ _ _ (by decide +kernel) (by decide +kernel) (by decide +kernel) (by decide +kernel),la,d,rfl,⟨la,dx,lt,lf,rfl,s4 _ _ q1,s4 _ _ q2,s4 _ _ q3⟩,mild_laws R hlen d (List.mem_of_getElem? hc),fun H5 q5 s5 n5 g5 => ?_⟩
      refine ⟨_,rfl,_,rfl,q5,_,rfl,SqL.of g5,fun q6 hq6 => ?_⟩
      have t6:=same_new (u := .lst (cutV (d.form.map V.int) none (some (-1)))) hq6
      refine ⟨(by show 1 ≤ sizeLine;decide),fun q7 hq7 => ?_⟩
      have t7:=same_new (u := .lst [.int 0]) hq7
      have t57:=(s5.trans t6).trans t7
      have hD7:=t57 _ _ hDH
      have hD8:=t57 _ _ hD3
      refine ⟨q6,q7,_,_,rfl,rfl,t7 _ _ upd_same,upd_same,(by rw [cut_last,List.length_dropLast,List.length_map,dfl];show _ + 1 ≤ _;exact small_line (by omega)),fun q8 hq8=>h1 rfl _ _ (t57.trans (same_new hq8)) ⟨q8,rfl, ?_, ?_⟩⟩
      · exact fun z=>by rw [z,hD7] at hq8;cases hq8
      · have:q8 ≠ D2:=fun z=>by rw [z,hD8] at hq8;cases hq8
        rw [hid_ne this,upd_same,cut_last]
        unfold Fm.put
        rw [List.map_append,List.map_dropLast]
        rfl
    · rw [filter_tt] at pw
      have s34:=s3.trans s4
      have hwl:=pw.length
      refine ⟨D,D2,_,_,rfl,rfl,s34 _ _ hD1,hD3,small_line (by omega),_,rfl,k _ D (same_upd (s12.trans s34) nD) ⟨zs ++ ws,upd_same, ?_⟩⟩
      unfold Fm.probeForms
      exact paired_append (pz.mono fun f y ⟨r,e1,e2,e3⟩=>⟨r,e1,by rw [upd_ne e2];exact s34 _ _ e3⟩) (paired_map (F:=fun r y=>RV r y _) (fun d:Fm.LawD=>Fm.put d.form 0) (pw.mono fun d y ⟨r,e1,e2,e3⟩=>⟨r,e1,by rw [upd_ne e2];exact e3⟩))
theorem ok_voltage_between (F:Fun K "voltage_between" "voltage_between" s_voltage_between f fd) (T:Txt K mg Z) (m_Solution_top_of:Mth P w K mg base 2 Z.Solution "top_of" ["self", "form"] (spTopOf K Z.Solution)) (m_Columns_between:Mth P w K mg base 2 Z.Columns "between" ["self", "first", "second"] (spBetween Z.Columns)) (c_lowest:Cal P w K mg base 2 "lowest" ["top", "bottom"] spLowest) :
    FnOk P w K mg base CX0 3 f fd ["a", "b", "columns", "solution"] (spVoltB Z.Columns Z.Solution):=by
  refine F.ok sc_voltage_between (fun vs H Q E h => ?_) (fun cdv A outer s H vs Q E hr h => ?_)
  · obtain ⟨c,q,a,b,N,cs,s,rfl,_⟩:=h
    rfl
  · obtain ⟨c,q,a,b,N,cs,so,rfl,hcols,R,ha,hb,hs,z,k⟩:=h
    refine ⟨_,(pss_one (ps_ret (pe_cal c_lowest hr (pa_cons (pe_mth m_Solution_top_of hr (pv 3) (pa_cons (pe_mth m_Columns_between hr (pv 2) (pa_cons (pv 0) (pa_cons (pv 1) pa_nil))) pa_nil)) (pa_cons (pe_fldK K (pv 3) rfl) pa_nil))))), ?_⟩
    have hw:=Fm.one_le R.n8 R.len
    obtain ⟨dx,l0,hc1,hc2⟩:=hcols.ex
    obtain ⟨dxs,t,hs1,hs2⟩:=id hs
    have tm:=tame_of R z (by decide)
    have hb1:=z.b1
    have hoN:N < Fm.one N cs:=by unfold Fm.one;omega
    refine ⟨_,rfl,q,dxs,_,rfl,hs1,sfs_no _ _ (by decide +kernel) (by decide +kernel),_,rfl,c,dx,_,rfl,hc1,cfs_no _ _ _ (by decide +kernel) (by decide +kernel) (by decide +kernel),_,rfl,_,rfl,c,N,cs,a,b,rfl,hcols,by omega,by omega,by omega,fun H1 q1 s1 n1 g1 => ?_⟩
    refine ⟨q,q1,so,_,rfl,hs.same s1,SqL.of g1,(by rw [tm.len,Fm.len_between]),(by rw [Fm.len_between];omega),fun x hx => .one (Fm.abs_between _ _ _ x hx),tm.tb,fun H2 s2 => ?_⟩
    have s12:=s1.trans s2
    exact ⟨_,rfl,q,Z.Solution,dxs,_,_,rfl,s12 _ _ hs1,T.cl_Solution,T.n_Solution_bottom,sfs_bottom so t,_,_,rfl,by omega,tm.bt,k.same s12⟩
theorem ok_open_voltage (F:Fun K "open_voltage" "open_voltage" s_open_voltage f fd) (T:Txt K mg Z) (c_voltage_between:Cal P w K mg base 3 "voltage_between" ["a", "b", "columns", "solution"] (spVoltB Z.Columns Z.Solution)) :
    FnOk P w K mg base CX0 4 f fd ["a", "b", "columns", "found"] (spOpenV Z.Columns Z.Solution Z.Point):=by
  refine F.ok sc_open_voltage (fun vs H Q E h => ?_) (fun cdv A outer s H vs Q E hr h => ?_)
  · obtain ⟨c,q,a,b,N,cs,p,rfl,_⟩:=h
    rfl
  · obtain ⟨c,q,a,b,N,cs,p,rfl,hcols,R,ha,hb,hpt,z,k⟩:=h
    refine ⟨_,(pss_one (ps_ret (pe_cal c_voltage_between hr (pa_cons (pv 0) (pa_cons (pv 1) (pa_cons (pv 2) (pa_cons (pe_fldK K (pv 3) rfl) pa_nil))))))), ?_⟩
    obtain ⟨dxp,tp,sp,gp,gt,gs⟩:=id hpt
    exact ⟨_,rfl,_,rfl,_,rfl,_,rfl,q,Z.Point,dxp,_,_,rfl,gp,T.cl_Point,T.n_Point_solution,tfs_solution tp sp,c,sp,a,b,N,cs,p.2,rfl,hcols,R,ha,hb,gs,z,k⟩
theorem ok_resistance (F:Fun K "resistance" "resistance" s_resistance f fd) (T:Txt K mg Z) (c_voltage_between:Cal P w K mg base 3 "voltage_between" ["a", "b", "columns", "solution"] (spVoltB Z.Columns Z.Solution)) (c_solution_of:Cal P w K mg base 5 "solution_of" ["forms", "columns"] (spSolution Z.Columns Z.Solution)) (c_probe_forms:Cal P w K mg base 6 "probe_forms" ["a", "b", "parts", "states", "columns"] (spProbe K Z.Part Z.Columns)) :
    FnOk P w K mg base CX0 7 f fd ["a", "b", "parts", "columns", "found"] (spResist K Z.Part Z.Columns Z.Solution Z.Point):=by
  refine F.ok sc_resistance (fun vs H Q E h => ?_) (fun cdv A outer s H vs Q E hr h => ?_)
  · obtain ⟨l,c,q,a,b,N,cs,p,rfl,_⟩:=h
    rfl
  · obtain ⟨l,c,q,a,b,N,cs,p,rfl,hps,hcols,R,ha,hb,hpt,hop,k⟩:=h
    refine ⟨_,(pss_one (ps_ret (pe_cal c_voltage_between hr (pa_cons (pv 0) (pa_cons (pv 1) (pa_cons (pv 3) (pa_cons (pe_cal c_solution_of hr (pa_cons (pe_cal c_probe_forms hr (pa_cons (pv 0) (pa_cons (pv 1) (pa_cons (pv 2) (pa_cons (pe_fldK K (pv 4) rfl) (pa_cons (pv 3) pa_nil)))))) (pa_cons (pv 3) pa_nil))) pa_nil))))))), ?_⟩
    have hpl:=Fm.point_len hop
    obtain ⟨s2,hs2,z2⟩:=probe_some R hop a b
    obtain ⟨dxp,tp,sp,gp,gt,gs⟩:=id hpt
    unfold Fm.resist at k
    rw [hs2] at k
    dsimp only at k
    refine ⟨_,rfl,_,rfl,_,rfl,_,rfl,_,rfl,_,rfl,_,rfl,q,Z.Point,dxp,_,_,rfl,gp,T.cl_Point,T.n_Point_states,tfs_states tp sp,_,rfl,l,tp,c,a,b,N,cs,p.1,rfl,hps,hcols,R,gt,hpl,fun H1 q1 s1 g1 => ?_⟩
    refine ⟨_,rfl,q1,c,N,cs,_,rfl,g1,hcols.same s1,fine_probe R hpl a b,fun H2 y t2 hy => ?_⟩
    rw [hs2] at hy
    obtain ⟨q2,ey,hs⟩:=hy
    subst ey
    have s12:=s1.trans t2
    exact ⟨c,q2,a,b,N,cs,s2,rfl,hcols.same s12,R,ha,hb,hs,z2,k.same s12⟩
theorem ok_refusal_of (F:Fun K "refusal_of" "refusal_of" s_refusal_of f fd) (T:Txt K mg Z) (c_is_row:Cal P w K mg base 4 "is_row" ["net"] (spRow K fun ns => .bl (Jm.isRow ns))) (c_first_fault:Cal P w K mg base 5 "first_fault" ["parts", "last_node"] (spFirst K Z.Part)) (c_parts_of:Cal P w K mg base 3 "parts_of" ["net"] (spParts K Z.Part)) :
    FnOk P w K mg base CX0 6 f fd ["net"] (spNet K Jm.refusal):=by
  refine F.ok sc_refusal_of (fun vs H Q E h => ?_) (fun cdv A outer s H vs Q E hr h => ?_)
  · obtain ⟨a,ns,rfl,_⟩:=h
    rfl
  · obtain ⟨a,ns,rfl,ha,hmost,k⟩:=h
    refine ⟨_,(pss_cons (ps_if (pt_not (pt_truthK K (pe_cal c_is_row hr (pa_cons (pv 0) pa_nil)) (fun _=>rfl))) (pss_one (ps_ret (pe_lst (pa_cons (pe_gi T.g_NO_ROW) pa_nil)))) pss_nil)
      (pss_cons (ps_set (i:=1) sc_refusal_of.nd rfl (Or.inl rfl) (pe_cal c_first_fault hr (pa_cons (pe_cal c_parts_of hr (pa_cons (pv 0) pa_nil)) (pa_cons (pe_ix (ix_listK K) (pv 0) pe_int (fun _ _=>rfl)) pa_nil))))
      (pss_cons (ps_if (pt_truthK K (pv 1) (fun _=>rfl)) (pss_one (ps_ret (pe_op op_cat (pe_lst (pa_cons (pe_gi T.g_WRONG_NETWORK) pa_nil)) (pv 1)))) pss_nil)
      (pss_one (ps_ret (pe_lst pa_nil)))))), ?_⟩
    unfold Jm.refusal at k
    refine ⟨_,rfl,a,ns,rfl,ha,hmost,fun H1 s1=>⟨_,rfl,ite_v (fun h => ?_) (fun h => ?_)⟩⟩
    · have h':Jm.isRow ns = false:=by cases z:Jm.isRow ns with | true=>rw [z] at h;cases h | false=>rfl
      rw [if_pos h'] at k
      exact ⟨(by show 1 ≤ sizeLine;decide),fun q hq=>k _ q (s1.trans (same_new hq)) upd_same⟩
    have h':Jm.isRow ns = true:=by cases z:Jm.isRow ns with | false=>rw [z] at h;cases h | true=>rfl
    rw [if_neg (show ¬ Jm.isRow ns = false by rw [h'];simp)] at k
    obtain ⟨⟨n,hn⟩,hN,hg⟩:=Jm.good_of h'
    have hn1:=parts_n hn hmost
    obtain ⟨pl1,pl2⟩:=Jm.parts_len hn
    have hx:(ns.map V.int)[0]? = some (V.int (ns.headD 0)):=by
      cases ns with
      | nil=>simp at hn
      | cons x r=>rfl
    refine ⟨_,rfl,a,ns,n,rfl,s1.seq ha,hn,hn1,fun H2 l s2 hps => ?_⟩
    have s12:=s1.trans s2
    refine ⟨_,rfl,a,_,_,_,rfl,rfl,s12.seq ha,at_of (j:=0) rfl hx,l,_,Jm.parts ns,rfl,hps,hg,(by rw [pl1];exact hn1),fun H3 p s3 hp => ?_⟩
    have s13:=s12.trans s3
    refine ⟨_,rfl,_, .inl ⟨_,SqL.of hp,rfl⟩, ?_⟩
    by_cases he:Jm.firstFault (Jm.parts ns) (ns.headD 0) = []
    · rw [he]
      rw [if_pos he] at k
      exact iteF ⟨Nat.zero_le _,fun q hq=>k _ q (s13.trans (same_new hq)) upd_same⟩
    · rw [if_neg he] at k
      have hne:(!((Jm.firstFault (Jm.parts ns) (ns.headD 0)).map V.int).isEmpty) = true:=by
        cases z:Jm.firstFault (Jm.parts ns) (ns.headD 0) with
        | nil=>exact absurd z he
        | cons u r=>rfl
      rw [hne]
      refine iteT ⟨(by show 1 ≤ sizeLine;decide),fun q hq => ?_⟩
      have s4:=same_new (u := .lst [.int (-2)]) hq
      refine ⟨_,rfl,q,p,_,_,rfl,rfl,upd_same,s4 _ _ hp, ?_,fun q2 hq2=>k _ q2 ((s13.trans s4).trans (same_new hq2)) upd_same⟩
      rw [List.length_map]
      have:=first_len (Jm.parts ns) (ns.headD 0)
      exact small_line (show 1 + _ ≤ 1000 by omega)
theorem ok_opened (F:Fun K "opened" "opened" s_opened f fd) (T:Txt K mg Z) (c_refusal_of:Cal P w K mg base 6 "refusal_of" ["net"] (spNet K Jm.refusal)) (c_parts_of:Cal P w K mg base 3 "parts_of" ["net"] (spParts K Z.Part)) (c_operating_point:Cal P w K mg base 7 "operating_point" ["parts", "columns"] (spOp K Z.Part Z.Columns Z.Solution Z.Point))
    (m_Columns:Mak P w K mg base 1 "Columns" Z.Columns ["self", "parts", "last_node"] (spCols K Z.Part Z.Columns)) (c_open_voltage:Cal P w K mg base 4 "open_voltage" ["a", "b", "columns", "found"] (spOpenV Z.Columns Z.Solution Z.Point)) (c_resistance:Cal P w K mg base 7 "resistance" ["a", "b", "parts", "columns", "found"] (spResist K Z.Part Z.Columns Z.Solution Z.Point)):FnOk P w K mg base CX0 8 f fd ["a", "b", "net"] (sp_opened K):=by
  refine F.ok sc_opened (fun vs H Q E h => ?_) (fun cdv A outer s H vs Q E hr h => ?_)
  · obtain ⟨a,what,j,ns,rfl,_⟩:=h
    rfl
  · obtain ⟨a,what,j,ns,rfl,ha,hmost,k⟩:=h
    refine ⟨_,(pss_cons (ps_set (i:=3) sc_opened.nd rfl (Or.inl rfl) (pe_cal c_refusal_of hr (pa_cons (pv 2) pa_nil)))
      (pss_cons (ps_if (pt_truthK K (pv 3) (fun _=>rfl)) (pss_one (ps_ret (pv 3))) pss_nil)
      (pss_cons (ps_if (PW.pt (pw_or (pt_cmp (pc_gt (pv 0) (pe_ix (ix_listK K) (pv 2) pe_int (fun _ _=>rfl)))) (pw_or1 (pt_cmp (pc_gt (pv 1) (pe_ix (ix_listK K) (pv 2) pe_int (fun _ _=>rfl))))))) (pss_one (ps_ret (pe_lst (pa_cons (pe_gi T.g_NO_SUCH) pa_nil)))) pss_nil)
      (pss_cons (ps_set (i:=4) sc_opened.nd rfl (Or.inl rfl) (pe_cal c_parts_of hr (pa_cons (pv 2) pa_nil)))
      (pss_cons (ps_set (i:=5) sc_opened.nd rfl (Or.inl rfl) (pe_mak m_Columns hr (pa_cons (pv 4) (pa_cons (pe_ix (ix_listK K) (pv 2) pe_int (fun _ _=>rfl)) pa_nil))))
      (pss_cons (ps_set (i:=6) sc_opened.nd rfl (Or.inl rfl) (pe_cal c_operating_point hr (pa_cons (pv 4) (pa_cons (pv 5) pa_nil))))
      (pss_cons (ps_if (pt_cmp (pc_isN (pv 6))) (pss_one (ps_ret (pe_lst (pa_cons (pe_gi T.g_NO_POINT) pa_nil)))) pss_nil)
      (pss_one (ps_ret (pe_op op_cat (pe_op op_cat (pe_lst (pa_cons (pe_gi T.g_ANSWERED) pa_nil)) (pe_cal c_open_voltage hr (pa_cons (pv 0) (pa_cons (pv 1) (pa_cons (pv 5) (pa_cons (pv 6) pa_nil)))))) (pe_cal c_resistance hr (pa_cons (pv 0) (pa_cons (pv 1) (pa_cons (pv 4) (pa_cons (pv 5) (pa_cons (pv 6) pa_nil)))))))))))))))), ?_⟩
    unfold Fm.opened at k
    refine ⟨_,rfl,a,ns,rfl,ha,hmost,fun H1 p s1 hp => ?_⟩
    refine ⟨_,rfl,_, .inl ⟨_,SqL.of hp,rfl⟩, ?_⟩
    by_cases he:Jm.refusal ns = []
    · have R:=Fm.right_of he
      obtain ⟨n,hn,hx,hN⟩:=row_of he
      rw [he]
      rw [if_pos he] at k
      refine iteF ?_
      have hn1:=parts_n hn hmost
      obtain ⟨pl1,pl2⟩:=Jm.parts_len hn
      refine ⟨_,rfl,_,rfl,a,_,_,_,rfl,rfl,s1.seq ha,at_of (j:=0) rfl hx,_,_,rfl,rfl,_,rfl,ite_b (fun h1 => ?_) (fun h1 => ?_)⟩
      · rw [if_pos (.inl (by omega))] at k
        exact iteT ⟨(by show 1 ≤ sizeLine;decide),fun q hq=>k _ q (s1.trans (same_new hq)) upd_same⟩
      refine ⟨_,rfl,_,rfl,a,_,_,_,rfl,rfl,s1.seq ha,at_of (j:=0) rfl hx,_,_,rfl,rfl,_,rfl,ite_b (fun h2 => ?_) (fun h2 => ?_)⟩
      · rw [if_pos (.inr (by omega))] at k
        exact ⟨(by show 1 ≤ sizeLine;decide),fun q hq=>k _ q (s1.trans (same_new hq)) upd_same⟩
      rw [if_neg (by omega)] at k
      refine ⟨_,rfl,a,ns,n,rfl,s1.seq ha,hn,hn1,fun H3 l s3 hps => ?_⟩
      have s13:=s1.trans s3
      generalize hcs:Jm.parts ns = cs at *
      have hl14:=R.len
      refine ⟨_,rfl,_,rfl,a,_,_,_,rfl,rfl,s13.seq ha,at_of (j:=0) rfl hx,fun x dx nx ndx nex=>⟨x,dx,l,(ns.headD 0).toNat,cs,H3,by rw [hN],upd_same,made_same nx ndx,nx,hps,R.good,by omega,fun H4 lc s4 g4 g4'=>⟨rfl, ?_⟩⟩⟩
      have hcols:ColsAt Z.Columns H4 x (ns.headD 0).toNat cs:=⟨dx,lc,g4,g4'⟩
      have hps4:=hps.same s4
      refine ⟨_,rfl,_,rfl,l,x,(ns.headD 0).toNat,cs,rfl,hps4,hcols,R,fun H5 y s5 hy5 => ?_⟩
      have s15:=(s13.trans s4).trans s5
      cases hop:Fm.opPoint (ns.headD 0).toNat cs with
      | none =>
        rw [hop] at hy5 k
        have ey:y = .non:=hy5
        subst ey
        exact ⟨_,rfl,_,rfl,iteT ⟨(by show 1 ≤ sizeLine;decide),fun q hq=>k _ q (s15.trans (same_new hq)) upd_same⟩⟩
      | some pt =>
        rw [hop] at hy5 k
        obtain ⟨qp,ey,dxp,tp,sp,gp,gt,gs⟩:=hy5
        subst ey
        dsimp only at k
        have z:=point_size R hop
        have hpt:PtAt Z.Point Z.Solution H5 qp pt:=⟨dxp,tp,sp,gp,gt,gs⟩
        refine ⟨_,rfl,_,rfl,iteF ⟨(by show 1 ≤ sizeLine;decide),fun l1 hl1 => ?_⟩⟩
        have t1:=same_new (u := .lst [.int 0]) hl1
        refine ⟨_,rfl,_,rfl,_,rfl,_,rfl,x,qp,what,j,(ns.headD 0).toNat,cs,pt,rfl,(hcols.same s5).same t1,R,by omega,by omega,PtAt.same t1 hpt,z,fun H6 q6 s6 n6 g6 => ?_⟩
        refine ⟨l1,q6,_,_,rfl,rfl,s6 _ _ upd_same,g6,(by rw [List.length_map,Fm.openV_len];show 1 + 2 ≤ sizeLine;decide),fun q7 hq7 => ?_⟩
        have t7:=same_new (u := .lst ([.int 0] ++ (Fm.openV (ns.headD 0).toNat cs what j pt.2).map V.int)) hq7
        have t17:=(t1.trans s6).trans t7
        refine ⟨_,rfl,_,rfl,_,rfl,_,rfl,_,rfl,l,x,qp,what,j,(ns.headD 0).toNat,cs,pt,rfl,(hps4.same s5).same t17,(hcols.same s5).same t17,R,by omega,by omega,PtAt.same t17 hpt,hop,fun H8 q8 s8 n8 g8 => ?_⟩
        have hrl:(Fm.resist (ns.headD 0).toNat cs what j pt.1).length ≤ 2:=by
          unfold Fm.resist
          split
          · exact Nat.zero_le _
          · exact Nat.le_refl _
        refine ⟨q7,q8,_,_,rfl,rfl,s8 _ _ upd_same,g8, ?_,fun p2 hp2=>k _ p2 (((s15.trans t17).trans s8).trans (same_new hp2)) ?_⟩
        · rw [List.length_append,List.length_map,List.length_map,Fm.openV_len]
          show 1 + 2 + _ ≤ sizeLine
          exact small_line (by omega)
        · rw [upd_same,List.map_cons,List.map_append,List.append_assoc]
          rfl
    · rw [if_neg he] at k
      have hne:(!((Jm.refusal ns).map V.int).isEmpty) = true:=by
        cases z:Jm.refusal ns with
        | nil=>exact absurd z he
        | cons u r=>rfl
      rw [hne]
      exact iteT ⟨_,rfl,k _ p s1 hp⟩
end
open PySem.W (mg_of mg_none_of fnOf nsIn findIn codeIn keepIn isFn makesIn plainGet hasDictIn plainOver)
theorem all_mk {P:Program} {w:World} {K:PySem.W.Frag} {h:Heap} {mg:Str → Option Value} {fa:Addr} (X:K.In h) (G:h.Ns mainGlobals mg) (hfa:mg "opened" = some (.ref fa)) {C_Columns:Addr} {C_Part:Addr} {C_Law:Addr} {C_Reduced:Addr} {C_Solution:Addr} {C_Point:Addr} {i'a:Tok} {i'b:Tok} {i'c:Tok} {i'd:Tok} {i'e:Tok} {i'f:Tok} {i'g:Tok} {i'h:Tok} {i'i:Tok} {i'j:Tok} {i'k:Tok} {i'l:Tok} {i'm:Tok} {i'n:Tok} {i'o:Tok} {i'p:Tok} {i'q:Tok} {i'r:Tok} {i's:Tok} {i't:Tok} {i'u:Tok} {i'v:Tok} {i'w:Tok} {i'x:Tok} {i'y:Tok} {i'z:Tok} {i'A:Tok} {i'B:Tok} {i'C:Tok} {i'D:Tok} {i'E:Tok} {i'F:Addr} {i'G:Option Addr} {i'H:Array (Option Value)} {i'I:Nat} {i'J i'K i'L i'M i'N i'O i'P i'Q i'R i'S i'T i'U i'V i'W:Tok} {i'X:Addr} {i'Y:Option Addr} {i'Z:Array (Option Value)} {i'ba:Nat} {i'bb i'bc i'bd i'be i'bf i'bg i'bh i'bi i'bj i'bk i'bl i'bm i'bn i'bo:Tok} {i'bp:Addr} {i'bq i'br:Option Addr} {i'bs:Array (Option Value)} {i'bt i'bu i'bv i'bw i'bx i'by:Value} {i'bz:Addr} {i'bA i'bB:Option Addr} {i'bC:Array (Option Value)} {i'bD i'bE i'bF i'bG i'bH i'bI:Value} {i'bJ:Addr} {i'bK i'bL:Option Addr} {i'bM:Array (Option Value)} {i'bN i'bO i'bP i'bQ i'bR i'bS:Value} {i'bT:Addr} {i'bU i'bV:Option Addr} {i'bW:Array (Option Value)} {i'bX i'bY i'bZ i'ca i'cb i'cc:Value} {i'cd:Addr} {i'ce i'cf:Option Addr} {i'cg:Array (Option Value)} {i'ch i'ci i'cj i'ck i'cl i'cm:Value} {i'cn:Addr} {i'co i'cp:Option Addr} {i'cq:Array (Option Value)} {i'cr i'cs i'ct i'cu i'cv i'cw:Value} {i'cx:Addr} {i'cy i'cz:Option Addr} {i'cA:Array (Option Value)} {i'cB i'cC i'cD i'cE i'cF i'cG:Value} {i'cH:Addr} {i'cI i'cJ:Option Addr} {i'cK:Array (Option Value)} {i'cL i'cM i'cN i'cO i'cP i'cQ:Value} {i'cR:Addr} {i'cS i'cT:Option Addr} {i'cU:Array (Option Value)} {i'cV i'cW i'cX i'cY i'cZ i'da:Value} {i'db:Addr} {i'dc i'dd:Option Addr} {i'de:Array (Option Value)} {i'df i'dg i'dh i'di i'dj i'dk:Value} {i'dl:Addr} {i'dm i'dn:Option Addr} {i'do:Array (Option Value)} {i'dp i'dq i'dr i'ds i'dt i'du:Value} {i'dv:Addr} {i'dw i'dx:Option Addr} {i'dy:Array (Option Value)} {i'dz i'dA i'dB i'dC i'dD i'dE:Value} {i'dF:Addr} {i'dG i'dH:Option Addr} {i'dI:Array (Option Value)} {i'dJ i'dK i'dL i'dM i'dN i'dO:Value} {i'dP:Addr} {i'dQ i'dR:Option Addr} {i'dS:Array (Option Value)} {i'dT i'dU i'dV i'dW i'dX i'dY:Value} {i'dZ:Addr} {i'ea i'eb:Option Addr} {i'ec:Array (Option Value)} {i'ed i'ee i'ef i'eg i'eh i'ei:Value} {i'ej:Addr} {i'ek i'el:Option Addr} {i'em:Array (Option Value)} {i'en i'eo i'ep i'eq i'er i'es:Value} {i'et:Addr} {i'eu i'ev:Option Addr} {i'ew:Array (Option Value)} {i'ex i'ey i'ez i'eA i'eB i'eC:Value} {i'eD:Addr} {i'eE i'eF:Option Addr} {i'eG:Array (Option Value)} {i'eH i'eI i'eJ i'eK i'eL i'eM:Value} {i'eN:Addr} {i'eO i'eP:Option Addr} {i'eQ:Array (Option Value)} {i'eR i'eS i'eT i'eU i'eV i'eW:Value} {i'eX:Addr} {i'eY i'eZ:Option Addr} {i'fa:Array (Option Value)} {i'fb i'fc i'fd i'fe i'ff i'fg:Value} {i'fh:Addr} {i'fi i'fj:Option Addr} {i'fk:Array (Option Value)} {i'fl i'fm i'fn i'fo i'fp i'fq:Value} {i'fr:Addr} {i'fs i'ft:Option Addr} {i'fu:Array (Option Value)} {i'fv i'fw i'fx i'fy i'fz i'fA:Value} {i'fB:Addr} {i'fC i'fD:Option Addr} {i'fE:Array (Option Value)} {i'fF i'fG i'fH i'fI i'fJ i'fK:Value} {i'fL:Addr} {i'fM i'fN:Option Addr} {i'fO:Array (Option Value)} {i'fP i'fQ i'fR i'fS i'fT i'fU:Value} {i'fV:Addr} {i'fW i'fX:Option Addr} {i'fY:Array (Option Value)} {i'fZ i'ga i'gb i'gc i'gd i'ge:Value} {i'gf:Addr} {i'gg i'gh:Option Addr} {i'gi:Array (Option Value)} {i'gj i'gk i'gl i'gm i'gn i'go:Value} {i'gp:Addr} {i'gq i'gr:Option Addr} {i'gs:Array (Option Value)} {i'gt i'gu i'gv i'gw i'gx i'gy:Value} {i'gz:Addr} {i'gA i'gB:Option Addr} {i'gC:Array (Option Value)} {i'gD i'gE i'gF i'gG i'gH i'gI:Value} {i'gJ:Addr} {i'gK i'gL:Option Addr} {i'gM:Array (Option Value)} {i'gN i'gO i'gP i'gQ i'gR i'gS:Value} {i'gT:Addr} {i'gU i'gV:Option Addr} {i'gW:Array (Option Value)} {i'gX i'gY i'gZ i'ha i'hb i'hc:Value} {i'hd:Addr} {i'he i'hf:Option Addr} {i'hg:Array (Option Value)} {i'hh i'hi i'hj i'hk i'hl i'hm:Value} {i'hn:Addr} {i'ho i'hp:Option Addr} {i'hq:Array (Option Value)} {i'hr i'hs i'ht i'hu i'hv i'hw:Value} {i'hx:Addr} {i'hy i'hz:Option Addr} {i'hA:Array (Option Value)} {i'hB i'hC i'hD i'hE i'hF i'hG:Value} {i'hH:Addr} {i'hI i'hJ:Option Addr} {i'hK:Array (Option Value)} {i'hL i'hM i'hN i'hO i'hP i'hQ:Value} {i'hR:Addr} {i'hS i'hT:Option Addr} {i'hU:Array (Option Value)} {i'hV i'hW i'hX i'hY i'hZ i'ia:Value} {i'ib:Addr} {i'ic i'id:Option Addr} {i'ie:Array (Option Value)} {i'if i'ig i'ih i'ii i'ij i'ik:Value} {i'il:Addr} {i'im i'in:Option Addr} {i'io:Array (Option Value)} {i'ip i'iq i'ir i'is i'it i'iu:Value} {i'iv:Addr} {i'iw i'ix:Option Addr} {i'iy:Array (Option Value)} {i'iz i'iA i'iB i'iC i'iD i'iE:Value} {i'iF:Addr} {i'iG i'iH:Option Addr} {i'iI:Array (Option Value)} {i'iJ i'iK i'iL i'iM i'iN i'iO:Value} {i'iP:Addr} {i'iQ i'iR:Option Addr} {i'iS:Array (Option Value)} {i'iT i'iU i'iV i'iW i'iX i'iY:Value} {i'iZ:Addr} {i'ja i'jb:Option Addr} {i'jc:Array (Option Value)} {i'jd i'je i'jf i'jg i'jh i'ji:Value} {i'jj:Addr} {i'jk i'jl:Option Addr} {i'jm:Array (Option Value)} {i'jn i'jo i'jp i'jq i'jr i'js:Value} {i'jt:Addr} {i'ju i'jv:Option Addr} {i'jw:Array (Option Value)} {i'jx i'jy i'jz i'jA i'jB i'jC:Value} {i'jD:Addr} {i'jE i'jF:Option Addr} {i'jG:Array (Option Value)} {i'jH i'jI i'jJ i'jK i'jL i'jM:Value} {i'jN:Addr} {i'jO i'jP:Option Addr} {i'jQ:Array (Option Value)} {i'jR i'jS i'jT i'jU i'jV i'jW:Value} {i'jX:Addr} {i'jY i'jZ:Option Addr} {i'ka:Array (Option Value)} {i'kb i'kc i'kd i'ke i'kf i'kg:Value} {i'kh:Addr} {i'ki i'kj:Option Addr} {i'kk:Array (Option Value)} {i'kl i'km i'kn i'ko i'kp i'kq:Value} {i'kr:Addr} {i'ks i'kt:Option Addr} {i'ku:Array (Option Value)} {i'kv i'kw i'kx i'ky i'kz i'kA:Value} {i'kB:Addr} {i'kC i'kD:Option Addr} {i'kE:Array (Option Value)} {i'kF i'kG i'kH i'kI i'kJ i'kK:Value} {i'kL:Addr} {i'kM i'kN:Option Addr} {i'kO:Array (Option Value)} {i'kP i'kQ i'kR i'kS i'kT i'kU:Value} {i'kV:Addr} {i'kW i'kX:Option Addr} {i'kY:Array (Option Value)} {i'kZ i'la i'lb i'lc i'ld i'le:Value} {i'lf:Addr} {i'lg i'lh:Option Addr} {i'li:Array (Option Value)} {i'lj i'lk i'll i'lm i'ln i'lo:Value} {i'lp:Addr} {i'lq i'lr:Option Addr} {i'ls:Array (Option Value)} {i'lt i'lu i'lv i'lw i'lx i'ly:Value} {i'lz:Addr} {i'lA i'lB:Option Addr} {i'lC:Array (Option Value)} {i'lD i'lE i'lF i'lG i'lH i'lI:Value} (h'a:nsIn K mainGlobals "Columns" = some (some (.ref C_Columns))) (h'b:plainGet K C_Columns Str.empty = true) (h'c:hasDictIn K C_Columns = true) (h'd:plainOver K C_Columns = true) (h'e:findIn K (.ref C_Columns) "__setattr__" = some (some (.builtin "object.__setattr__"))) (h'f:makesIn K C_Columns = true) (h'g:keepIn K (.ref C_Columns) = true) (h'h:findIn K (.ref C_Columns) "nodes" = some none) (h'i:findIn K (.ref C_Columns) "currents" = some none) (h'j:findIn K (.ref C_Columns) "one" = some none) (h'k:nsIn K mainGlobals "Part" = some (some (.ref C_Part))) (h'l:plainGet K C_Part Str.empty = true) (h'm:hasDictIn K C_Part = true) (h'n:plainOver K C_Part = true) (h'o:findIn K (.ref C_Part) "__setattr__" = some (some (.builtin "object.__setattr__"))) (h'p:makesIn K C_Part = true) (h'q:keepIn K (.ref C_Part) = true) (h'r:findIn K (.ref C_Part) "kind" = some none) (h's:findIn K (.ref C_Part) "places" = some none) (h't:findIn K (.ref C_Part) "top" = some none) (h'u:findIn K (.ref C_Part) "bottom" = some none) (h'v:nsIn K mainGlobals "Law" = some (some (.ref C_Law))) (h'w:plainGet K C_Law Str.empty = true) (h'x:hasDictIn K C_Law = true) (h'y:plainOver K C_Law = true) (h'z:findIn K (.ref C_Law) "__setattr__" = some (some (.builtin "object.__setattr__"))) (h'A:makesIn K C_Law = true) (h'B:keepIn K (.ref C_Law) = true) (h'C:findIn K (.ref C_Law) "told" = some none) (h'D:findIn K (.ref C_Law) "factor" = some none) (h'E:findIn K (.ref C_Law) "top" = some none) (h'F:findIn K (.ref C_Law) "bottom" = some none) (h'G:nsIn K mainGlobals "Reduced" = some (some (.ref C_Reduced))) (h'H:plainGet K C_Reduced Str.empty = true) (h'I:hasDictIn K C_Reduced = true) (h'J:plainOver K C_Reduced = true) (h'K:findIn K (.ref C_Reduced) "__setattr__" = some (some (.builtin "object.__setattr__"))) (h'L:makesIn K C_Reduced = true) (h'M:keepIn K (.ref C_Reduced) = true) (h'N:findIn K (.ref C_Reduced) "rows" = some none) (h'O:findIn K (.ref C_Reduced) "rank" = some none) (h'P:findIn K (.ref C_Reduced) "divisor" = some none) (h'Q:nsIn K mainGlobals "Solution" = some (some (.ref C_Solution))) (h'R:plainGet K C_Solution Str.empty = true) (h'S:hasDictIn K C_Solution = true) (h'T:plainOver K C_Solution = true) (h'U:findIn K (.ref C_Solution) "__setattr__" = some (some (.builtin "object.__setattr__"))) (h'V:makesIn K C_Solution = true) (h'W:keepIn K (.ref C_Solution) = true) (h'X:findIn K (.ref C_Solution) "tops" = some none) (h'Y:findIn K (.ref C_Solution) "bottom" = some none) (h'Z:nsIn K mainGlobals "Point" = some (some (.ref C_Point))) (h'ba:plainGet K C_Point Str.empty = true) (h'bb:hasDictIn K C_Point = true) (h'bc:plainOver K C_Point = true) (h'bd:findIn K (.ref C_Point) "__setattr__" = some (some (.builtin "object.__setattr__"))) (h'be:makesIn K C_Point = true) (h'bf:keepIn K (.ref C_Point) = true) (h'bg:findIn K (.ref C_Point) "states" = some none) (h'bh:findIn K (.ref C_Point) "solution" = some none) (h'bi:nsIn K mainGlobals "TRANSFORMER" = some (some (.int 10 i'a))) (h'bj:nsIn K mainGlobals "AMPLIFIER" = some (some (.int 11 i'b))) (h'bk:nsIn K mainGlobals "SWITCH" = some (some (.int 12 i'c))) (h'bl:nsIn K mainGlobals "DIODE" = some (some (.int 13 i'd))) (h'bm:nsIn K mainGlobals "RESISTOR" = some (some (.int 0 i'e))) (h'bn:nsIn K mainGlobals "CAPACITOR" = some (some (.int 1 i'f))) (h'bo:nsIn K mainGlobals "INDUCTOR" = some (some (.int 2 i'g))) (h'bp:nsIn K mainGlobals "MUTUAL" = some (some (.int 3 i'h))) (h'bq:nsIn K mainGlobals "VOLTAGE_BY_CURRENT" = some (some (.int 8 i'i))) (h'br:nsIn K mainGlobals "CURRENT_BY_CURRENT" = some (some (.int 9 i'j))) (h'bs:nsIn K mainGlobals "NO_FAULT" = some (some (.int 0 i'k))) (h'bt:nsIn K mainGlobals "NODE_FAULT" = some (some (.int 1 i'l))) (h'bu:nsIn K mainGlobals "NUMBER_FAULT" = some (some (.int 2 i'm))) (h'bv:nsIn K mainGlobals "REFERENCE_FAULT" = some (some (.int 3 i'n))) (h'bw:nsIn K mainGlobals "PART_LENGTH" = some (some (.int 7 i'o))) (h'bx:nsIn K mainGlobals "LAST_KIND" = some (some (.int 13 i'p))) (h'by:nsIn K mainGlobals "MOST_TOP" = some (some (.int 1000000 i'q))) (h'bz:nsIn K mainGlobals "MOST_BOTTOM" = some (some (.int 1000000 i'r))) (h'bA:nsIn K mainGlobals "MOST_PLACE" = some (some (.int 63 i's))) (h'bB:nsIn K mainGlobals "MOST_PARTS" = some (some (.int 14 i't))) (h'bC:nsIn K mainGlobals "MOST_DIODES" = some (some (.int 5 i'u))) (h'bD:nsIn K mainGlobals "MOST_NODES" = some (some (.int 8 i'v))) (h'bE:nsIn K mainGlobals "NO_ROW" = some (some (.int (-1) i'w))) (h'bF:nsIn K mainGlobals "WRONG_NETWORK" = some (some (.int (-2) i'x))) (h'bG:nsIn K mainGlobals "VOLTAGE_SOURCE" = some (some (.int 4 i'y))) (h'bH:nsIn K mainGlobals "VOLTAGE_BY_VOLTAGE" = some (some (.int 6 i'z))) (h'bI:nsIn K mainGlobals "CURRENT_BY_VOLTAGE" = some (some (.int 7 i'A))) (h'bJ:nsIn K mainGlobals "CURRENT_SOURCE" = some (some (.int 5 i'B))) (h'bK:nsIn K mainGlobals "NO_SUCH" = some (some (.int (-3) i'C))) (h'bL:nsIn K mainGlobals "NO_POINT" = some (some (.int (-4) i'D))) (h'bM:nsIn K mainGlobals "ANSWERED" = some (some (.int 0 i'E))) (h'bN:nsIn K mainGlobals "NODE_COUNTS" = some (some (.ref i'F))) (h'bO:K.lookup i'F = some ⟨.type "tuple",i'G, .seq #[.int 2 i'J, .int 2 i'K, .int 2 i'L, .int 0 i'M, .int 2 i'N, .int 2 i'O, .int 4 i'P, .int 4 i'Q, .int 2 i'R, .int 2 i'S, .int 4 i'T, .int 4 i'U, .int 2 i'V, .int 2 i'W] i'I,i'H⟩) (h'bP:nsIn K mainGlobals "CURRENT_COUNTS" = some (some (.ref i'X))) (h'bQ:K.lookup i'X = some ⟨.type "tuple",i'Y, .seq #[.int 1 i'bb, .int 1 i'bc, .int 1 i'bd, .int 0 i'be, .int 1 i'bf, .int 1 i'bg, .int 1 i'bh, .int 1 i'bi, .int 1 i'bj, .int 1 i'bk, .int 2 i'bl, .int 1 i'bm, .int 1 i'bn, .int 1 i'bo] i'ba,i'Z⟩) (h'bR:nsIn K mainGlobals "sorted" = some none) (h'bS:nsIn K mainGlobals "any" = some none) (h'bT:nsIn K mainGlobals "len" = some none) (h'bU:nsIn K mainGlobals "enumerate" = some none) (h'bV:nsIn K mainGlobals "range" = some none) (h'bW:nsIn K mainGlobals "all" = some none) (h'bX:nsIn K mainGlobals "list" = some none) (h'bY:nsIn K mainGlobals "zip" = some none) (h'bZ:nsIn K mainGlobals "abs" = some none) (h'ca:nsIn K mainGlobals "sum" = some none) (h'cb:nsIn K mainGlobals "may_have_number" = some (some (.ref i'bp))) (h'cc:K.lookup i'bp = some ⟨i'bt,i'bq, .func (fnOf "may_have_number" "may_have_number" (defArgs s_may_have_number) (defBody s_may_have_number) (defScope s_may_have_number) .none i'bu i'bv i'bw i'br i'bx i'by),i'bs⟩) (h'cd:codeIn K i'bx "may_have_number" = true) (h'ce:keepIn K (.ref i'bp) = true) (h'cf:nsIn K mainGlobals "references_of" = some (some (.ref i'bz))) (h'cg:K.lookup i'bz = some ⟨i'bD,i'bA, .func (fnOf "references_of" "references_of" (defArgs s_references_of) (defBody s_references_of) (defScope s_references_of) .none i'bE i'bF i'bG i'bB i'bH i'bI),i'bC⟩) (h'ch:codeIn K i'bH "references_of" = true) (h'ci:keepIn K (.ref i'bz) = true) (h'cj:nsIn K mainGlobals "is_new_pair" = some (some (.ref i'bJ))) (h'ck:K.lookup i'bJ = some ⟨i'bN,i'bK, .func (fnOf "is_new_pair" "is_new_pair" (defArgs s_is_new_pair) (defBody s_is_new_pair) (defScope s_is_new_pair) .none i'bO i'bP i'bQ i'bL i'bR i'bS),i'bM⟩) (h'cl:codeIn K i'bR "is_new_pair" = true) (h'cm:keepIn K (.ref i'bJ) = true) (h'cn:nsIn K mainGlobals "may_refer" = some (some (.ref i'bT))) (h'co:K.lookup i'bT = some ⟨i'bX,i'bU, .func (fnOf "may_refer" "may_refer" (defArgs s_may_refer) (defBody s_may_refer) (defScope s_may_refer) .none i'bY i'bZ i'ca i'bV i'cb i'cc),i'bW⟩) (h'cp:codeIn K i'cb "may_refer" = true) (h'cq:keepIn K (.ref i'bT) = true) (h'cr:nsIn K mainGlobals "is_coupled_too_much" = some (some (.ref i'cd))) (h'cs:K.lookup i'cd = some ⟨i'ch,i'ce, .func (fnOf "is_coupled_too_much" "is_coupled_too_much" (defArgs s_is_coupled_too_much) (defBody s_is_coupled_too_much) (defScope s_is_coupled_too_much) .none i'ci i'cj i'ck i'cf i'cl i'cm),i'cg⟩) (h'ct:codeIn K i'cl "is_coupled_too_much" = true) (h'cu:keepIn K (.ref i'cd) = true) (h'cv:nsIn K mainGlobals "nodes_of" = some (some (.ref i'cn))) (h'cw:K.lookup i'cn = some ⟨i'cr,i'co, .func (fnOf "nodes_of" "nodes_of" (defArgs s_nodes_of) (defBody s_nodes_of) (defScope s_nodes_of) .none i'cs i'ct i'cu i'cp i'cv i'cw),i'cq⟩) (h'cx:codeIn K i'cv "nodes_of" = true) (h'cy:keepIn K (.ref i'cn) = true) (h'cz:nsIn K mainGlobals "part_fault" = some (some (.ref i'cx))) (h'cA:K.lookup i'cx = some ⟨i'cB,i'cy, .func (fnOf "part_fault" "part_fault" (defArgs s_part_fault) (defBody s_part_fault) (defScope s_part_fault) .none i'cC i'cD i'cE i'cz i'cF i'cG),i'cA⟩) (h'cB:codeIn K i'cF "part_fault" = true) (h'cC:keepIn K (.ref i'cx) = true) (h'cD:nsIn K mainGlobals "first_fault" = some (some (.ref i'cH))) (h'cE:K.lookup i'cH = some ⟨i'cL,i'cI, .func (fnOf "first_fault" "first_fault" (defArgs s_first_fault) (defBody s_first_fault) (defScope s_first_fault) .none i'cM i'cN i'cO i'cJ i'cP i'cQ),i'cK⟩) (h'cF:codeIn K i'cP "first_fault" = true) (h'cG:keepIn K (.ref i'cH) = true) (h'cH:findIn K (.ref C_Part) "__init__" = some (some (.ref i'cR))) (h'cI:isFn K (.ref i'cR) = true) (h'cJ:K.lookup i'cR = some ⟨i'cV,i'cS, .func (fnOf "__init__" "Part.__init__" (defArgs s_Part_init) (defBody s_Part_init) (defScope s_Part_init) .none i'cW i'cX i'cY i'cT i'cZ i'da),i'cU⟩) (h'cK:codeIn K i'cZ "Part.__init__" = true) (h'cL:keepIn K (.ref i'cR) = true) (h'cM:nsIn K mainGlobals "parts_of" = some (some (.ref i'db))) (h'cN:K.lookup i'db = some ⟨i'df,i'dc, .func (fnOf "parts_of" "parts_of" (defArgs s_parts_of) (defBody s_parts_of) (defScope s_parts_of) .none i'dg i'dh i'di i'dd i'dj i'dk),i'de⟩) (h'cO:codeIn K i'dj "parts_of" = true) (h'cP:keepIn K (.ref i'db) = true) (h'cQ:nsIn K mainGlobals "diode_count" = some (some (.ref i'dl))) (h'cR:K.lookup i'dl = some ⟨i'dp,i'dm, .func (fnOf "diode_count" "diode_count" (defArgs s_diode_count) (defBody s_diode_count) (defScope s_diode_count) .none i'dq i'dr i'ds i'dn i'dt i'du),i'do⟩) (h'cS:codeIn K i'dt "diode_count" = true) (h'cT:keepIn K (.ref i'dl) = true) (h'cU:nsIn K mainGlobals "is_part" = some (some (.ref i'dv))) (h'cV:K.lookup i'dv = some ⟨i'dz,i'dw, .func (fnOf "is_part" "is_part" (defArgs s_is_part) (defBody s_is_part) (defScope s_is_part) .none i'dA i'dB i'dC i'dx i'dD i'dE),i'dy⟩) (h'cW:codeIn K i'dD "is_part" = true) (h'cX:keepIn K (.ref i'dv) = true) (h'cY:nsIn K mainGlobals "is_row" = some (some (.ref i'dF))) (h'cZ:K.lookup i'dF = some ⟨i'dJ,i'dG, .func (fnOf "is_row" "is_row" (defArgs s_is_row) (defBody s_is_row) (defScope s_is_row) .none i'dK i'dL i'dM i'dH i'dN i'dO),i'dI⟩) (h'da:codeIn K i'dN "is_row" = true) (h'db:keepIn K (.ref i'dF) = true) (h'dc:nsIn K mainGlobals "refusal_of" = some (some (.ref i'dP))) (h'dd:K.lookup i'dP = some ⟨i'dT,i'dQ, .func (fnOf "refusal_of" "refusal_of" (defArgs s_refusal_of) (defBody s_refusal_of) (defScope s_refusal_of) .none i'dU i'dV i'dW i'dR i'dX i'dY),i'dS⟩) (h'de:codeIn K i'dX "refusal_of" = true) (h'df:keepIn K (.ref i'dP) = true) (h'dg:findIn K (.ref C_Columns) "__init__" = some (some (.ref i'dZ))) (h'dh:isFn K (.ref i'dZ) = true) (h'di:K.lookup i'dZ = some ⟨i'ed,i'ea, .func (fnOf "__init__" "Columns.__init__" (defArgs s_Columns_init) (defBody s_Columns_init) (defScope s_Columns_init) .none i'ee i'ef i'eg i'eb i'eh i'ei),i'ec⟩) (h'dj:codeIn K i'eh "Columns.__init__" = true) (h'dk:keepIn K (.ref i'dZ) = true) (h'dl:nsIn K mainGlobals "state_rows" = some (some (.ref i'ej))) (h'dm:K.lookup i'ej = some ⟨i'en,i'ek, .func (fnOf "state_rows" "state_rows" (defArgs s_state_rows) (defBody s_state_rows) (defScope s_state_rows) .none i'eo i'ep i'eq i'el i'er i'es),i'em⟩) (h'dn:codeIn K i'er "state_rows" = true) (h'do:keepIn K (.ref i'ej) = true) (h'dp:findIn K (.ref C_Reduced) "__init__" = some (some (.ref i'et))) (h'dq:isFn K (.ref i'et) = true) (h'dr:K.lookup i'et = some ⟨i'ex,i'eu, .func (fnOf "__init__" "Reduced.__init__" (defArgs s_Reduced_init) (defBody s_Reduced_init) (defScope s_Reduced_init) .none i'ey i'ez i'eA i'ev i'eB i'eC),i'ew⟩) (h'ds:codeIn K i'eB "Reduced.__init__" = true) (h'dt:keepIn K (.ref i'et) = true) (h'du:nsIn K mainGlobals "pivot_place" = some (some (.ref i'eD))) (h'dv:K.lookup i'eD = some ⟨i'eH,i'eE, .func (fnOf "pivot_place" "pivot_place" (defArgs s_pivot_place) (defBody s_pivot_place) (defScope s_pivot_place) .none i'eI i'eJ i'eK i'eF i'eL i'eM),i'eG⟩) (h'dw:codeIn K i'eL "pivot_place" = true) (h'dx:keepIn K (.ref i'eD) = true) (h'dy:nsIn K mainGlobals "exchanged" = some (some (.ref i'eN))) (h'dz:K.lookup i'eN = some ⟨i'eR,i'eO, .func (fnOf "exchanged" "exchanged" (defArgs s_exchanged) (defBody s_exchanged) (defScope s_exchanged) .none i'eS i'eT i'eU i'eP i'eV i'eW),i'eQ⟩) (h'dA:codeIn K i'eV "exchanged" = true) (h'dB:keepIn K (.ref i'eN) = true) (h'dC:nsIn K mainGlobals "cleared" = some (some (.ref i'eX))) (h'dD:K.lookup i'eX = some ⟨i'fb,i'eY, .func (fnOf "cleared" "cleared" (defArgs s_cleared) (defBody s_cleared) (defScope s_cleared) .none i'fc i'fd i'fe i'eZ i'ff i'fg),i'fa⟩) (h'dE:codeIn K i'ff "cleared" = true) (h'dF:keepIn K (.ref i'eX) = true) (h'dG:nsIn K mainGlobals "reduced" = some (some (.ref i'fh))) (h'dH:K.lookup i'fh = some ⟨i'fl,i'fi, .func (fnOf "reduced" "reduced" (defArgs s_reduced) (defBody s_reduced) (defScope s_reduced) .none i'fm i'fn i'fo i'fj i'fp i'fq),i'fk⟩) (h'dI:codeIn K i'fp "reduced" = true) (h'dJ:keepIn K (.ref i'fh) = true) (h'dK:nsIn K mainGlobals "reduced_laws" = some (some (.ref i'fr))) (h'dL:K.lookup i'fr = some ⟨i'fv,i'fs, .func (fnOf "reduced_laws" "reduced_laws" (defArgs s_reduced_laws) (defBody s_reduced_laws) (defScope s_reduced_laws) .none i'fw i'fx i'fy i'ft i'fz i'fA),i'fu⟩) (h'dM:codeIn K i'fz "reduced_laws" = true) (h'dN:keepIn K (.ref i'fr) = true) (h'dO:findIn K (.ref C_Solution) "__init__" = some (some (.ref i'fB))) (h'dP:isFn K (.ref i'fB) = true) (h'dQ:K.lookup i'fB = some ⟨i'fF,i'fC, .func (fnOf "__init__" "Solution.__init__" (defArgs s_Solution_init) (defBody s_Solution_init) (defScope s_Solution_init) .none i'fG i'fH i'fI i'fD i'fJ i'fK),i'fE⟩) (h'dR:codeIn K i'fJ "Solution.__init__" = true) (h'dS:keepIn K (.ref i'fB) = true) (h'dT:nsIn K mainGlobals "solution_of" = some (some (.ref i'fL))) (h'dU:K.lookup i'fL = some ⟨i'fP,i'fM, .func (fnOf "solution_of" "solution_of" (defArgs s_solution_of) (defBody s_solution_of) (defScope s_solution_of) .none i'fQ i'fR i'fS i'fN i'fT i'fU),i'fO⟩) (h'dV:codeIn K i'fT "solution_of" = true) (h'dW:keepIn K (.ref i'fL) = true) (h'dX:findIn K (.ref C_Columns) "nothing" = some (some (.ref i'fV))) (h'dY:isFn K (.ref i'fV) = true) (h'dZ:K.lookup i'fV = some ⟨i'fZ,i'fW, .func (fnOf "nothing" "Columns.nothing" (defArgs s_Columns_nothing) (defBody s_Columns_nothing) (defScope s_Columns_nothing) .none i'ga i'gb i'gc i'fX i'gd i'ge),i'fY⟩) (h'ea:codeIn K i'gd "Columns.nothing" = true) (h'eb:keepIn K (.ref i'fV) = true) (h'ec:nsIn K mainGlobals "branches_of" = some (some (.ref i'gf))) (h'ed:K.lookup i'gf = some ⟨i'gj,i'gg, .func (fnOf "branches_of" "branches_of" (defArgs s_branches_of) (defBody s_branches_of) (defScope s_branches_of) .none i'gk i'gl i'gm i'gh i'gn i'go),i'gi⟩) (h'ee:codeIn K i'gn "branches_of" = true) (h'ef:keepIn K (.ref i'gf) = true) (h'eg:nsIn K mainGlobals "node_forms" = some (some (.ref i'gp))) (h'eh:K.lookup i'gp = some ⟨i'gt,i'gq, .func (fnOf "node_forms" "node_forms" (defArgs s_node_forms) (defBody s_node_forms) (defScope s_node_forms) .none i'gu i'gv i'gw i'gr i'gx i'gy),i'gs⟩) (h'ei:codeIn K i'gx "node_forms" = true) (h'ej:keepIn K (.ref i'gp) = true) (h'ek:nsIn K mainGlobals "less" = some (some (.ref i'gz))) (h'el:K.lookup i'gz = some ⟨i'gD,i'gA, .func (fnOf "less" "less" (defArgs s_less) (defBody s_less) (defScope s_less) .none i'gE i'gF i'gG i'gB i'gH i'gI),i'gC⟩) (h'em:codeIn K i'gH "less" = true) (h'en:keepIn K (.ref i'gz) = true) (h'eo:nsIn K mainGlobals "times" = some (some (.ref i'gJ))) (h'ep:K.lookup i'gJ = some ⟨i'gN,i'gK, .func (fnOf "times" "times" (defArgs s_times) (defBody s_times) (defScope s_times) .none i'gO i'gP i'gQ i'gL i'gR i'gS),i'gM⟩) (h'eq:codeIn K i'gR "times" = true) (h'er:keepIn K (.ref i'gJ) = true) (h'es:findIn K (.ref C_Law) "form" = some (some (.ref i'gT))) (h'et:isFn K (.ref i'gT) = true) (h'eu:K.lookup i'gT = some ⟨i'gX,i'gU, .func (fnOf "form" "Law.form" (defArgs s_Law_form) (defBody s_Law_form) (defScope s_Law_form) .none i'gY i'gZ i'ha i'gV i'hb i'hc),i'gW⟩) (h'ev:codeIn K i'hb "Law.form" = true) (h'ew:keepIn K (.ref i'gT) = true) (h'ex:findIn K (.ref C_Columns) "single" = some (some (.ref i'hd))) (h'ey:isFn K (.ref i'hd) = true) (h'ez:K.lookup i'hd = some ⟨i'hh,i'he, .func (fnOf "single" "Columns.single" (defArgs s_Columns_single) (defBody s_Columns_single) (defScope s_Columns_single) .none i'hi i'hj i'hk i'hf i'hl i'hm),i'hg⟩) (h'eA:codeIn K i'hl "Columns.single" = true) (h'eB:keepIn K (.ref i'hd) = true) (h'eC:findIn K (.ref C_Law) "__init__" = some (some (.ref i'hn))) (h'eD:isFn K (.ref i'hn) = true) (h'eE:K.lookup i'hn = some ⟨i'hr,i'ho, .func (fnOf "__init__" "Law.__init__" (defArgs s_Law_init) (defBody s_Law_init) (defScope s_Law_init) .none i'hs i'ht i'hu i'hp i'hv i'hw),i'hq⟩) (h'eF:codeIn K i'hv "Law.__init__" = true) (h'eG:keepIn K (.ref i'hn) = true) (h'eH:findIn K (.ref C_Columns) "between" = some (some (.ref i'hx))) (h'eI:isFn K (.ref i'hx) = true) (h'eJ:K.lookup i'hx = some ⟨i'hB,i'hy, .func (fnOf "between" "Columns.between" (defArgs s_Columns_between) (defBody s_Columns_between) (defScope s_Columns_between) .none i'hC i'hD i'hE i'hz i'hF i'hG),i'hA⟩) (h'eK:codeIn K i'hF "Columns.between" = true) (h'eL:keepIn K (.ref i'hx) = true) (h'eM:nsIn K mainGlobals "sets_voltage" = some (some (.ref i'hH))) (h'eN:K.lookup i'hH = some ⟨i'hL,i'hI, .func (fnOf "sets_voltage" "sets_voltage" (defArgs s_sets_voltage) (defBody s_sets_voltage) (defScope s_sets_voltage) .none i'hM i'hN i'hO i'hJ i'hP i'hQ),i'hK⟩) (h'eO:codeIn K i'hP "sets_voltage" = true) (h'eP:keepIn K (.ref i'hH) = true) (h'eQ:nsIn K mainGlobals "told_form" = some (some (.ref i'hR))) (h'eR:K.lookup i'hR = some ⟨i'hV,i'hS, .func (fnOf "told_form" "told_form" (defArgs s_told_form) (defBody s_told_form) (defScope s_told_form) .none i'hW i'hX i'hY i'hT i'hZ i'ia),i'hU⟩) (h'eS:codeIn K i'hZ "told_form" = true) (h'eT:keepIn K (.ref i'hR) = true) (h'eU:nsIn K mainGlobals "factor_form" = some (some (.ref i'ib))) (h'eV:K.lookup i'ib = some ⟨i'if,i'ic, .func (fnOf "factor_form" "factor_form" (defArgs s_factor_form) (defBody s_factor_form) (defScope s_factor_form) .none i'ig i'ih i'ii i'id i'ij i'ik),i'ie⟩) (h'eW:codeIn K i'ij "factor_form" = true) (h'eX:keepIn K (.ref i'ib) = true) (h'eY:nsIn K mainGlobals "part_laws" = some (some (.ref i'il))) (h'eZ:K.lookup i'il = some ⟨i'ip,i'im, .func (fnOf "part_laws" "part_laws" (defArgs s_part_laws) (defBody s_part_laws) (defScope s_part_laws) .none i'iq i'ir i'is i'in i'it i'iu),i'io⟩) (h'fa:codeIn K i'it "part_laws" = true) (h'fb:keepIn K (.ref i'il) = true) (h'fc:nsIn K mainGlobals "all_part_laws" = some (some (.ref i'iv))) (h'fd:K.lookup i'iv = some ⟨i'iz,i'iw, .func (fnOf "all_part_laws" "all_part_laws" (defArgs s_all_part_laws) (defBody s_all_part_laws) (defScope s_all_part_laws) .none i'iA i'iB i'iC i'ix i'iD i'iE),i'iy⟩) (h'fe:codeIn K i'iD "all_part_laws" = true) (h'ff:keepIn K (.ref i'iv) = true) (h'fg:nsIn K mainGlobals "law_forms" = some (some (.ref i'iF))) (h'fh:K.lookup i'iF = some ⟨i'iJ,i'iG, .func (fnOf "law_forms" "law_forms" (defArgs s_law_forms) (defBody s_law_forms) (defScope s_law_forms) .none i'iK i'iL i'iM i'iH i'iN i'iO),i'iI⟩) (h'fi:codeIn K i'iN "law_forms" = true) (h'fj:keepIn K (.ref i'iF) = true) (h'fk:nsIn K mainGlobals "product" = some (some (.ref i'iP))) (h'fl:K.lookup i'iP = some ⟨i'iT,i'iQ, .func (fnOf "product" "product" (defArgs s_product) (defBody s_product) (defScope s_product) .none i'iU i'iV i'iW i'iR i'iX i'iY),i'iS⟩) (h'fm:codeIn K i'iX "product" = true) (h'fn:keepIn K (.ref i'iP) = true) (h'fo:findIn K (.ref C_Solution) "top_of" = some (some (.ref i'iZ))) (h'fp:isFn K (.ref i'iZ) = true) (h'fq:K.lookup i'iZ = some ⟨i'jd,i'ja, .func (fnOf "top_of" "Solution.top_of" (defArgs s_Solution_top_of) (defBody s_Solution_top_of) (defScope s_Solution_top_of) .none i'je i'jf i'jg i'jb i'jh i'ji),i'jc⟩) (h'fr:codeIn K i'jh "Solution.top_of" = true) (h'fs:keepIn K (.ref i'iZ) = true) (h'ft:nsIn K mainGlobals "condition_holds" = some (some (.ref i'jj))) (h'fu:K.lookup i'jj = some ⟨i'jn,i'jk, .func (fnOf "condition_holds" "condition_holds" (defArgs s_condition_holds) (defBody s_condition_holds) (defScope s_condition_holds) .none i'jo i'jp i'jq i'jl i'jr i'js),i'jm⟩) (h'fv:codeIn K i'jr "condition_holds" = true) (h'fw:keepIn K (.ref i'jj) = true) (h'fx:nsIn K mainGlobals "diode_places" = some (some (.ref i'jt))) (h'fy:K.lookup i'jt = some ⟨i'jx,i'ju, .func (fnOf "diode_places" "diode_places" (defArgs s_diode_places) (defBody s_diode_places) (defScope s_diode_places) .none i'jy i'jz i'jA i'jv i'jB i'jC),i'jw⟩) (h'fz:codeIn K i'jB "diode_places" = true) (h'fA:keepIn K (.ref i'jt) = true) (h'fB:nsIn K mainGlobals "conditions_hold" = some (some (.ref i'jD))) (h'fC:K.lookup i'jD = some ⟨i'jH,i'jE, .func (fnOf "conditions_hold" "conditions_hold" (defArgs s_conditions_hold) (defBody s_conditions_hold) (defScope s_conditions_hold) .none i'jI i'jJ i'jK i'jF i'jL i'jM),i'jG⟩) (h'fD:codeIn K i'jL "conditions_hold" = true) (h'fE:keepIn K (.ref i'jD) = true) (h'fF:findIn K (.ref C_Point) "__init__" = some (some (.ref i'jN))) (h'fG:isFn K (.ref i'jN) = true) (h'fH:K.lookup i'jN = some ⟨i'jR,i'jO, .func (fnOf "__init__" "Point.__init__" (defArgs s_Point_init) (defBody s_Point_init) (defScope s_Point_init) .none i'jS i'jT i'jU i'jP i'jV i'jW),i'jQ⟩) (h'fI:codeIn K i'jV "Point.__init__" = true) (h'fJ:keepIn K (.ref i'jN) = true) (h'fK:nsIn K mainGlobals "operating_point" = some (some (.ref i'jX))) (h'fL:K.lookup i'jX = some ⟨i'kb,i'jY, .func (fnOf "operating_point" "operating_point" (defArgs s_operating_point) (defBody s_operating_point) (defScope s_operating_point) .none i'kc i'kd i'ke i'jZ i'kf i'kg),i'ka⟩) (h'fM:codeIn K i'kf "operating_point" = true) (h'fN:keepIn K (.ref i'jX) = true) (h'fO:nsIn K mainGlobals "common_divisor" = some (some (.ref i'kh))) (h'fP:K.lookup i'kh = some ⟨i'kl,i'ki, .func (fnOf "common_divisor" "common_divisor" (defArgs s_common_divisor) (defBody s_common_divisor) (defScope s_common_divisor) .none i'km i'kn i'ko i'kj i'kp i'kq),i'kk⟩) (h'fQ:codeIn K i'kp "common_divisor" = true) (h'fR:keepIn K (.ref i'kh) = true) (h'fS:nsIn K mainGlobals "lowest" = some (some (.ref i'kr))) (h'fT:K.lookup i'kr = some ⟨i'kv,i'ks, .func (fnOf "lowest" "lowest" (defArgs s_lowest) (defBody s_lowest) (defScope s_lowest) .none i'kw i'kx i'ky i'kt i'kz i'kA),i'ku⟩) (h'fU:codeIn K i'kz "lowest" = true) (h'fV:keepIn K (.ref i'kr) = true) (h'fW:nsIn K mainGlobals "voltage_between" = some (some (.ref i'kB))) (h'fX:K.lookup i'kB = some ⟨i'kF,i'kC, .func (fnOf "voltage_between" "voltage_between" (defArgs s_voltage_between) (defBody s_voltage_between) (defScope s_voltage_between) .none i'kG i'kH i'kI i'kD i'kJ i'kK),i'kE⟩) (h'fY:codeIn K i'kJ "voltage_between" = true) (h'fZ:keepIn K (.ref i'kB) = true) (h'ga:nsIn K mainGlobals "current_put" = some (some (.ref i'kL))) (h'gb:K.lookup i'kL = some ⟨i'kP,i'kM, .func (fnOf "current_put" "current_put" (defArgs s_current_put) (defBody s_current_put) (defScope s_current_put) .none i'kQ i'kR i'kS i'kN i'kT i'kU),i'kO⟩) (h'gc:codeIn K i'kT "current_put" = true) (h'gd:keepIn K (.ref i'kL) = true) (h'ge:nsIn K mainGlobals "probe_forms" = some (some (.ref i'kV))) (h'gf:K.lookup i'kV = some ⟨i'kZ,i'kW, .func (fnOf "probe_forms" "probe_forms" (defArgs s_probe_forms) (defBody s_probe_forms) (defScope s_probe_forms) .none i'la i'lb i'lc i'kX i'ld i'le),i'kY⟩) (h'gg:codeIn K i'ld "probe_forms" = true) (h'gh:keepIn K (.ref i'kV) = true) (h'gi:nsIn K mainGlobals "resistance" = some (some (.ref i'lf))) (h'gj:K.lookup i'lf = some ⟨i'lj,i'lg, .func (fnOf "resistance" "resistance" (defArgs s_resistance) (defBody s_resistance) (defScope s_resistance) .none i'lk i'll i'lm i'lh i'ln i'lo),i'li⟩) (h'gk:codeIn K i'ln "resistance" = true) (h'gl:keepIn K (.ref i'lf) = true) (h'gm:nsIn K mainGlobals "open_voltage" = some (some (.ref i'lp))) (h'gn:K.lookup i'lp = some ⟨i'lt,i'lq, .func (fnOf "open_voltage" "open_voltage" (defArgs s_open_voltage) (defBody s_open_voltage) (defScope s_open_voltage) .none i'lu i'lv i'lw i'lr i'lx i'ly),i'ls⟩) (h'go:codeIn K i'lx "open_voltage" = true) (h'gp:keepIn K (.ref i'lp) = true) (h'gq:nsIn K mainGlobals "opened" = some (some (.ref i'lz))) (h'gr:K.lookup i'lz = some ⟨i'lD,i'lA, .func (fnOf "opened" "opened" (defArgs s_opened) (defBody s_opened) (defScope s_opened) .none i'lE i'lF i'lG i'lB i'lH i'lI),i'lC⟩) (h'gs:codeIn K i'lH "opened" = true) (h'gt:keepIn K (.ref i'lz) = true)
    : ∃ fd:FuncData,(∀ (s:Shared) (us:List Value),us.length = (["a", "b", "net"] : List Str).length → BindsTo s fd ⟨us,[]⟩ ((["a", "b", "net"] : List Str).zip us)) ∧ ∀ base:Heap,K.In base → base.Ns mainGlobals mg → FnOk P w K mg base CX0 8 fa fd ["a", "b", "net"] (sp_opened K):=by
  have e:=hfa.symm.trans (mg_of X G h'gq)
  cases e
  have T:Txt K mg ⟨C_Columns,C_Part,C_Law,C_Reduced,C_Solution,C_Point,i'F,i'X⟩:=⟨⟨h'b,h'c,h'd,h'e⟩,h'h,h'i,h'j,mg_of X G h'a,⟨h'l,h'm,h'n,h'o⟩,h'r,h's,h't,h'u,mg_of X G h'k,⟨h'w,h'x,h'y,h'z⟩,h'C,h'D,h'E,h'F,mg_of X G h'v,⟨h'H,h'I,h'J,h'K⟩,h'N,h'O,h'P,mg_of X G h'G,⟨h'R,h'S,h'T,h'U⟩,h'X,h'Y,mg_of X G h'Q,⟨h'ba,h'bb,h'bc,h'bd⟩,h'bg,h'bh,mg_of X G h'Z,⟨_,mg_of X G h'bi⟩,⟨_,mg_of X G h'bj⟩,⟨_,mg_of X G h'bk⟩,⟨_,mg_of X G h'bl⟩,⟨_,mg_of X G h'bm⟩,⟨_,mg_of X G h'bn⟩,⟨_,mg_of X G h'bo⟩,⟨_,mg_of X G h'bp⟩,⟨_,mg_of X G h'bq⟩,⟨_,mg_of X G h'br⟩,⟨_,mg_of X G h'bs⟩,⟨_,mg_of X G h'bt⟩,⟨_,mg_of X G h'bu⟩,⟨_,mg_of X G h'bv⟩,⟨_,mg_of X G h'bw⟩,⟨_,mg_of X G h'bx⟩,⟨_,mg_of X G h'by⟩,⟨_,mg_of X G h'bz⟩,⟨_,mg_of X G h'bA⟩,⟨_,mg_of X G h'bB⟩,⟨_,mg_of X G h'bC⟩,⟨_,mg_of X G h'bD⟩,⟨_,mg_of X G h'bE⟩,⟨_,mg_of X G h'bF⟩,⟨_,mg_of X G h'bG⟩,⟨_,mg_of X G h'bH⟩,⟨_,mg_of X G h'bI⟩,⟨_,mg_of X G h'bJ⟩,⟨_,mg_of X G h'bK⟩,⟨_,mg_of X G h'bL⟩,⟨_,mg_of X G h'bM⟩,mg_of X G h'bN,fun H => .inr ⟨_,_,_,h'bO,rfl,rfl,(by show 14 ≤ sizeLine;decide), .cons ⟨_,rfl⟩ (.cons ⟨_,rfl⟩ (.cons ⟨_,rfl⟩ (.cons ⟨_,rfl⟩ (.cons ⟨_,rfl⟩ (.cons ⟨_,rfl⟩ (.cons ⟨_,rfl⟩ (.cons ⟨_,rfl⟩ (.cons ⟨_,rfl⟩ (.cons ⟨_,rfl⟩ (.cons ⟨_,rfl⟩ (.cons ⟨_,rfl⟩ (.cons ⟨_,rfl⟩ (.cons ⟨_,rfl⟩ (.nil))))))))))))))⟩,mg_of X G h'bP,fun H => .inr ⟨_,_,_,h'bQ,rfl,rfl,(by show 14 ≤ sizeLine;decide), .cons ⟨_,rfl⟩ (.cons ⟨_,rfl⟩ (.cons ⟨_,rfl⟩ (.cons ⟨_,rfl⟩ (.cons ⟨_,rfl⟩ (.cons ⟨_,rfl⟩ (.cons ⟨_,rfl⟩ (.cons ⟨_,rfl⟩ (.cons ⟨_,rfl⟩ (.cons ⟨_,rfl⟩ (.cons ⟨_,rfl⟩ (.cons ⟨_,rfl⟩ (.cons ⟨_,rfl⟩ (.cons ⟨_,rfl⟩ (.nil))))))))))))))⟩,mg_none_of X G h'bR,mg_none_of X G h'bS,mg_none_of X G h'bT,mg_none_of X G h'bU,mg_none_of X G h'bV,mg_none_of X G h'bW,mg_none_of X G h'bX,mg_none_of X G h'bY,mg_none_of X G h'bZ,mg_none_of X G h'ca⟩
  have l'a:=fun_mk (st:=s_may_have_number) h'cc h'cd h'ce
  have l'bc:=l'a.binds (ps:=["part"]) fun _ _ _ _ _ _ us hl=>match us,hl with | [_],_=>rfl
  have l'b:=fun_mk (st:=s_references_of) h'cg h'ch h'ci
  have l'bd:=l'b.binds (ps:=["part"]) fun _ _ _ _ _ _ us hl=>match us,hl with | [_],_=>rfl
  have l'c:=fun_mk (st:=s_is_new_pair) h'ck h'cl h'cm
  have l'be:=l'c.binds (ps:=["pair", "before"]) fun _ _ _ _ _ _ us hl=>match us,hl with | [_,_],_=>rfl
  have l'd:=fun_mk (st:=s_may_refer) h'co h'cp h'cq
  have l'bf:=l'd.binds (ps:=["part", "before"]) fun _ _ _ _ _ _ us hl=>match us,hl with | [_,_],_=>rfl
  have l'e:=fun_mk (st:=s_is_coupled_too_much) h'cs h'ct h'cu
  have l'bg:=l'e.binds (ps:=["part", "before"]) fun _ _ _ _ _ _ us hl=>match us,hl with | [_,_],_=>rfl
  have l'f:=fun_mk (st:=s_nodes_of) h'cw h'cx h'cy
  have l'bh:=l'f.binds (ps:=["part"]) fun _ _ _ _ _ _ us hl=>match us,hl with | [_],_=>rfl
  have l'g:=fun_mk (st:=s_part_fault) h'cA h'cB h'cC
  have l'bi:=l'g.binds (ps:=["part", "before", "last_node"]) fun _ _ _ _ _ _ us hl=>match us,hl with | [_,_,_],_=>rfl
  have l'h:=fun_mk (st:=s_first_fault) h'cE h'cF h'cG
  have l'bj:=l'h.binds (ps:=["parts", "last_node"]) fun _ _ _ _ _ _ us hl=>match us,hl with | [_,_],_=>rfl
  have l'i:=fun_mk (st:=s_Part_init) h'cJ h'cK h'cL
  have l'bk:=l'i.binds (ps:=["self", "numbers"]) fun _ _ _ _ _ _ us hl=>match us,hl with | [_,_],_=>rfl
  have l'j:=fun_mk (st:=s_parts_of) h'cN h'cO h'cP
  have l'bl:=l'j.binds (ps:=["net"]) fun _ _ _ _ _ _ us hl=>match us,hl with | [_],_=>rfl
  have l'k:=fun_mk (st:=s_diode_count) h'cR h'cS h'cT
  have l'bm:=l'k.binds (ps:=["parts"]) fun _ _ _ _ _ _ us hl=>match us,hl with | [_],_=>rfl
  have l'l:=fun_mk (st:=s_is_part) h'cV h'cW h'cX
  have l'bn:=l'l.binds (ps:=["part"]) fun _ _ _ _ _ _ us hl=>match us,hl with | [_],_=>rfl
  have l'm:=fun_mk (st:=s_is_row) h'cZ h'da h'db
  have l'bo:=l'm.binds (ps:=["net"]) fun _ _ _ _ _ _ us hl=>match us,hl with | [_],_=>rfl
  have l'n:=fun_mk (st:=s_refusal_of) h'dd h'de h'df
  have l'bp:=l'n.binds (ps:=["net"]) fun _ _ _ _ _ _ us hl=>match us,hl with | [_],_=>rfl
  have l'o:=fun_mk (st:=s_Columns_init) h'di h'dj h'dk
  have l'bq:=l'o.binds (ps:=["self", "parts", "last_node"]) fun _ _ _ _ _ _ us hl=>match us,hl with | [_,_,_],_=>rfl
  have l'p:=fun_mk (st:=s_state_rows) h'dm h'dn h'do
  have l'br:=l'p.binds (ps:=["parts"]) fun _ _ _ _ _ _ us hl=>match us,hl with | [_],_=>rfl
  have l'q:=fun_mk (st:=s_Reduced_init) h'dr h'ds h'dt
  have l'bs:=l'q.binds (ps:=["self", "rows", "rank", "divisor"]) fun _ _ _ _ _ _ us hl=>match us,hl with | [_,_,_,_],_=>rfl
  have l'r:=fun_mk (st:=s_pivot_place) h'dv h'dw h'dx
  have l'bt:=l'r.binds (ps:=["rows", "start", "column"]) fun _ _ _ _ _ _ us hl=>match us,hl with | [_,_,_],_=>rfl
  have l's:=fun_mk (st:=s_exchanged) h'dz h'dA h'dB
  have l'bu:=l's.binds (ps:=["rows", "first", "second"]) fun _ _ _ _ _ _ us hl=>match us,hl with | [_,_,_],_=>rfl
  have l't:=fun_mk (st:=s_cleared) h'dD h'dE h'dF
  have l'bv:=l't.binds (ps:=["row", "pivot_row", "column", "divisor"]) fun _ _ _ _ _ _ us hl=>match us,hl with | [_,_,_,_],_=>rfl
  have l'u:=fun_mk (st:=s_reduced) h'dH h'dI h'dJ
  have l'bw:=l'u.binds (ps:=["rows", "unknowns"]) fun _ _ _ _ _ _ us hl=>match us,hl with | [_,_],_=>rfl
  have l'v:=fun_mk (st:=s_reduced_laws) h'dL h'dM h'dN
  have l'bx:=l'v.binds (ps:=["forms", "columns"]) fun _ _ _ _ _ _ us hl=>match us,hl with | [_,_],_=>rfl
  have l'w:=fun_mk (st:=s_Solution_init) h'dQ h'dR h'dS
  have l'by:=l'w.binds (ps:=["self", "tops", "bottom"]) fun _ _ _ _ _ _ us hl=>match us,hl with | [_,_,_],_=>rfl
  have l'x:=fun_mk (st:=s_solution_of) h'dU h'dV h'dW
  have l'bz:=l'x.binds (ps:=["forms", "columns"]) fun _ _ _ _ _ _ us hl=>match us,hl with | [_,_],_=>rfl
  have l'y:=fun_mk (st:=s_Columns_nothing) h'dZ h'ea h'eb
  have l'bA:=l'y.binds (ps:=["self"]) fun _ _ _ _ _ _ us hl=>match us,hl with | [_],_=>rfl
  have l'z:=fun_mk (st:=s_branches_of) h'ed h'ee h'ef
  have l'bB:=l'z.binds (ps:=["parts", "columns"]) fun _ _ _ _ _ _ us hl=>match us,hl with | [_,_],_=>rfl
  have l'A:=fun_mk (st:=s_node_forms) h'eh h'ei h'ej
  have l'bC:=l'A.binds (ps:=["parts", "columns"]) fun _ _ _ _ _ _ us hl=>match us,hl with | [_,_],_=>rfl
  have l'B:=fun_mk (st:=s_less) h'el h'em h'en
  have l'bD:=l'B.binds (ps:=["first", "second"]) fun _ _ _ _ _ _ us hl=>match us,hl with | [_,_],_=>rfl
  have l'C:=fun_mk (st:=s_times) h'ep h'eq h'er
  have l'bE:=l'C.binds (ps:=["factor", "form"]) fun _ _ _ _ _ _ us hl=>match us,hl with | [_,_],_=>rfl
  have l'D:=fun_mk (st:=s_Law_form) h'eu h'ev h'ew
  have l'bF:=l'D.binds (ps:=["self"]) fun _ _ _ _ _ _ us hl=>match us,hl with | [_],_=>rfl
  have l'E:=fun_mk (st:=s_Columns_single) h'ez h'eA h'eB
  have l'bG:=l'E.binds (ps:=["self", "column"]) fun _ _ _ _ _ _ us hl=>match us,hl with | [_,_],_=>rfl
  have l'F:=fun_mk (st:=s_Law_init) h'eE h'eF h'eG
  have l'bH:=l'F.binds (ps:=["self", "told", "factor", "part"]) fun _ _ _ _ _ _ us hl=>match us,hl with | [_,_,_,_],_=>rfl
  have l'G:=fun_mk (st:=s_Columns_between) h'eJ h'eK h'eL
  have l'bI:=l'G.binds (ps:=["self", "first", "second"]) fun _ _ _ _ _ _ us hl=>match us,hl with | [_,_,_],_=>rfl
  have l'H:=fun_mk (st:=s_sets_voltage) h'eN h'eO h'eP
  have l'bJ:=l'H.binds (ps:=["part", "state"]) fun _ _ _ _ _ _ us hl=>match us,hl with | [_,_],_=>rfl
  have l'I:=fun_mk (st:=s_told_form) h'eR h'eS h'eT
  have l'bK:=l'I.binds (ps:=["parts", "k", "state", "columns"]) fun _ _ _ _ _ _ us hl=>match us,hl with | [_,_,_,_],_=>rfl
  have l'J:=fun_mk (st:=s_factor_form) h'eV h'eW h'eX
  have l'bL:=l'J.binds (ps:=["parts", "k", "state", "columns"]) fun _ _ _ _ _ _ us hl=>match us,hl with | [_,_,_,_],_=>rfl
  have l'K:=fun_mk (st:=s_part_laws) h'eZ h'fa h'fb
  have l'bM:=l'K.binds (ps:=["parts", "k", "state", "columns"]) fun _ _ _ _ _ _ us hl=>match us,hl with | [_,_,_,_],_=>rfl
  have l'L:=fun_mk (st:=s_all_part_laws) h'fd h'fe h'ff
  have l'bN:=l'L.binds (ps:=["parts", "states", "columns"]) fun _ _ _ _ _ _ us hl=>match us,hl with | [_,_,_],_=>rfl
  have l'M:=fun_mk (st:=s_law_forms) h'fh h'fi h'fj
  have l'bO:=l'M.binds (ps:=["parts", "states", "columns"]) fun _ _ _ _ _ _ us hl=>match us,hl with | [_,_,_],_=>rfl
  have l'N:=fun_mk (st:=s_product) h'fl h'fm h'fn
  have l'bP:=l'N.binds (ps:=["first", "second"]) fun _ _ _ _ _ _ us hl=>match us,hl with | [_,_],_=>rfl
  have l'O:=fun_mk (st:=s_Solution_top_of) h'fq h'fr h'fs
  have l'bQ:=l'O.binds (ps:=["self", "form"]) fun _ _ _ _ _ _ us hl=>match us,hl with | [_,_],_=>rfl
  have l'P:=fun_mk (st:=s_condition_holds) h'fu h'fv h'fw
  have l'bR:=l'P.binds (ps:=["parts", "k", "state", "columns", "solution"]) fun _ _ _ _ _ _ us hl=>match us,hl with | [_,_,_,_,_],_=>rfl
  have l'Q:=fun_mk (st:=s_diode_places) h'fy h'fz h'fA
  have l'bS:=l'Q.binds (ps:=["parts"]) fun _ _ _ _ _ _ us hl=>match us,hl with | [_],_=>rfl
  have l'R:=fun_mk (st:=s_conditions_hold) h'fC h'fD h'fE
  have l'bT:=l'R.binds (ps:=["parts", "states", "columns", "solution"]) fun _ _ _ _ _ _ us hl=>match us,hl with | [_,_,_,_],_=>rfl
  have l'S:=fun_mk (st:=s_Point_init) h'fH h'fI h'fJ
  have l'bU:=l'S.binds (ps:=["self", "states", "solution"]) fun _ _ _ _ _ _ us hl=>match us,hl with | [_,_,_],_=>rfl
  have l'T:=fun_mk (st:=s_operating_point) h'fL h'fM h'fN
  have l'bV:=l'T.binds (ps:=["parts", "columns"]) fun _ _ _ _ _ _ us hl=>match us,hl with | [_,_],_=>rfl
  have l'U:=fun_mk (st:=s_common_divisor) h'fP h'fQ h'fR
  have l'bW:=l'U.binds (ps:=["first", "second"]) fun _ _ _ _ _ _ us hl=>match us,hl with | [_,_],_=>rfl
  have l'V:=fun_mk (st:=s_lowest) h'fT h'fU h'fV
  have l'bX:=l'V.binds (ps:=["top", "bottom"]) fun _ _ _ _ _ _ us hl=>match us,hl with | [_,_],_=>rfl
  have l'W:=fun_mk (st:=s_voltage_between) h'fX h'fY h'fZ
  have l'bY:=l'W.binds (ps:=["a", "b", "columns", "solution"]) fun _ _ _ _ _ _ us hl=>match us,hl with | [_,_,_,_],_=>rfl
  have l'X:=fun_mk (st:=s_current_put) h'gb h'gc h'gd
  have l'bZ:=l'X.binds (ps:=["node", "a", "b"]) fun _ _ _ _ _ _ us hl=>match us,hl with | [_,_,_],_=>rfl
  have l'Y:=fun_mk (st:=s_probe_forms) h'gf h'gg h'gh
  have l'ca:=l'Y.binds (ps:=["a", "b", "parts", "states", "columns"]) fun _ _ _ _ _ _ us hl=>match us,hl with | [_,_,_,_,_],_=>rfl
  have l'Z:=fun_mk (st:=s_resistance) h'gj h'gk h'gl
  have l'cb:=l'Z.binds (ps:=["a", "b", "parts", "columns", "found"]) fun _ _ _ _ _ _ us hl=>match us,hl with | [_,_,_,_,_],_=>rfl
  have l'ba:=fun_mk (st:=s_open_voltage) h'gn h'go h'gp
  have l'cc:=l'ba.binds (ps:=["a", "b", "columns", "found"]) fun _ _ _ _ _ _ us hl=>match us,hl with | [_,_,_,_],_=>rfl
  have l'bb:=fun_mk (st:=s_opened) h'gr h'gs h'gt
  have l'cd:=l'bb.binds (ps:=["a", "b", "net"]) fun _ _ _ _ _ _ us hl=>match us,hl with | [_,_,_],_=>rfl
  refine ⟨fnOf "opened" "opened" (defArgs s_opened) (defBody s_opened) (defScope s_opened) .none i'lE i'lF i'lG i'lB i'lH i'lI,fun s us hu=>match us,hu with | [_,_,_],_ => .of_eq rfl,fun base _ _ => ?_⟩
  have c_may_have_number:=Cal.mk' (P:=P) (w:=w) (base:=base) (ok_may_have_number l'a T ) (mg_of X G h'cb) h'ce l'bc
  have c_references_of:=Cal.mk' (P:=P) (w:=w) (base:=base) (ok_references_of l'b T ) (mg_of X G h'cf) h'ci l'bd
  have c_is_new_pair:=Cal.mk' (P:=P) (w:=w) (base:=base) (ok_is_new_pair l'c T (c_references_of:=c_references_of)) (mg_of X G h'cj) h'cm l'be
  have c_may_refer:=Cal.mk' (P:=P) (w:=w) (base:=base) (ok_may_refer l'd T (c_references_of:=c_references_of) (c_is_new_pair:=c_is_new_pair)) (mg_of X G h'cn) h'cq l'bf
  have c_is_coupled_too_much:=Cal.mk' (P:=P) (w:=w) (base:=base) (ok_is_coupled_too_much l'e T ) (mg_of X G h'cr) h'cu l'bg
  have c_nodes_of:=Cal.mk' (P:=P) (w:=w) (base:=base) (ok_nodes_of l'f T ) (mg_of X G h'cv) h'cy l'bh
  have c_part_fault:=Cal.mk' (P:=P) (w:=w) (base:=base) (ok_part_fault l'g T (c_may_have_number:=c_may_have_number) (c_may_refer:=c_may_refer) (c_is_coupled_too_much:=c_is_coupled_too_much) (c_nodes_of:=c_nodes_of)) (mg_of X G h'cz) h'cC l'bi
  have c_first_fault:=Cal.mk' (P:=P) (w:=w) (base:=base) (ok_first_fault l'h T (c_part_fault:=c_part_fault)) (mg_of X G h'cD) h'cG l'bj
  have m_Part:Mak P w K mg base _ "Part" C_Part _ _:=⟨_,_,⟨h'p,h'cH,h'cI,h'q⟩,ok_Part_init l'i T ,mg_of X G h'k,l'bk⟩
  have c_parts_of:=Cal.mk' (P:=P) (w:=w) (base:=base) (ok_parts_of l'j T (m_Part:=m_Part)) (mg_of X G h'cM) h'cP l'bl
  have c_diode_count:=Cal.mk' (P:=P) (w:=w) (base:=base) (ok_diode_count l'k T ) (mg_of X G h'cQ) h'cT l'bm
  have c_is_part:=Cal.mk' (P:=P) (w:=w) (base:=base) (ok_is_part l'l T ) (mg_of X G h'cU) h'cX l'bn
  have c_is_row:=Cal.mk' (P:=P) (w:=w) (base:=base) (ok_is_row l'm T (c_parts_of:=c_parts_of) (c_diode_count:=c_diode_count) (c_is_part:=c_is_part)) (mg_of X G h'cY) h'db l'bo
  have c_refusal_of:=Cal.mk' (P:=P) (w:=w) (base:=base) (ok_refusal_of l'n T (c_first_fault:=c_first_fault) (c_is_row:=c_is_row) (c_parts_of:=c_parts_of)) (mg_of X G h'dc) h'df l'bp
  have m_Columns:Mak P w K mg base _ "Columns" C_Columns _ _:=⟨_,_,⟨h'f,h'dg,h'dh,h'g⟩,ok_Columns_init l'o T ,mg_of X G h'a,l'bq⟩
  have c_state_rows:=Cal.mk' (P:=P) (w:=w) (base:=base) (ok_state_rows l'p T ) (mg_of X G h'dl) h'do l'br
  have m_Reduced:Mak P w K mg base _ "Reduced" C_Reduced _ _:=⟨_,_,⟨h'L,h'dp,h'dq,h'M⟩,ok_Reduced_init l'q T ,mg_of X G h'G,l'bs⟩
  have c_pivot_place:=Cal.mk' (P:=P) (w:=w) (base:=base) (ok_pivot_place l'r T ) (mg_of X G h'du) h'dx l'bt
  have c_exchanged:=Cal.mk' (P:=P) (w:=w) (base:=base) (ok_exchanged l's T ) (mg_of X G h'dy) h'dB l'bu
  have c_cleared:=Cal.mk' (P:=P) (w:=w) (base:=base) (ok_cleared l't T ) (mg_of X G h'dC) h'dF l'bv
  have c_reduced:=Cal.mk' (P:=P) (w:=w) (base:=base) (ok_reduced l'u T (m_Reduced:=m_Reduced) (c_pivot_place:=c_pivot_place) (c_exchanged:=c_exchanged) (c_cleared:=c_cleared)) (mg_of X G h'dG) h'dJ l'bw
  have c_reduced_laws:=Cal.mk' (P:=P) (w:=w) (base:=base) (ok_reduced_laws l'v T (c_reduced:=c_reduced)) (mg_of X G h'dK) h'dN l'bx
  have m_Solution:Mak P w K mg base _ "Solution" C_Solution _ _:=⟨_,_,⟨h'V,h'dO,h'dP,h'W⟩,ok_Solution_init l'w T ,mg_of X G h'Q,l'by⟩
  have c_solution_of:=Cal.mk' (P:=P) (w:=w) (base:=base) (ok_solution_of l'x T (c_reduced_laws:=c_reduced_laws) (m_Solution:=m_Solution)) (mg_of X G h'dT) h'dW l'bz
  have m_Columns_nothing:Mth P w K mg base _ C_Columns "nothing" _ _:=⟨_,_,T.cl_Columns,⟨h'dX,h'dY,h'eb⟩,ok_Columns_nothing l'y T ,l'bA⟩
  have c_branches_of:=Cal.mk' (P:=P) (w:=w) (base:=base) (ok_branches_of l'z T ) (mg_of X G h'ec) h'ef l'bB
  have c_node_forms:=Cal.mk' (P:=P) (w:=w) (base:=base) (ok_node_forms l'A T (m_Columns_nothing:=m_Columns_nothing) (c_branches_of:=c_branches_of)) (mg_of X G h'eg) h'ej l'bC
  have c_less:=Cal.mk' (P:=P) (w:=w) (base:=base) (ok_less l'B T ) (mg_of X G h'ek) h'en l'bD
  have c_times:=Cal.mk' (P:=P) (w:=w) (base:=base) (ok_times l'C T ) (mg_of X G h'eo) h'er l'bE
  have m_Law_form:Mth P w K mg base _ C_Law "form" _ _:=⟨_,_,T.cl_Law,⟨h'es,h'et,h'ew⟩,ok_Law_form l'D T (c_less:=c_less) (c_times:=c_times),l'bF⟩
  have m_Columns_single:Mth P w K mg base _ C_Columns "single" _ _:=⟨_,_,T.cl_Columns,⟨h'ex,h'ey,h'eB⟩,ok_Columns_single l'E T (m_Columns_nothing:=m_Columns_nothing),l'bG⟩
  have m_Law:Mak P w K mg base _ "Law" C_Law _ _:=⟨_,_,⟨h'A,h'eC,h'eD,h'B⟩,ok_Law_init l'F T ,mg_of X G h'v,l'bH⟩
  have m_Columns_between:Mth P w K mg base _ C_Columns "between" _ _:=⟨_,_,T.cl_Columns,⟨h'eH,h'eI,h'eL⟩,ok_Columns_between l'G T (m_Columns_nothing:=m_Columns_nothing),l'bI⟩
  have c_sets_voltage:=Cal.mk' (P:=P) (w:=w) (base:=base) (ok_sets_voltage l'H T ) (mg_of X G h'eM) h'eP l'bJ
  have c_told_form:=Cal.mk' (P:=P) (w:=w) (base:=base) (ok_told_form l'I T (m_Columns_single:=m_Columns_single) (m_Columns_between:=m_Columns_between) (c_sets_voltage:=c_sets_voltage)) (mg_of X G h'eQ) h'eT l'bK
  have c_factor_form:=Cal.mk' (P:=P) (w:=w) (base:=base) (ok_factor_form l'J T (m_Columns_nothing:=m_Columns_nothing) (m_Columns_single:=m_Columns_single) (m_Columns_between:=m_Columns_between)) (mg_of X G h'eU) h'eX l'bL
  have c_part_laws:=Cal.mk' (P:=P) (w:=w) (base:=base) (ok_part_laws l'K T (m_Columns_single:=m_Columns_single) (m_Law:=m_Law) (c_told_form:=c_told_form) (c_factor_form:=c_factor_form) (c_times:=c_times)) (mg_of X G h'eY) h'fb l'bM
  have c_all_part_laws:=Cal.mk' (P:=P) (w:=w) (base:=base) (ok_all_part_laws l'L T (c_part_laws:=c_part_laws)) (mg_of X G h'fc) h'ff l'bN
  have c_law_forms:=Cal.mk' (P:=P) (w:=w) (base:=base) (ok_law_forms l'M T (c_node_forms:=c_node_forms) (m_Law_form:=m_Law_form) (c_all_part_laws:=c_all_part_laws)) (mg_of X G h'fg) h'fj l'bO
  have c_product:=Cal.mk' (P:=P) (w:=w) (base:=base) (ok_product l'N T ) (mg_of X G h'fk) h'fn l'bP
  have m_Solution_top_of:Mth P w K mg base _ C_Solution "top_of" _ _:=⟨_,_,T.cl_Solution,⟨h'fo,h'fp,h'fs⟩,ok_Solution_top_of l'O T (c_product:=c_product),l'bQ⟩
  have c_condition_holds:=Cal.mk' (P:=P) (w:=w) (base:=base) (ok_condition_holds l'P T (m_Solution_top_of:=m_Solution_top_of) (m_Columns_between:=m_Columns_between) (m_Columns_single:=m_Columns_single)) (mg_of X G h'ft) h'fw l'bR
  have c_diode_places:=Cal.mk' (P:=P) (w:=w) (base:=base) (ok_diode_places l'Q T ) (mg_of X G h'fx) h'fA l'bS
  have c_conditions_hold:=Cal.mk' (P:=P) (w:=w) (base:=base) (ok_conditions_hold l'R T (c_condition_holds:=c_condition_holds) (c_diode_places:=c_diode_places)) (mg_of X G h'fB) h'fE l'bT
  have m_Point:Mak P w K mg base _ "Point" C_Point _ _:=⟨_,_,⟨h'be,h'fF,h'fG,h'bf⟩,ok_Point_init l'S T ,mg_of X G h'Z,l'bU⟩
  have c_operating_point:=Cal.mk' (P:=P) (w:=w) (base:=base) (ok_operating_point l'T T (c_state_rows:=c_state_rows) (c_solution_of:=c_solution_of) (c_law_forms:=c_law_forms) (c_conditions_hold:=c_conditions_hold) (m_Point:=m_Point)) (mg_of X G h'fK) h'fN l'bV
  have c_common_divisor:=Cal.mk' (P:=P) (w:=w) (base:=base) (ok_common_divisor l'U T ) (mg_of X G h'fO) h'fR l'bW
  have c_lowest:=Cal.mk' (P:=P) (w:=w) (base:=base) (ok_lowest l'V T (c_common_divisor:=c_common_divisor)) (mg_of X G h'fS) h'fV l'bX
  have c_voltage_between:=Cal.mk' (P:=P) (w:=w) (base:=base) (ok_voltage_between l'W T (c_lowest:=c_lowest) (m_Solution_top_of:=m_Solution_top_of) (m_Columns_between:=m_Columns_between)) (mg_of X G h'fW) h'fZ l'bY
  have c_current_put:=Cal.mk' (P:=P) (w:=w) (base:=base) (ok_current_put l'X T ) (mg_of X G h'ga) h'gd l'bZ
  have c_probe_forms:=Cal.mk' (P:=P) (w:=w) (base:=base) (ok_probe_forms l'Y T (c_current_put:=c_current_put) (c_node_forms:=c_node_forms) (m_Law_form:=m_Law_form) (c_all_part_laws:=c_all_part_laws)) (mg_of X G h'ge) h'gh l'ca
  have c_resistance:=Cal.mk' (P:=P) (w:=w) (base:=base) (ok_resistance l'Z T (c_voltage_between:=c_voltage_between) (c_solution_of:=c_solution_of) (c_probe_forms:=c_probe_forms)) (mg_of X G h'gi) h'gl l'cb
  have c_open_voltage:=Cal.mk' (P:=P) (w:=w) (base:=base) (ok_open_voltage l'ba T (c_voltage_between:=c_voltage_between)) (mg_of X G h'gm) h'gp l'cc
  exact ok_opened l'bb T (c_refusal_of:=c_refusal_of) (c_parts_of:=c_parts_of) (m_Columns:=m_Columns) (c_operating_point:=c_operating_point) (c_resistance:=c_resistance) (c_open_voltage:=c_open_voltage)
end Jw
open PySem PySem.W PyProof.Rows
theorem PySem.W.Fast.tw7786472892684800141 : True := trivial
theorem PySem.W.Fast.tw9944602820482799664 : True := trivial
theorem PySem.W.Fast.tw13517619077166009730 : True := trivial
theorem PySem.W.Fast.tw6104187491507579587 : True := trivial
theorem PySem.W.Fast.tw15074787104274765537 : True := trivial
theorem PySem.W.Fast.tw713514934283376738 : True := trivial
theorem PySem.W.Fast.tw4115370483717118361 : True := trivial
theorem PySem.W.Fast.tw18278689997619354505 : True := trivial
theorem PySem.W.Fast.tw3204994410913052034 : True := trivial
theorem PySem.W.Fast.tw1133066436333722784 : True := trivial
theorem PySem.W.Fast.tw13035067013709560383 : True := trivial
theorem PySem.W.Fast.tw5540576137924656307 : True := trivial
theorem PySem.W.Fast.tw13820121181697151248 : True := trivial
theorem PySem.W.Fast.tw2297427006734782906 : True := trivial
theorem PySem.W.Fast.tw1894074610562551780 : True := trivial
theorem PySem.W.Fast.tw14224771052649392449 : True := trivial
theorem PySem.W.Fast.tw17420591412899442032 : True := trivial
theorem PySem.W.Fast.tw10575954562748719807 : True := trivial
theorem PySem.W.Fast.tw16319697138937430967 : True := trivial
theorem PySem.W.Fast.tw4839515299155329688 : True := trivial
theorem PySem.W.Fast.tw18046617931684152230 : True := trivial
theorem PySem.W.Fast.tw8440906980403583822 : True := trivial
theorem PySem.W.Fast.tw1791801879449942754 : True := trivial
theorem PySem.W.Fast.tw13819478115396908778 : True := trivial
theorem PySem.W.Fast.tw3933446660482712531 : True := trivial
theorem PySem.W.Fast.tw4712962844750782807 : True := trivial
set_option maxRecDepth 100000 in
set_option maxHeartbeats 0 in
theorem PySem.Challenge.cw_restingnets_s05_opened_holds : PySem.Challenge.rw_restingnets_s05_opened.Holds := by
  w_on;k_headS;(case hw=>exact ⟨[.int 0, .int 0, .list []],by decide +kernel,by decide +kernel⟩)
  k_fillS
  refine L2.walk_specK (r:=PySem.Challenge.rw_restingnets_s05_opened) (k:=8) (CX:=L2.CX0) (ps:=["a", "b", "net"]) (sp:=Jw.sp_opened) (by decide +kernel) rfl rfl ⟨rfl,by decide,by decide⟩ (fun w h Y=>PySem.W.kIn_of Y) ?F ?S (fun _ _ _ _ z=>z)
  case F =>
    intro w mg fa h Y KX G hmg
    refine' Jw.all_mk KX G hmg ?_ ?_ ?_ ?_ ?_ ?_ ?_ ?_ ?_ ?_ ?_ ?_ ?_ ?_ ?_ ?_ ?_ ?_ ?_ ?_ ?_ ?_ ?_ ?_ ?_ ?_ ?_ ?_ ?_ ?_ ?_ ?_ ?_ ?_ ?_ ?_ ?_ ?_ ?_ ?_ ?_ ?_ ?_ ?_ ?_ ?_ ?_ ?_ ?_ ?_ ?_ ?_ ?_ ?_ ?_ ?_ ?_ ?_ ?_ ?_ ?_ ?_ ?_ ?_ ?_ ?_ ?_ ?_ ?_ ?_ ?_ ?_ ?_ ?_ ?_ ?_ ?_ ?_ ?_ ?_ ?_ ?_ ?_ ?_ ?_ ?_ ?_ ?_ ?_ ?_ ?_ ?_ ?_ ?_ ?_ ?_ ?_ ?_ ?_ ?_ ?_ ?_ ?_ ?_ ?_ ?_ ?_ ?_ ?_ ?_ ?_ ?_ ?_ ?_ ?_ ?_ ?_ ?_ ?_ ?_ ?_ ?_ ?_ ?_ ?_ ?_ ?_ ?_ ?_ ?_ ?_ ?_ ?_ ?_ ?_ ?_ ?_ ?_ ?_ ?_ ?_ ?_ ?_ ?_ ?_ ?_ ?_ ?_ ?_ ?_ ?_ ?_ ?_ ?_ ?_ ?_ ?_ ?_ ?_ ?_ ?_ ?_ ?_ ?_ ?_ ?_ ?_ ?_ ?_ ?_ ?_ ?_ ?_ ?_ ?_ ?_ ?_ ?_ ?_ ?_ ?_ ?_ ?_ ?_ ?_ ?_ ?_ ?_ ?_ ?_ ?_ ?_ ?_ ?_ ?_ ?_ ?_ ?_ ?_ ?_ ?_ ?_ ?_ ?_ ?_ ?_ ?_ ?_ ?_ ?_ ?_ ?_ ?_ ?_ ?_ ?_ ?_ ?_ ?_ ?_ ?_ ?_ ?_ ?_ ?_ ?_ ?_ ?_ ?_ ?_ ?_ ?_ ?_ ?_ ?_ ?_ ?_ ?_ ?_ ?_ ?_ ?_ ?_ ?_ ?_ ?_ ?_ ?_ ?_ ?_ ?_ ?_ ?_ ?_ ?_ ?_ ?_ ?_ ?_ ?_ ?_ ?_ ?_ ?_ ?_ ?_ ?_ ?_ ?_ ?_ ?_ ?_ ?_ ?_ ?_ ?_ ?_ ?_ ?_ ?_ ?_ ?_ ?_ ?_ ?_ ?_ ?_ ?_ ?_ ?_ ?_ ?_ ?_ ?_ ?_ ?_ ?_ ?_ ?_ ?_ ?_ ?_ ?_ ?_ ?_ ?_ ?_ ?_ ?_ ?_ ?_ ?_ ?_ ?_ ?_ ?_ ?_ ?_ ?_ ?_ ?_ ?_ ?_ ?_ ?_ ?_ ?_ ?_ ?_ ?_ ?_ ?_
    all_goals (try k_is)
  case S =>
    intro K H xs a hO hwi hask hx
    cases hx with
    | cons h1 h2 =>
      cases h2 with
      | cons h2 h3 =>
        cases h3 with
        | cons h3 h4 =>
          cases h4
          cases h1
          cases h2
          cases h3 with
          | lst hs ha =>
            have e:=L2.ints_dw a.2.2.1 _ ha
            subst e
            have q:(Codec.inInt 0 4294967295 a.1 && (Codec.inInt 0 4294967295 a.2.1 && ((Codec.inLen 0 120 a.2.2.1 && a.2.2.1.all (Codec.inInt (-4294967295) 4294967295)) && true))) = true:=hwi
            rw [Bool.and_eq_true,Bool.and_eq_true,Bool.and_eq_true,Bool.and_eq_true] at q
            have n1:=(Codec.inInt_iff.mp q.1).1
            have n2:=(Codec.inInt_iff.mp q.2.1).1
            refine ⟨_,a.1.toNat,a.2.1.toNat,a.2.2.1,by rw [Int.toNat_of_nonneg n1,Int.toNat_of_nonneg n2],hs,(Codec.inNat_iff.mp q.2.2.1.1).2,fun H' p _ hp => ?_⟩
            rw [Fs.opened_eq,Int.toNat_of_nonneg n1,Int.toNat_of_nonneg n2] at hp
            exact .lst (L2.SqL.of hp) (L2.dw_ints _)
#print axioms PySem.Challenge.cw_restingnets_s05_opened_holds

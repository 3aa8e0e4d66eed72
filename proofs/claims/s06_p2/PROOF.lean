import PyProof.Rows.All
import Wide.All
import OpenK.AllK
import Wide.FinOn
import PyProof.EqAt
import PyProof.EqKinds
import PyProof.TupleCall
import KE.BitLaws
import Open.SpecLaws
import KE.OsHead
import KE.OsGo
import KE.KLam
import KE.KNestM
import PyProof.AutoSeq1
import PyProof.Rows.FactsT3
import PyProof.Rows.FStr
import PyProof.Draws
import PyProof.EnumIter
import PyProof.StationsW
import PyProof.ExcInit
import PyProof.InstStoreFacts
import PyProof.RulesAs
import PyProof.ExcBaseAll.Exception
import PyProof.ExcArgsOwn
import PyProof.ExcAttrAll.Exception
import PySem.Challenge.RW_lutesettings_s06_ways
set_option linter.all false
set_option maxRecDepth 100000
set_option Elab.async false
set_option maxHeartbeats 2000000
namespace L2
open PySem PySem.Spec PyProof.Rows
abbrev Key:=Sum Int Str
def keyIs:Key->Value->Bool
  | .inl k,v=>Value.isInt k v
  | .inr x,v=>Value.isStrOf x v
def keyH (w:World):Key->Int
  | .inl k=>hashInt k
  | .inr x=>hashStr w x
theorem keyIs_shape:∀ {k:Key} {v:Value},keyIs k v=true->(∃ i t,k=Sum.inl i/\v=Value.int i t)\/(∃ x t,k=Sum.inr x/\v=Value.str x t)
  | .inl i,v,h=>by
    obtain ⟨t,e⟩:=Value.isInt_shape (k:=i) (v:=v) h
    exact .inl ⟨i,t,rfl,e⟩
  | .inr x,v,h=>by
    obtain ⟨t,e⟩:=Value.isStrOf_shape (x:=x) (v:=v) h
    exact .inr ⟨x,t,rfl,e⟩
theorem keyIs_int (i:Int) (t:Tok):keyIs (.inl i) (.int i t)=true:=by simp [keyIs,Value.isInt]
theorem keyIs_str (x:Str) (t:Tok):keyIs (.inr x) (.str x t)=true:=by simp [keyIs,Value.isStrOf]
theorem key_ll (a b:Int):decide ((Sum.inl a:Key)=Sum.inl b)=(a == b):=by
  by_cases e:a=b
  · subst e;simp
  · have h:¬ (Sum.inl a:Key)=Sum.inl b:=fun q=>e (Sum.inl.inj q)
    rw [decide_eq_false h]
    exact (beq_eq_false_iff_ne.mpr e).symm
theorem key_rr (a b:Str):decide ((Sum.inr a:Key)=Sum.inr b)=decide (a=b):=by
  by_cases e:a=b
  · subst e;simp
  · have h:¬ (Sum.inr a:Key)=Sum.inr b:=fun q=>e (Sum.inr.inj q)
    rw [decide_eq_false h,decide_eq_false e]
theorem key_lr (a:Int) (b:Str):decide ((Sum.inl a:Key)=Sum.inr b)=false:=decide_eq_false (fun q=>nomatch q)
theorem key_rl (a:Str) (b:Int):decide ((Sum.inr a:Key)=Sum.inl b)=false:=decide_eq_false (fun q=>nomatch q)
def mixKind (prog:Program) (w:World):PySem.KeyKind prog w Key where
  is:=keyIs
  hash:=keyH w
  inj:=fun v a b ha hb=>by
    rcases keyIs_shape ha with ⟨i,t,rfl,rfl⟩ | ⟨x,t,rfl,rfl⟩
    · rcases keyIs_shape hb with ⟨j,u,rfl,e⟩ | ⟨y,u,rfl,e⟩
      · injection e with e1 _;rw [e1]
      · exact nomatch e
    · rcases keyIs_shape hb with ⟨j,u,rfl,e⟩ | ⟨y,u,rfl,e⟩
      · exact nomatch e
      · injection e with e1 _;rw [e1]
  byValue:=fun k v h=>by
    rcases keyIs_shape h with ⟨i,t,rfl,rfl⟩ | ⟨x,t,rfl,rfl⟩ <;> rfl
  pyHash:=fun hv h=>by
    rcases keyIs_shape hv with ⟨i,t,rfl,rfl⟩ | ⟨x,t,rfl,rfl⟩
    · exact wpAny_pyHash_int h
    · exact wpAny_pyHash_str h
  eqBool:=fun hu hv h=>by
    rcases keyIs_shape hu with ⟨i,t,rfl,rfl⟩ | ⟨x,t,rfl,rfl⟩
    · rcases keyIs_shape hv with ⟨j,u,rfl,rfl⟩ | ⟨y,u,rfl,rfl⟩
      · rw [key_ll] at h;exact wpAny_eqBool_int h
      · rw [key_lr] at h;exact SeqAt.EqAt.int_str i t y u _ _ _ _ h
    · rcases keyIs_shape hv with ⟨j,u,rfl,rfl⟩ | ⟨y,u,rfl,rfl⟩
      · rw [key_rl] at h;exact SeqAt.EqAt.str_int x t j u _ _ _ _ h
      · rw [key_rr] at h;exact wpAny_eqBool_str h
  «strs»:=fun k x t v h=>by
    rcases keyIs_shape h with ⟨i,u,rfl,e⟩ | ⟨y,u,rfl,e⟩
    · exact nomatch e
    · injection e with e1 _
      subst e1
      cases v <;> rfl
theorem mixKind_int (prog:Program) (w:World) (i:Int) (t:Tok):(mixKind prog w).is (.inl i) (.int i t)=true:=keyIs_int i t
theorem mixKind_str (prog:Program) (w:World) (x:Str) (t:Tok):(mixKind prog w).is (.inr x) (.str x t)=true:=keyIs_str x t
end L2
namespace L2
open PySem PySem.Spec PyProof.Rows
inductive V where
  | non | bl (b:Bool) | int (i:Int) | str (x:Str) | byt (b:Array UInt8) | flt (b:UInt64) | ref (a:Addr) | ty (n:String)
  deriving DecidableEq
def RelV:V->Value->Prop
  | .non,u=>u=Value.none
  | .bl b,u=>u=Value.bool b
  | .int i,u=>∃ t,u=Value.int i t
  | .str x,u=>∃ t,u=Value.str x t
  | .byt b,u=>∃ t,u=Value.bytes b t
  | .flt b,u=>∃ t,u=Value.float b t
  | .ref a,u=>u=Value.ref a
  | .ty n,u=>u=Value.type n
abbrev Vals:List V->List Value->Prop:=Paired RelV
theorem Vals.length {xs:List V} {us:List Value} (r:Vals xs us):xs.length=us.length:=Paired.length r
theorem Vals.get:∀ {xs:List V} {us:List Value} {i:Nat} {x:V},Vals xs us->xs[i]?=some x->∃ u,us[i]?=some u/\RelV x u
  | _,_,_,_,.nil,e=>by simp at e
  | _,_,0,_,.cons r _,e=>by simp at e;subst e;exact ⟨_,rfl,r⟩
  | _,_,i+1,x,.cons _ t,e=>by
    obtain ⟨u,h1,h2⟩:=Vals.get (i:=i) (x:=x) t (by simpa using e)
    exact ⟨u,by simpa using h1,h2⟩
theorem Vals.set {x:V} {u:Value} (r:RelV x u):∀ {xs:List V} {us:List Value} (i:Nat),Vals xs us->Vals (xs.set i x) (us.set i u)
  | _,_,_,.nil=>.nil
  | _,_,0,.cons _ t=>.cons r t
  | _,_,i+1,.cons q t=>.cons q (Vals.set r i t)
theorem Vals.append:∀ {xs ys:List V} {us ws:List Value},Vals xs us->Vals ys ws->Vals (xs++ys) (us++ws)
  | _,_,_,_,.nil,s=>s
  | _,_,_,_,.cons r t,s=>.cons r (Vals.append t s)
theorem Vals.take:∀ {xs:List V} {us:List Value} (n:Nat),Vals xs us->Vals (xs.take n) (us.take n)
  | _,_,0,_=>.nil
  | _,_,_+1,.nil=>.nil
  | _,_,n+1,.cons r t=>.cons r (Vals.take n t)
theorem Vals.drop:∀ {xs:List V} {us:List Value} (n:Nat),Vals xs us->Vals (xs.drop n) (us.drop n)
  | _,_,0,r=>r
  | _,_,_+1,.nil=>.nil
  | _,_,n+1,.cons _ t=>Vals.drop n t
def RelO:Option V->Option Value->Prop
  | some v,some u=>RelV v u
  | none,none=>True
  | _,_=>False
def KV {κ:Type}:List (κ × V)->List (κ × Value)->Prop:=Paired fun (p:κ × V) (q:κ × Value)=>p.1=q.1/\RelV p.2 q.2
def kV:Key->V
  | .inl i=>.int i
  | .inr x=>.str x
inductive HO where
  | lst (xs:List V)
  | tup (xs:List V)
  | dK (kvs:List (Key × V)) | dT (kvs:List (List Key × V))
  | set (S:Int->Bool) (n:Nat)
  | ins (C dx:Addr) (fs:List (Str × V))
  | own (x:Addr)
  | xd (fs:List (Str × V))
  | met (f x:Addr)
  | rng (lo hi:Int)
  | frz (o:Obj) (u:HO)
  | tbl (ps:Array Value)
  | ext (φ:Heap->Prop)
abbrev Hp:=Addr->Option HO
def upd (H:Hp) (a:Addr) (o:HO):Hp:=fun b=>if b=a then some o else H b
theorem upd_same {H:Hp} {a:Addr} {o:HO}:upd H a o a=some o:=by unfold upd;rw [if_pos rfl]
theorem upd_ne {H:Hp} {a b:Addr} {o:HO} (h:b ≠ a):upd H a o b=H b:=by unfold upd;rw [if_neg h]
theorem upd_upd {H:Hp} {a:Addr} {o u:HO}:upd (upd H a o) a u=upd H a u:=by
  funext b;unfold upd;split <;> rfl
theorem ne_of {H:Hp} {a b:Addr} {o u:HO} (h:H a=some o) (h':H b=some u) (d:o ≠ u):a ≠ b:=by
  intro e;subst e;rw [h] at h';exact d (Option.some.inj h')
theorem ne_of_none {H:Hp} {a b:Addr} {o:HO} (h:H a=some o) (h':H b=none):a ≠ b:=by
  intro e;subst e;rw [h] at h';cases h'
section
variable (P:Program) (w:World)
def ObjOk (H:Hp) (h:Heap) (a:Addr):HO->Prop
  | .lst xs=>xs.length<=sizeLine/\∃ (its:List Value) (n:Nat),Vals xs its/\h.get? a=some { cls:=.type "list",data:=.seq its.toArray n }
  | .tup xs=>xs.length<=sizeLine/\∃ its:List Value,Vals xs its/\IsTup h a its.toArray
  | .dK kvs=>kvs.length<=sizeLine/\(a == sysModules)=false/\∃ vs,KV kvs vs/\h.DictOf (mixKind P w) a vs
  | .dT kvs=>kvs.length<=sizeLine/\(a == sysModules)=false/\∃ xs:List (List Key × Addr × Value),
      Paired (fun (p:List Key × V) (q:List Key × Addr × Value)=>p.1=q.1/\H q.2.1=some (.tup (p.1.map kV))/\RelV p.2 q.2.2) kvs xs ∧
      ∃ o es ep,h.get? a=some o/\o.ExactDict/\o.data=.dict es ep/\es.toList=xs.map (entryOfKey (tupleKind (mixKind P w)))/\(xs.map (·.1)).Nodup
  | .set S n=>h.SetOf (intKind P w) a S n
  | .ins C dx fs=>H dx=some (.own a)/\fs.length<=1000/\dx ≠ a/\h.get? a=some (PySem.W.instObj C dx) ∧
      ∃ mA,h.Ns1 dx mA/\(∀ f,RelO (fs.lookup f) (mA f))/\PySem.Within mA (fs.map (·.1))
  | .own _=>∃ o,h.get? a=some o
  | .xd fs=>∃ mA,h.Ns1 a mA/\∀ f,RelO (fs.lookup f) (mA f)
  | .rng lo hi=>∃ t u v,h.get? a=some { cls:=.type "range",data:=.fields #[.int lo t,.int hi u,.int 1 v] }
  | .frz o u=>h.get? a=some o/\ObjOk H h a u
  | .tbl ps=>h.get? a=some { cls:=.none,data:=.fields ps }
  | .met f x=>h.get? a=some (PySem.W.methodObj (.ref f) (.ref x))
  | .ext φ=>φ h/\(∃ o,h.get? a=some o)/\∀ h1 h2:Heap,φ h1->(∀ o,h1.get? a=some o->h2.get? a=some o)->φ h2
def HOk (H:Hp) (h:Heap):Prop:=∀ a o,H a=some o->ObjOk P w H h a o
end
section
variable {P:Program} {w:World} {H H':Hp} {h h':Heap} {a:Addr} {o:HO}
theorem ObjOk.lt (x:ObjOk P w H h a o):a < h.objs.size:=by
  cases o with
  | lst xs=>obtain ⟨_,_,_,_,e⟩:=x;exact Heap.lt_size e
  | tup xs=>obtain ⟨_,_,_,p⟩:=x;exact p.lt
  | dK kvs=>obtain ⟨_,_,_,_,o,_,_,e,_⟩:=x;exact Heap.lt_size e
  | dT kvs=>obtain ⟨_,_,_,_,o,_,_,e,_⟩:=x;exact Heap.lt_size e
  | set S n=>obtain ⟨o,_,_,_,e,_⟩:=x;exact Heap.lt_size e
  | ins C dx fs=>obtain ⟨_,_,_,e,_⟩:=x;exact Heap.lt_size e
  | own y=>obtain ⟨_,e⟩:=x;exact Heap.lt_size e
  | xd fs=>obtain ⟨_,⟨_,_,_,e,_⟩,_⟩:=x;exact Heap.lt_size e
  | rng lo hi=>obtain ⟨_,_,_,e⟩:=x;exact Heap.lt_size e
  | frz ob u=>obtain ⟨e,_⟩:=x;exact Heap.lt_size e
  | tbl ps=>exact Heap.lt_size (show h.get? a=some _ from x)
  | met f y=>exact Heap.lt_size (show h.get? a=some _ from x)
  | ext φ=>obtain ⟨_,⟨_,e⟩,_⟩:=x;exact Heap.lt_size e
theorem Paired.mapP {α β:Type} {F G:α->β->Prop}:∀ {l₁:List α} {l₂:List β},Paired F l₁ l₂->(∀ a b,F a b->G a b)->Paired G l₁ l₂
  | _,_,.nil,_=>.nil
  | _,_,.cons r t,f=>.cons (f _ _ r) (Paired.mapP t f)
theorem ObjOk.stay (x:ObjOk P w H h a o) (k:∀ b u,(b=a\/H b=some (.own a))->h.get? b=some u->h'.get? b=some u)
    (ho:∀ b,H b=some (.own a)->H' b=some (.own a)) (ht:∀ b xs,H b=some (.tup xs)->H' b=some (.tup xs)):ObjOk P w H' h' a o:=by
  induction o with
  | lst xs=>obtain ⟨z,its,n,r,e⟩:=x;exact ⟨z,its,n,r,k _ _ (.inl rfl) e⟩
  | tup xs=>obtain ⟨z,its,r,ob,e,c⟩:=x;exact ⟨z,its,r,ob,k _ _ (.inl rfl) e,c⟩
  | dK kvs=>obtain ⟨z,y,vs,r,ob,es,ep,e,c⟩:=x;exact ⟨z,y,vs,r,ob,es,ep,k _ _ (.inl rfl) e,c⟩
  | dT kvs=>
    obtain ⟨z,y,xs,r,ob,es,ep,e,c⟩:=x
    exact ⟨z,y,xs,Paired.mapP r fun p q z=>⟨z.1,ht _ _ z.2.1,z.2.2⟩,ob,es,ep,k _ _ (.inl rfl) e,c⟩
  | set S n=>obtain ⟨ob,es,ep,t,e,c⟩:=x;exact ⟨ob,es,ep,t,k _ _ (.inl rfl) e,c⟩
  | ins C dx fs=>
    obtain ⟨d,z,ne,e,mA,⟨od,es,ep,e2,c⟩,r⟩:=x
    exact ⟨ho _ d,z,ne,k _ _ (.inl rfl) e,mA,⟨od,es,ep,k _ _ (.inr d) e2,c⟩,r⟩
  | own y=>obtain ⟨ob,e⟩:=x;exact ⟨ob,k _ _ (.inl rfl) e⟩
  | xd fs=>obtain ⟨mA,⟨od,es,ep,e,c⟩,r⟩:=x;exact ⟨mA,⟨od,es,ep,k _ _ (.inl rfl) e,c⟩,r⟩
  | rng lo hi=>obtain ⟨t,u,v,e⟩:=x;exact ⟨t,u,v,k _ _ (.inl rfl) e⟩
  | frz ob u ih=>obtain ⟨e,q⟩:=x;exact ⟨k _ _ (.inl rfl) e,ih q⟩
  | tbl ps=>
    have e:h.get? a=some { cls:=.none,data:=.fields ps }:=x
    show h'.get? a=some { cls:=.none,data:=.fields ps }
    exact k a _ (.inl rfl) e
  | met f y=>
    have e:h.get? a=some (PySem.W.methodObj (.ref f) (.ref y)):=x
    show h'.get? a=some (PySem.W.methodObj (.ref f) (.ref y))
    exact k a _ (.inl rfl) e
  | ext φ=>obtain ⟨p,⟨o,e⟩,st⟩:=x;exact ⟨st _ _ p fun o q=>k _ _ (.inl rfl) q,⟨o,k _ _ (.inl rfl) e⟩,st⟩
theorem HOk.lt (x:HOk P w H h) (e:H a=some o):a < h.objs.size:=(x a o e).lt
theorem HOk.fresh (x:HOk P w H h) (e:h.objs.size<=a):H a=none:=by
  cases q:H a with
  | none=>rfl
  | some u=>exact absurd (Nat.lt_of_lt_of_le (x.lt q) e) (Nat.lt_irrefl _)
theorem HOk.kept (x:HOk P w H h) (k:∀ b u,h.get? b=some u->h'.get? b=some u):HOk P w H h':=fun a o e=>
  (x a o e).stay (fun b u _ q=>k b u q) (fun _ q=>q) fun _ _ q=>q
theorem HOk.laid (x:HOk P w H h) (k:∀ b u,h.get? b=some u->h'.get? b=some u) (hp:h.objs.size<=a) (new:ObjOk P w (upd H a o) h' a o):HOk P w (upd H a o) h':=fun b u e=>by
  have hn:=x.fresh hp
  by_cases hb:b=a
  · subst hb;rw [upd_same] at e;cases e;exact new
  · rw [upd_ne hb] at e
    exact (x b u e).stay (fun c v _ q=>k c v q) (fun c q=>by rw [upd_ne (ne_of_none q hn)];exact q) fun c xs q=>by rw [upd_ne (ne_of_none q hn)];exact q
end
def Rd (H:Hp) (a:Addr) (u:HO):Prop:=H a=some u\/∃ o,H a=some (.frz o u)
theorem Rd.ok {P:Program} {w:World} {H:Hp} {h:Heap} {a:Addr} {u:HO} (r:Rd H a u) (x:HOk P w H h):ObjOk P w H h a u:=by
  rcases r with r | ⟨o,r⟩
  · exact x a u r
  · obtain ⟨_,q⟩:=x a _ r
    exact q
def Mut:Option HO->Prop
  | some (.lst _)=>True
  | some (.dK _)=>True
  | some (.dT _)=>True
  | some (.set _ _)=>True
  | some (.ins _ _ _)=>True
  | some (.ext _)=>True
  | _=>False
section
variable {P:Program} {w:World} {H:Hp} {h h':Heap} {x e:Addr} {o':HO}
theorem HOk.write (ok:HOk P w H h) (mu:Mut (H x)) (he:e=x\/H e=some (.own x)) (k:∀ b u,b ≠ e->h.get? b=some u->h'.get? b=some u) (heo:∃ u,h'.get? e=some u)
    (new:ObjOk P w (upd H x o') h' x o'):HOk P w (upd H x o') h':=fun b u q=>by
  have nown:∀ c y,H c=some (.own y)->c ≠ x:=fun c y r z=>by subst z;rw [r] at mu;exact mu
  have ntup:∀ c xs,H c=some (.tup xs)->c ≠ x:=fun c xs r z=>by subst z;rw [r] at mu;exact mu
  by_cases hb:b=x
  · subst hb;rw [upd_same] at q;cases q;exact new
  · rw [upd_ne hb] at q
    by_cases hbe:b=e
    · have q':H b=some (.own x):=by
        rcases he with z | z
        · exact absurd (hbe.trans z) hb
        · rw [hbe];exact z
      rw [q] at q';cases q'
      obtain ⟨v,hv⟩:=heo
      exact ⟨v,by rw [hbe];exact hv⟩
    · refine (ok b u q).stay (fun c v hc r=>k c v ?_ r) (fun c r=>by rw [upd_ne (nown c b r)];exact r) fun c xs r=>by rw [upd_ne (ntup c xs r)];exact r
      rcases hc with rfl | hc
      · exact hbe
      · rintro rfl
        rcases he with z | z
        · exact nown c b hc z
        · rw [hc] at z;cases z;exact hb rfl
end
structure Un (fs ex:List Addr) (H H':Hp) (h h':Heap):Prop where
  keep:∀ b o,h.get? b=some o->H b=none->b ∉ fs->b ∉ ex->h'.get? b=some o
  slot:∀ b o,h.get? b=some o->H b=none->b ∈ fs->b ∉ ex->∃ sl,h'.get? b=some { o with slots:=sl }
  free:∀ b o,h.get? b=some o->H b=none->b ∉ ex->H' b=none
  there:∀ b o,h.get? b=some o->b ∉ ex->∃ o',h'.get? b=some o'
  tups:∀ b xs,H b=some (.tup xs)->H' b=some (.tup xs)
  frzs:∀ b o u,H b=some (.frz o u)->H' b=some (.frz o u)
  tbls:∀ b ps,H b=some (.tbl ps)->∃ more,H' b=some (.tbl (ps++more))
section
variable {fs fs' ex ex':List Addr} {H H1 H2:Hp} {h h1 h2 h':Heap} {a x e:Addr} {o:HO}
theorem Un.any (u:Un fs ex H H1 h h1) {b:Addr} {ob:Obj} (q:h.get? b=some ob) (n:H b=none) (hx:b ∉ ex):∃ sl,h1.get? b=some { ob with slots:=sl }:=by
  by_cases hb:b ∈ fs
  · exact u.slot b ob q n hb hx
  · exact ⟨ob.slots,u.keep b ob q n hb hx⟩
theorem Un.kept (k:∀ b u,h.get? b=some u->h'.get? b=some u):Un fs ex H H h h':=
  ⟨fun b ob q _ _ _=>k b ob q,fun b ob q _ _ _=>⟨ob.slots,k b ob q⟩,fun _ _ _ n _=>n,fun b ob q _=>⟨ob,k b ob q⟩,fun _ _ q=>q,fun _ _ _ q=>q,fun _ ps q=>⟨#[],by rw [q];simp⟩⟩
theorem Un.refl:Un fs ex H H h h:=Un.kept fun _ _ q=>q
theorem Un.laid (k:∀ b u,h.get? b=some u->h'.get? b=some u) (hp:h.objs.size<=a) (hn:H a=none):Un fs ex H (upd H a o) h h' where
  keep:=fun b u q _ _ _=>k b u q
  slot:=fun b u q _ _ _=>⟨u.slots,k b u q⟩
  free:=fun b u q n _=>by rw [upd_ne (Nat.ne_of_lt (Nat.lt_of_lt_of_le (Heap.lt_size q) hp))];exact n
  there:=fun b u q _=>⟨u,k b u q⟩
  tups:=fun b xs q=>by rw [upd_ne (ne_of_none q hn)];exact q
  frzs:=fun b u xs q=>by rw [upd_ne (ne_of_none q hn)];exact q
  tbls:=fun b ps q=>⟨#[],by rw [upd_ne (ne_of_none q hn),q];simp⟩
theorem Un.write (mu:Mut (H x)) (he:e=x\/H e=some (.own x)) (k:∀ b u,b ≠ e->h.get? b=some u->h'.get? b=some u) (heo:∃ u,h'.get? e=some u):Un fs ex H (upd H x o) h h':=by
  have hx:∀ b,H b=none->b ≠ x:=fun b n z=>by subst z;rw [n] at mu;exact mu
  have hb:∀ b,H b=none->b ≠ e:=fun b n z=>by
    subst z
    rcases he with r | r
    · exact hx b n r
    · rw [n] at r;cases r
  have hm:∀ b u,H b=some u->¬ Mut (some u)->b ≠ x:=fun b u q nm z=>by subst z;rw [q] at mu;exact nm mu
  refine ⟨fun b u q n _ _=>k b u (hb b n) q,fun b u q n _ _=>⟨u.slots,k b u (hb b n) q⟩,fun b u q n _=>by rw [upd_ne (hx b n)];exact n,fun b u q _=>?_,
    fun b xs q=>by rw [upd_ne (hm b _ q fun z=>z)];exact q,fun b u xs q=>by rw [upd_ne (hm b _ q fun z=>z)];exact q,fun b ps q=>⟨#[],by rw [upd_ne (hm b _ q fun z=>z),q];simp⟩⟩
  by_cases hbe:b=e
  · subst hbe;exact heo
  · exact ⟨u,k b u hbe q⟩
end
def trk (h:Heap) (H:Hp):List Addr:=(List.range h.objs.size).filter fun a=>(H a).isSome
def hidT (h:Heap) (H:Hp):Heap:=PySem.W.hideAll h (trk h H)
theorem hidT_size (h:Heap) (H:Hp):(hidT h H).objs.size=h.objs.size:=PySem.W.hideAll_size _ _
theorem hidT_get {h:Heap} {H:Hp} {b:Addr} {o:Obj} (e:h.get? b=some o) (n:H b=none):(hidT h H).get? b=some o:=
  PySem.W.hideAll_get _ e fun hm=>by
    have q:(H b).isSome=true:=(List.mem_filter.mp hm).2
    rw [n] at q;simp at q
theorem of_hidT {h:Heap} {H:Hp} {b:Addr} {o:Obj} (e:(hidT h H).get? b=some o):h.get? b=some o/\H b=none:=by
  have e':h.get? b=some o:=PySem.W.of_hideAll (trk h H) e
  refine ⟨e',?_⟩
  cases q:H b with
  | none=>rfl
  | some x=>
    have hm:b ∈ trk h H:=List.mem_filter.mpr ⟨List.mem_range.mpr (Heap.lt_size e'),by simp [q]⟩
    have z:(hidT h H).get? b=none:=PySem.W.hideAll_none (trk h H) hm
    rw [z] at e;cases e
end L2
namespace L2
open PySem PySem.Spec PyProof.Rows
structure Mod (K:PySem.W.Frag) (mg:Str->Option Value) (base:Heap):Prop where
  kin:K.In base
  glob:base.Ns mainGlobals mg
  blt:∃ mb,base.Ns builtinsNs mb/\∀ x:Str,x ≠ "__name__"->mb x=bootBuiltins x
  nolimit:base.NoLimit
structure Cx where
  prog:Program
  w:World
  K:PySem.W.Frag
  mg:Str->Option Value
  base:Heap
  A:Around
  N:List Str
  s_0:Shared
  H_0:Hp
  env:Env
  outer:List Env
  stack:List Env
  ex:List Addr
  fn:Str->Bool
  calm:Bool
  pn:List (Addr × Obj)
  xe:Value->Shared->Prop
def frs (l:List Env):List Addr:=l.filterMap (·.frame)
abbrev Cx.fs (X:Cx):List Addr:=frs X.outer
def Vis (sc:Scope) (x:Str):Prop:=sc.names.lookup x=some .local\/sc.names.lookup x=some .cell\/sc.names.lookup x=some .free
def Loc (sc:Scope) (x:Str):Prop:=sc.names.lookup x=some .local\/sc.names.lookup x=some .cell
def Look (env:Env) (h:Heap) (m:Str->Option Value) (x:Str) (u:Value):Prop:=
  (env.kindOf x=some .local/\m x=some u)\/((env.kindOf x=some .cell\/env.kindOf x=some .free)/\∃ c,env.cells.lookup x=some c/\h.IsCell c (some u))
structure Cx.Ok (X:Cx):Prop where
  mod:Mod X.K X.mg X.base
  kind:X.env.scope.kind=.function
  glob:X.env.globals=mainGlobals
  blt:X.env.builtins=builtinsNs
  above:X.s_0.heap.objs.size<=X.env.locals
  inj:∀ x y c,X.env.cells.lookup x=some c->X.env.cells.lookup y=some c->x=y
  has:∀ x,(X.env.kindOf x=some .cell\/X.env.kindOf x=some .free)->∃ c,X.env.cells.lookup x=some c
  cab:∀ x c,X.fn x=true->X.env.cells.lookup x=some c->X.s_0.heap.objs.size<=c
  hd:X.calm=true->X.A.handled=none
  frames:X.A.frames=some X.stack
  stk:X.stack=X.outer\/(X.stack=X.env::X.outer/\X.env.frame=some X.env.locals)
  exf:∀ b ∈ X.ex,b ≠ X.env.locals/\∀ x c,X.env.cells.lookup x=some c->c ≠ b
  bs:∀ b o,X.base.get? b=some o->X.s_0.heap.get? b=some o/\X.H_0 b=none
  bsz:X.base.objs.size<=X.s_0.heap.objs.size
  noex:∀ b o,X.base.get? b=some o->b ∉ X.ex
  exfs:∀ b ∈ X.ex,b ∉ X.fs
  funs:X.s_0.heap.FunFrames X.base X.outer
  frf:∀ b ∈ X.fs,X.H_0 b=none
structure Inv (X:Cx) (pins:List (Addr × Obj)) (σ:List (Option V)) (H:Hp) (s:Shared):Prop where
  ok:X.Ok
  os:s.os=X.s_0.os
  bare:AllBare s.gens
  base:Un X.fs X.ex X.H_0 H X.s_0.heap s.heap
  loc:∃ m,s.heap.Ns X.env.locals m/\∀ (i:Nat) (x:Str) (v:V),X.N[i]?=some x->σ[i]?=some (some v)->Vis X.env.scope x->∃ u,RelV v u/\Look X.env s.heap m x u
  cell:∀ x c,X.env.cells.lookup x=some c->∃ v,s.heap.IsCell c v
  free:H X.env.locals=none
  freeC:∀ x c,X.env.cells.lookup x=some c->H c=none
  pin:∀ p ∈ X.pn++pins,s.heap.get? p.1=some p.2/\H p.1=none/\p.1 ≠ X.env.locals/\p.1 ∉ X.fs/\∀ v,p.2.data ≠ .cell v
  hok:HOk X.prog X.w H s.heap
  len:σ.length=X.N.length
section
variable {X:Cx} {pins:List (Addr × Obj)} {σ:List (Option V)} {H H':Hp} {s:Shared} {h':Heap}
theorem Cx.Ok.nofr (ok:X.Ok) {b:Addr} {o:Obj} (e:X.base.get? b=some o):b ∉ X.fs:=fun hb=>by
  have:=(ok.funs.mem hb).1
  rw [e] at this;cases this
theorem Inv.bs (I:Inv X pins σ H s):∀ b o,X.base.get? b=some o->s.heap.get? b=some o/\H b=none:=fun b o e=>
  ⟨I.base.keep b o (I.ok.bs b o e).1 (I.ok.bs b o e).2 (I.ok.nofr e) (I.ok.noex b o e),I.base.free b o (I.ok.bs b o e).1 (I.ok.bs b o e).2 (I.ok.noex b o e)⟩
theorem Inv.bk (I:Inv X pins σ H s):∀ b o,X.base.get? b=some o->s.heap.get? b=some o:=fun b o e=>(I.bs b o e).1
theorem Inv.mod (I:Inv X pins σ H s):Mod X.K X.mg X.base:=I.ok.mod
theorem Inv.kIn (I:Inv X pins σ H s):X.K.In s.heap:=I.ok.mod.kin.keeps I.bk
theorem Inv.lt (I:Inv X pins σ H s):X.env.locals < s.heap.objs.size:=let ⟨_,hn,_⟩:=I.loc;hn.lt
theorem Inv.sz (I:Inv X pins σ H s):X.s_0.heap.objs.size<=s.heap.objs.size:=Nat.le_trans I.ok.above (Nat.le_of_lt I.lt)
theorem Inv.nofs (I:Inv X pins σ H s) {a:Addr} (h:s.heap.objs.size<=a):a ∉ X.fs:=fun hb=>by
  obtain ⟨_,o,ho,_⟩:=I.ok.funs.mem hb
  exact absurd (Nat.lt_of_lt_of_le (Heap.lt_size ho) (Nat.le_trans I.sz h)) (Nat.lt_irrefl _)
theorem Inv.cne (I:Inv X pins σ H s):∀ x c,X.env.cells.lookup x=some c->c ≠ X.env.locals:=fun x c e z=>by
  obtain ⟨v,o,ho,hd⟩:=I.cell x c e
  obtain ⟨m,⟨o',es,ep,ho',hd',_⟩,_⟩:=I.loc
  rw [z,ho'] at ho;cases ho;rw [hd'] at hd;cases hd
theorem Inv.funs (I:Inv X pins σ H s):s.heap.FunFrames X.base X.outer:=by
  have all:∀ (l:List Env),(∀ b ∈ frs l,b ∈ X.fs)->X.s_0.heap.FunFrames X.base l->s.heap.FunFrames X.base l:=by
    intro l
    induction l with
    | nil=>intro _ _;trivial
    | cons env r ih=>
      intro hs hl
      obtain ⟨hk,⟨L,o,hf,hn,ho,hd⟩,hr⟩:=hl
      have hL:L ∈ X.fs:=hs L (by unfold frs;rw [List.filterMap_cons,hf];exact List.mem_cons_self)
      obtain ⟨sl,e⟩:=I.base.slot L o ho (I.ok.frf L hL) hL fun z=>I.ok.exfs L z hL
      exact ⟨hk,⟨L,_,hf,hn,e,hd⟩,ih (fun b hb=>hs b (by unfold frs;rw [List.filterMap_cons,hf];exact List.mem_cons_of_mem _ hb)) hr⟩
  exact all X.outer (fun _ hb=>hb) I.ok.funs
theorem Inv.stack (I:Inv X pins σ H s):s.heap.FunFrames X.base X.stack:=by
  rcases I.ok.stk with e | ⟨e,hf⟩
  · rw [e];exact I.funs
  · rw [e]
    obtain ⟨m,hn,_⟩:=I.loc
    refine .cons (by rw [I.ok.kind];decide) hf hn ?_ I.funs
    exact Heap.get?_none_of_le (Nat.le_trans I.ok.bsz I.ok.above)
theorem Inv.stkSub (I:Inv X pins σ H s):∀ b ∈ frs X.stack,b ∈ X.env.locals::X.fs:=fun b hb=>by
  rcases I.ok.stk with e | ⟨e,hf⟩
  · rw [e] at hb;exact List.mem_cons_of_mem _ hb
  · rw [e] at hb
    unfold frs at hb
    rw [List.filterMap_cons,hf] at hb
    exact hb
theorem Inv.stkFree (I:Inv X pins σ H s):∀ b ∈ frs X.stack,H b=none:=fun b hb=>by
  rcases List.mem_cons.mp (I.stkSub b hb) with e | hb
  · rw [e];exact I.free
  · obtain ⟨_,o,ho,_⟩:=I.ok.funs.mem hb
    exact I.base.free b o ho (I.ok.frf b hb) fun z=>I.ok.exfs b z hb
theorem Inv.step {g':Array GenState} {t':Nat} {d':Drawn} {ch:List Addr} (I:Inv X pins σ H s)
    (hch:∀ b ∈ ch,(b ∈ X.ex\/X.s_0.heap.objs.size<=b)/\b ≠ X.env.locals/\(∀ x c,X.env.cells.lookup x=some c->c ≠ b)/\∀ p ∈ X.pn++pins,p.1 ≠ b)
    (keep:∀ b o,b ≠ X.env.locals->b ∉ X.fs->b ∉ ch->s.heap.get? b=some o->H b=none->h'.get? b=some o)
    (slot:∀ b o,b ≠ X.env.locals->b ∈ X.fs->b ∉ ch->s.heap.get? b=some o->H b=none->∃ sl,h'.get? b=some { o with slots:=sl }) (free:∀ b o,b ∉ ch->s.heap.get? b=some o->H b=none->H' b=none)
    (there:∀ b o,b ∉ ch->s.heap.get? b=some o->∃ o',h'.get? b=some o')
    (tups:∀ b xs,H b=some (.tup xs)->H' b=some (.tup xs)) (frzs:∀ b o u,H b=some (.frz o u)->H' b=some (.frz o u)) (tbls:∀ b ps,H b=some (.tbl ps)->∃ more,H' b=some (.tbl (ps++more)))
    (ns:∀ m,s.heap.Ns X.env.locals m->h'.Ns X.env.locals m) (hok:HOk X.prog X.w H' h') (hg:AllBare g'):
    Inv X pins σ H' { s with heap:=h',gens:=g',drawn:=d',toks:=t' }:=by
  have neL:∀ b o,X.s_0.heap.get? b=some o->b ≠ X.env.locals:=fun b o e=>Nat.ne_of_lt (Nat.lt_of_lt_of_le (Heap.lt_size e) I.ok.above)
  have neC:∀ b o,X.s_0.heap.get? b=some o->b ∉ X.ex->b ∉ ch:=fun b o e hx hb=>by
    rcases (hch b hb).1 with z | z
    · exact hx z
    · exact absurd (Nat.lt_of_lt_of_le (Heap.lt_size e) z) (Nat.lt_irrefl _)
  have cellK:∀ x c,X.env.cells.lookup x=some c->∀ v,s.heap.IsCell c v->h'.IsCell c v:=fun x c e v ⟨o,ho,hd⟩=>by
    have nch:c ∉ ch:=fun z=>(hch c z).2.2.1 x c e rfl
    by_cases hc:c ∈ X.fs
    · obtain ⟨sl,q⟩:=slot c o (I.cne x c e) hc nch ho (I.freeC x c e)
      exact ⟨_,q,hd⟩
    · exact ⟨o,keep c o (I.cne x c e) hc nch ho (I.freeC x c e),hd⟩
  refine ⟨I.ok,I.os,hg,⟨fun b o e n hb hx=>?_,fun b o e n hb hx=>?_,fun b o e n hx=>?_,fun b o e hx=>?_,fun b xs e=>tups b xs (I.base.tups b xs e),fun b o xs e=>frzs b o xs (I.base.frzs b o xs e),fun b ps e=>?_⟩,?_,fun x c e=>?_,?_,fun x c e=>?_,fun p hp=>?_,hok,I.len⟩
  · exact keep b o (neL b o e) hb (neC b o e hx) (I.base.keep b o e n hb hx) (I.base.free b o e n hx)
  · obtain ⟨sl,e1⟩:=I.base.slot b o e n hb hx
    obtain ⟨sl',e2⟩:=slot b _ (neL b o e) hb (neC b o e hx) e1 (I.base.free b o e n hx)
    exact ⟨sl',e2⟩
  · obtain ⟨o',e1⟩:=I.base.there b o e hx
    exact free b o' (neC b o e hx) e1 (I.base.free b o e n hx)
  · obtain ⟨o',e1⟩:=I.base.there b o e hx
    exact there b o' (neC b o e hx) e1
  · obtain ⟨m1,e1⟩:=I.base.tbls b ps e
    obtain ⟨m2,e2⟩:=tbls b _ e1
    exact ⟨m1++m2,by rw [e2,Array.append_assoc]⟩
  · obtain ⟨m,hn,hl⟩:=I.loc
    refine ⟨m,ns m hn,fun i x v e1 e2 e3=>?_⟩
    obtain ⟨u,r,l⟩:=hl i x v e1 e2 e3
    refine ⟨u,r,?_⟩
    rcases l with l | ⟨k,c,e,z⟩
    · exact .inl l
    · exact .inr ⟨k,c,e,cellK x c e _ z⟩
  · obtain ⟨v,z⟩:=I.cell x c e
    exact ⟨v,cellK x c e v z⟩
  · obtain ⟨m,⟨o,_,_,ho,_⟩,_⟩:=I.loc
    exact free _ o (fun z=>(hch _ z).2.1 rfl) ho I.free
  · obtain ⟨v,o,ho,hd⟩:=I.cell x c e
    exact free c o (fun z=>(hch c z).2.2.1 x c e rfl) ho (I.freeC x c e)
  · obtain ⟨e,n,ne,nf,d⟩:=I.pin p hp
    have nch:p.1 ∉ ch:=fun z=>(hch p.1 z).2.2.2 p hp rfl
    exact ⟨keep p.1 p.2 ne nf nch e n,free p.1 p.2 nch e n,ne,nf,d⟩
theorem Inv.un {t':Nat} (I:Inv X pins σ H s) (u:Un X.fs [] H H' s.heap h') (hok:HOk X.prog X.w H' h'):Inv X pins σ H' { s with heap:=h',toks:=t' }:=by
  obtain ⟨m,⟨o,es,ep,ho,r⟩,_⟩:=id I.loc
  obtain ⟨sl,hL⟩:=u.any ho I.free (by simp)
  exact I.step (g':=s.gens) (d':=s.drawn) (ch:=[]) (fun _ z=>nomatch z) (fun b o _ hb _ e n=>u.keep b o e n hb (by simp)) (fun b o _ hb _ e n=>u.slot b o e n hb (by simp)) (fun b o _ e n=>u.free b o e n (by simp)) (fun b o _ e=>u.there b o e (by simp)) u.tups u.frzs u.tbls (fun m' hm=>by
    obtain ⟨o',es',ep',ho',r'⟩:=hm
    rw [ho] at ho';cases ho'
    exact ⟨_,es',ep',hL,r'⟩) hok I.bare
theorem Inv.call {g':Array GenState} {t':Nat} {d':Drawn} {ch:List Addr} (I:Inv X pins σ H s) (u:Un (frs X.stack) ch H H' s.heap h') (hok:HOk X.prog X.w H' h') (hg:AllBare g')
    (hch:∀ b ∈ ch,(b ∈ X.ex\/X.s_0.heap.objs.size<=b)/\b ≠ X.env.locals/\(∀ x c,X.env.cells.lookup x=some c->c ≠ b)/\∀ p ∈ X.pn++pins,p.1 ≠ b):
    Inv X pins σ H' { s with heap:=h',gens:=g',drawn:=d',toks:=t' }:=by
  obtain ⟨m,⟨o,es,ep,ho,r⟩,_⟩:=id I.loc
  obtain ⟨sl,hL⟩:=u.any ho I.free fun z=>(hch _ z).2.1 rfl
  exact I.step (ch:=ch) hch (fun b o hL hb hc e n=>u.keep b o e n (fun z=>(List.mem_cons.mp (I.stkSub b z)).elim hL hb) hc) (fun b o _ _ hc e n=>u.any e n hc) (fun b o hc e n=>u.free b o e n hc) (fun b o hc e=>u.there b o e hc) u.tups u.frzs u.tbls (fun m' hm=>by
    obtain ⟨o',es',ep',ho',r'⟩:=hm
    rw [ho] at ho';cases ho'
    exact ⟨_,es',ep',hL,r'⟩) hok hg
theorem Inv.turned {t':Nat} {it:Addr} (I:Inv X pins σ H s) (k:∀ b o,b ≠ it->s.heap.get? b=some o->h'.get? b=some o) (hn:H it=none) (hL:it ≠ X.env.locals)
    (h1:it ∈ X.ex\/X.s_0.heap.objs.size<=it) (h2:∀ x c,X.env.cells.lookup x=some c->c ≠ it) (h3:∀ p ∈ X.pn++pins,p.1 ≠ it):Inv X pins σ H { s with heap:=h',toks:=t' }:=by
  have nit:∀ b u,H b=some u->b ≠ it:=fun b u e z=>by rw [z,hn] at e;cases e
  refine I.step (g':=s.gens) (d':=s.drawn) (ch:=[it]) (fun b hb=>?_) (fun b o _ _ hc e _=>k b o (fun z=>hc (by simp [z])) e) (fun b o _ _ hc e _=>⟨o.slots,k b o (fun z=>hc (by simp [z])) e⟩) (fun _ _ _ _ n=>n)
    (fun b o hc e=>⟨o,k b o (fun z=>hc (by simp [z])) e⟩) (fun _ _ e=>e) (fun _ _ _ e=>e) (fun b ps e=>⟨#[],by rw [e];simp⟩) (fun m hm=>?_) (fun b u e=>?_) I.bare
  · have e:b=it:=by simpa using hb
    subst e
    exact ⟨h1,hL,h2,h3⟩
  · obtain ⟨o,es,ep,ho,r⟩:=hm
    exact ⟨o,es,ep,k _ o (Ne.symm hL) ho,r⟩
  · refine (I.hok b u e).stay (fun c v hc q=>k c v ?_ q) (fun _ q=>q) fun _ _ q=>q
    rcases hc with z | z
    · rw [z];exact nit b u e
    · exact nit c _ z
theorem Inv.tok (I:Inv X pins σ H s) (t:Nat):Inv X pins σ H { s with toks:=t }:=I.un (h':=s.heap) (t':=t) Un.refl I.hok
theorem Inv.kept {t':Nat} (I:Inv X pins σ H s) (k:∀ b u,s.heap.get? b=some u->h'.get? b=some u):Inv X pins σ H { s with heap:=h',toks:=t' }:=I.un (Un.kept k) (I.hok.kept k)
theorem Inv.laid {a:Addr} {o:HO} {t':Nat} (I:Inv X pins σ H s) (k:∀ b u,s.heap.get? b=some u->h'.get? b=some u) (hp:s.heap.objs.size<=a) (new:ObjOk X.prog X.w (upd H a o) h' a o):
    Inv X pins σ (upd H a o) { s with heap:=h',toks:=t' }:=I.un (Un.laid k hp (I.hok.fresh hp)) (I.hok.laid k hp new)
theorem Inv.write {x e:Addr} {o:HO} {t':Nat} (I:Inv X pins σ H s) (mu:Mut (H x)) (he:e=x\/H e=some (.own x)) (k:∀ b u,b ≠ e->s.heap.get? b=some u->h'.get? b=some u) (heo:∃ u,h'.get? e=some u)
    (new:ObjOk X.prog X.w (upd H x o) h' x o):Inv X pins σ (upd H x o) { s with heap:=h',toks:=t' }:=I.un (Un.write mu he k heo) (I.hok.write mu he k heo new)
theorem Inv.weak {σ':List (Option V)} (I:Inv X pins σ H s) (hl:σ'.length=σ.length) (w:∀ (i:Nat) v,σ'[i]?=some (some v)->σ[i]?=some (some v)):Inv X pins σ' H s:=
  ⟨I.ok,I.os,I.bare,I.base,let ⟨m,hn,hl'⟩:=I.loc;⟨m,hn,fun i x v e1 e2 e3=>hl' i x v e1 (w i v e2) e3⟩,I.cell,I.free,I.freeC,I.pin,I.hok,hl.trans I.len⟩
theorem Inv.pins_of {pins':List (Addr × Obj)} (I:Inv X pins σ H s) (h:∀ p ∈ pins',s.heap.get? p.1=some p.2/\H p.1=none/\p.1 ≠ X.env.locals/\p.1 ∉ X.fs/\∀ v,p.2.data ≠ .cell v):Inv X pins' σ H s:=
  ⟨I.ok,I.os,I.bare,I.base,I.loc,I.cell,I.free,I.freeC,fun p hp=>(List.mem_append.mp hp).elim (fun z=>I.pin p (List.mem_append_left _ z)) (h p),I.hok,I.len⟩
theorem nodup_ix {N:List Str} (hN:N.Nodup) {i j:Nat} {x:Str} (a:N[i]?=some x) (b:N[j]?=some x):i=j:=by
  obtain ⟨h1,e1⟩:=List.getElem?_eq_some_iff.mp a
  obtain ⟨h2,e2⟩:=List.getElem?_eq_some_iff.mp b
  exact (List.getElem_inj hN).mp (e1.trans e2.symm)
theorem store_ok2 {M:Model} {A:Around} {E:Value->Shared->Prop} {i:Nat} {x:Str} {v:V} {u:Value} {Q:Unit->Shared->Prop} (I:Inv X pins σ H s) (hN:X.N.Nodup) (hi:X.N[i]?=some x) (hx:Loc X.env.scope x) (r:RelV v u)
    (h:∀ s',Inv X pins (σ.set i (some v)) H s'->(∃ a,Heap.SameBut a s.heap s'.heap/\(a=X.env.locals\/X.env.cells.lookup x=some a))->Q () s') (hf:X.fn x=true\/X.env.scope.names.lookup x=some .local:=by first | exact .inl rfl | exact .inr rfl | assumption):wpAny M A (storeName X.env x u) Q E s:=by
  obtain ⟨m,hn,hl⟩:=id I.loc
  have hcls:(X.env.scope.kind == .class || (X.env.scope.kind == .module && X.env.locals != X.env.globals))=false:=by rw [I.ok.kind];rfl
  have hiσ:i < σ.length:=by rw [I.len];exact (List.getElem?_eq_some_iff.mp hi).1
  have cne:=I.cne
  have tracked:∀ {a:Addr} {h':Heap},(∃ o,s.heap.get? a=some o/\H a=none)->Heap.SameBut a s.heap h'->HOk X.prog X.w H h':=fun {a h'} ha hs b ob e=>by
    obtain ⟨_,_,hfree⟩:=ha
    refine (I.hok b ob e).stay (fun c w' hc q=>(hs.2 c ?_).trans q) (fun _ q=>q) fun _ _ q=>q
    rintro rfl
    rcases hc with rfl | hc
    · rw [hfree] at e;cases e
    · rw [hfree] at hc;cases hc
  rcases hx with hk | hk
  · refine wpAny_storeName_local hk hn (fun h' hn' hs=>?_) hcls
    obtain ⟨oL,_,_,hoL,_⟩:=id hn
    refine h _ ⟨I.ok,I.os,I.bare,⟨fun b o e n hb hx=>?_,fun b o e n hb hx=>?_,I.base.free,fun b o e hx=>?_,I.base.tups,I.base.frzs,I.base.tbls⟩,⟨_,hn',fun j y v' e1 e2 e3=>?_⟩,fun y c e=>?_,I.free,I.freeC,fun p hp=>?_,tracked ⟨oL,hoL,I.free⟩ hs,by simpa using I.len⟩ ⟨_,hs,.inl rfl⟩
    · exact (hs.2 b (Nat.ne_of_lt (Nat.lt_of_lt_of_le (Heap.lt_size e) I.ok.above))).trans (I.base.keep b o e n hb hx)
    · obtain ⟨sl,e1⟩:=I.base.slot b o e n hb hx
      exact ⟨sl,(hs.2 b (Nat.ne_of_lt (Nat.lt_of_lt_of_le (Heap.lt_size e) I.ok.above))).trans e1⟩
    · obtain ⟨o',e1⟩:=I.base.there b o e hx
      exact ⟨o',(hs.2 b (Nat.ne_of_lt (Nat.lt_of_lt_of_le (Heap.lt_size e) I.ok.above))).trans e1⟩
    · by_cases hj:j=i
      · subst hj
        rw [hi] at e1;cases e1
        rw [List.getElem?_set_self hiσ] at e2
        cases e2
        exact ⟨u,r,.inl ⟨hk,by simp⟩⟩
      · rw [List.getElem?_set_ne (Ne.symm hj)] at e2
        obtain ⟨u',r',q⟩:=hl j y v' e1 e2 e3
        refine ⟨u',r',?_⟩
        rcases q with ⟨k,e⟩ | ⟨k,c,e,z⟩
        · refine .inl ⟨k,?_⟩
          have:y ≠ x:=fun e=>hj (nodup_ix hN e1 (e ▸ hi))
          simp [this,e]
        · exact .inr ⟨k,c,e,z.sameBut hs (cne y c e)⟩
    · obtain ⟨w',z⟩:=I.cell y c e
      exact ⟨w',z.sameBut hs (cne y c e)⟩
    · obtain ⟨e,n,ne,nf,d⟩:=I.pin p hp
      exact ⟨(hs.2 p.1 ne).trans e,n,ne,nf,d⟩
  · have hfn:X.fn x=true:=by
      rcases hf with z | z
      · exact z
      · rw [z] at hk;cases hk
    obtain ⟨c,hc⟩:=I.ok.has x (.inl hk)
    obtain ⟨w',z⟩:=I.cell x c hc
    refine wpAny_storeName_cell I.ok.kind hk hc z (fun h' hc' hs=>?_)
    obtain ⟨oc,hoc,hocd⟩:=id z
    refine h { s with heap:=h' } ⟨I.ok,I.os,I.bare,⟨fun b o e n hb hx=>?_,fun b o e n hb hx=>?_,I.base.free,fun b o e hx=>?_,I.base.tups,I.base.frzs,I.base.tbls⟩,⟨m,hn.sameBut hs (Ne.symm (cne x c hc)),fun j y v' e1 e2 e3=>?_⟩,fun y c' e=>?_,I.free,I.freeC,fun p hp=>?_,tracked ⟨oc,hoc,I.freeC x c hc⟩ hs,by simpa using I.len⟩ ⟨c,hs,.inr hc⟩
    · exact (hs.2 b (Nat.ne_of_lt (Nat.lt_of_lt_of_le (Heap.lt_size e) (I.ok.cab x c hfn hc)))).trans (I.base.keep b o e n hb hx)
    · obtain ⟨sl,e1⟩:=I.base.slot b o e n hb hx
      exact ⟨sl,(hs.2 b (Nat.ne_of_lt (Nat.lt_of_lt_of_le (Heap.lt_size e) (I.ok.cab x c hfn hc)))).trans e1⟩
    · obtain ⟨o',e1⟩:=I.base.there b o e hx
      exact ⟨o',(hs.2 b (Nat.ne_of_lt (Nat.lt_of_lt_of_le (Heap.lt_size e) (I.ok.cab x c hfn hc)))).trans e1⟩
    · by_cases hj:j=i
      · subst hj
        rw [hi] at e1;cases e1
        rw [List.getElem?_set_self hiσ] at e2
        cases e2
        exact ⟨u,r,.inr ⟨.inl hk,c,hc,hc'⟩⟩
      · rw [List.getElem?_set_ne (Ne.symm hj)] at e2
        obtain ⟨u',r',q⟩:=hl j y v' e1 e2 e3
        refine ⟨u',r',?_⟩
        rcases q with q | ⟨k,c',e,z'⟩
        · exact .inl q
        · refine .inr ⟨k,c',e,z'.sameBut hs ?_⟩
          rintro rfl
          exact hj (nodup_ix hN e1 (I.ok.inj _ _ _ e hc ▸ hi))
    · by_cases hcc:c'=c
      · subst hcc;exact ⟨_,hc'⟩
      · obtain ⟨w2,z2⟩:=I.cell y c' e
        exact ⟨w2,z2.sameBut hs hcc⟩
    · obtain ⟨e,n,ne,nf,d⟩:=I.pin p hp
      refine ⟨(hs.2 p.1 ?_).trans e,n,ne,nf,d⟩
      intro q
      rw [q,hoc] at e
      have q':oc=p.2:=Option.some.inj e
      exact d w' (by rw [<- q'];exact hocd)
theorem store_ok {M:Model} {A:Around} {E:Value->Shared->Prop} {i:Nat} {x:Str} {v:V} {u:Value} {Q:Unit->Shared->Prop} (I:Inv X pins σ H s) (hN:X.N.Nodup) (hi:X.N[i]?=some x) (hx:Loc X.env.scope x) (r:RelV v u)
    (h:∀ s',Inv X pins (σ.set i (some v)) H s'->Q () s') (hf:X.fn x=true\/X.env.scope.names.lookup x=some .local:=by first | exact .inl rfl | exact .inr rfl | assumption):wpAny M A (storeName X.env x u) Q E s:=
  store_ok2 I hN hi hx r (fun s' I' _=>h s' I') hf
theorem Inv.call' {s':Shared} {ch:List Addr} (I:Inv X pins σ H s) (ho:s'.os=s.os) (u:Un (frs X.stack) ch H H' s.heap s'.heap) (hok:HOk X.prog X.w H' s'.heap) (hg:AllBare s'.gens)
    (hch:∀ b ∈ ch,(b ∈ X.ex\/X.s_0.heap.objs.size<=b)/\b ≠ X.env.locals/\(∀ x c,X.env.cells.lookup x=some c->c ≠ b)/\∀ p ∈ X.pn++pins,p.1 ≠ b):Inv X pins σ H' s':=by
  obtain ⟨h',g',d',t',o'⟩:=s'
  have e:o'=s.os:=ho
  subst e
  exact I.call (g':=g') (t':=t') (d':=d') u hok hg hch
end
abbrev XK:=Value->Option Addr->Hp->Prop
abbrev St:=List (Option V)
abbrev VK:=V->Hp->Prop
abbrev TE:=St->Hp->VK->Prop
abbrev TT:=St->Hp->(Bool->Hp->Prop)->Prop
abbrev TA:=St->Hp->(List V->Hp->Prop)->Prop
structure Ends where
  nx:St->Hp->Prop
  rt:VK
  bk:St->Hp->Prop:=fun _ _=>False
  ct:St->Hp->Prop:=fun _ _=>False
abbrev TS:=Ends->St->Hp->Prop
def EP (X:Cx) (pins:List (Addr × Obj)) (σ:St) (Q:VK) (u:Value) (s':Shared):Prop:=∃ v H',Inv X pins σ H' s'/\RelV v u/\Q v H'
def TP (X:Cx) (pins:List (Addr × Obj)) (σ:St) (Q:Bool->Hp->Prop) (b:Bool) (s':Shared):Prop:=∃ H',Inv X pins σ H' s'/\Q b H'
def AP (X:Cx) (pins:List (Addr × Obj)) (σ:St) (Q:List V->Hp->Prop) (us:List Value) (s':Shared):Prop:=∃ vs H',Inv X pins σ H' s'/\Vals vs us/\Q vs H'
def SP (X:Cx) (pins:List (Addr × Obj)) (D:Ends) (f:Flow) (s':Shared):Prop:=
  match f with
  | .next=>∃ σ' H',Inv X pins σ' H' s'/\D.nx σ' H'
  | .brk=>∃ σ' H',Inv X pins σ' H' s'/\D.bk σ' H'
  | .cont=>∃ σ' H',Inv X pins σ' H' s'/\D.ct σ' H'
  | .ret u=>∃ v σ' H',Inv X pins σ' H' s'/\RelV v u/\D.rt v H'
def PE (X:Cx) (e:Expr) (t:TE):Prop:=
  ∀ (pins:List (Addr × Obj)) (s:Shared) (σ:St) (H:Hp) (Q:VK),Inv X pins σ H s->t σ H Q->wpAny (model X.prog X.w) X.A (eval e X.env) (EP X pins σ Q) X.xe s
def PT (X:Cx) (e:Expr) (t:TT):Prop:=
  ∀ (pins:List (Addr × Obj)) (s:Shared) (σ:St) (H:Hp) (Q:Bool->Hp->Prop),Inv X pins σ H s->t σ H Q->wpAny (model X.prog X.w) X.A (isTrue e X.env (eval e X.env)) (TP X pins σ Q) X.xe s
def PW (X:Cx) (e:Expr) (t:TT):Prop:=
  ∀ (whole:Sem Value) (pins:List (Addr × Obj)) (s:Shared) (σ:St) (H:Hp) (Q:Bool->Hp->Prop),Inv X pins σ H s->t σ H Q->wpAny (model X.prog X.w) X.A (isTrue e X.env whole) (TP X pins σ Q) X.xe s
theorem PW.pt {X:Cx} {e:Expr} {t:TT} (h:PW X e t):PT X e t:=h _
def PA (X:Cx) (es:List Expr) (t:TA):Prop:=
  ∀ (pos:Pos) (pins:List (Addr × Obj)) (s:Shared) (σ:St) (H:Hp) (Q:List V->Hp->Prop),Inv X pins σ H s->t σ H Q->wpAny (model X.prog X.w) X.A (spliced (backTo pos (starEach es X.env))) (AP X pins σ Q) X.xe s
def PS (X:Cx) (st:Stmt) (t:TS):Prop:=
  ∀ (pins:List (Addr × Obj)) (s:Shared) (σ:St) (H:Hp) (D:Ends),Inv X pins σ H s->t D σ H->wpAny (model X.prog X.w) X.A (exec st X.env) (SP X pins D) X.xe s
def PSs (X:Cx) (st:List Stmt) (t:TS):Prop:=
  ∀ (pins:List (Addr × Obj)) (s:Shared) (σ:St) (H:Hp) (D:Ends),Inv X pins σ H s->t D σ H->wpAny (model X.prog X.w) X.A (execs st X.env) (SP X pins D) X.xe s
theorem thn {α:Type} {t:Sem α} {Q Q':α->Shared->Prop} {M:Model} {A:Around} {E:Value->Shared->Prop} {s:Shared} (h:wpAny M A t Q E s) (hQ:∀ a s,Q a s->Q' a s):wpAny M A t Q' E s:=wpAny_mono h hQ fun _ _ x=>x
end L2
namespace L2
open PySem PySem.Spec PyProof.Rows
section
variable {X:Cx}
def tVar (i:Nat):TE:=fun σ H Q=>∃ v,σ[i]?=some (some v)/\Q v H
def tC (v:V):TE:=fun _ H Q=>Q v H
theorem pe_var {i:Nat} {x:Str} {pos:Pos} (hN:X.N[i]?=some x) (hv:Vis X.env.scope x) (hd:(x == ("__debug__":Str))=false:=by decide) (hcd:(x == ("__classdict__":Str))=false:=by decide):PE X (.Name x pos) (tVar i):=by
  intro pins s σ H Q I h
  obtain ⟨v,e,h⟩:=h
  obtain ⟨m,hn,hl⟩:=I.loc
  obtain ⟨u,r,l⟩:=hl i x v hN e hv
  have fin:EP X pins σ Q u s:=⟨v,H,I,r,h⟩
  rcases l with ⟨hk,hm⟩ | ⟨hk,c,hc,hcell⟩
  · exact wpAny_Name (wpAny_loadName_local I.ok.kind hk hn hm fin) hd
  · rcases hk with hk | hk
    · exact wpAny_Name (wpAny_loadName_cell I.ok.kind hk hc hcell fin) hd
    · exact wpAny_Name (wpAny_loadName_free I.ok.kind hk hc hcell fin hcd) hd
theorem pe_int {i j pos}:PE X (.Constant (.int i) j pos) (tC (.int i)):=fun _ _ _ H _ I h=>wpAny_Constant_int ⟨.int i,H,I.tok _,⟨_,rfl⟩,h⟩
theorem pe_bl {b j pos}:PE X (.Constant (.bool b) j pos) (tC (.bl b)):=fun _ _ _ H _ I h=>Constant_bool ⟨.bl b,H,I,rfl,h⟩
theorem pe_non {j pos}:PE X (.Constant .none j pos) (tC .non):=fun _ _ _ H _ I h=>Constant_none ⟨.non,H,I,rfl,h⟩
theorem pe_str {x j pos}:PE X (.Constant (.str x) j pos) (tC (.str x)):=fun _ _ _ H _ I h=>Calls.Constant_str ⟨.str x,H,I.tok _,⟨_,rfl⟩,h⟩
def Gl (X:Cx) (x:Str):Prop:=X.env.kindOf x=some .globalImplicit
theorem ld_glob {E:Value->Shared->Prop} {pins:List (Addr × Obj)} {s:Shared} {σ:St} {H:Hp} {x:Str} {u:Value} {pos:Pos} {Q:Value->Shared->Prop} (I:Inv X pins σ H s) (hg:Gl X x) (hm:X.mg x=some u) (h:Q u s)
    (hd:(x == ("__debug__":Str))=false:=by decide):wpAny (model X.prog X.w) X.A (eval (.Name x pos) X.env) Q E s:=
  Calls.Name_function_global I.ok.kind hg (Calls.loadGlobal_global (by rw [I.ok.glob];exact I.mod.glob.keeps I.bk) hm h) hd
theorem ld_blt {E:Value->Shared->Prop} {pins:List (Addr × Obj)} {s:Shared} {σ:St} {H:Hp} {x:Str} {u:Value} {pos:Pos} {Q:Value->Shared->Prop} (I:Inv X pins σ H s) (hg:Gl X x) (hm:X.mg x=none) (hv:bootBuiltins x=some u) (h:Q u s)
    (hn:x ≠ "__name__":=by decide) (hd:(x == ("__debug__":Str))=false:=by decide):wpAny (model X.prog X.w) X.A (eval (.Name x pos) X.env) Q E s:=by
  obtain ⟨mb,h1,h2⟩:=I.mod.blt
  exact Calls.Name_function_global I.ok.kind hg (Calls.loadGlobal_builtin (by rw [I.ok.glob];exact I.mod.glob.keeps I.bk) hm (by rw [I.ok.blt];exact h1.keeps I.bk) ((h2 x hn).trans hv) h) hd
theorem pe_glob {x:Str} {v:V} {u:Value} {pos:Pos} (hg:Gl X x) (hm:X.mg x=some u) (r:RelV v u) (hd:(x == ("__debug__":Str))=false:=by decide):PE X (.Name x pos) (tC v):=
  fun _ _ _ H _ I h=>ld_glob I hg hm ⟨v,H,I,r,h⟩ hd
variable {a b:Expr} {ta tb:TE} {pos:Pos}
def PC (X:Cx) (op:CmpOp) (a b:Expr) (t:TE):Prop:=
  ∀ (pins:List (Addr × Obj)) (s:Shared) (σ:St) (H:Hp) (Q:VK),Inv X pins σ H s->t σ H Q->
    wpAny (model X.prog X.w) X.A (eval a X.env) (fun v s₁=>wpAny (model X.prog X.w) X.A (eval b X.env) (fun u s₂=>wpAny (model X.prog X.w) X.A (compareOp op v u) (EP X pins σ Q) X.xe s₂) X.xe s₁) X.xe s
def tB (t:TE):TT:=fun σ H Q=>t σ H fun x H1=>∃ c,x=.bl c/\Q c H1
theorem pt_cmp {op:CmpOp} {t:TE} (h:PC X op a b t) (h1:behindInMarks op b=false:=by first | exact nobehind _ (by decide) (by decide) | rfl):PT X (.Compare a [op] [b] pos) (tB t):=by
  intro pins s σ H Q I hw
  refine wpAny_isTrue_Compare1 (thn (h pins s σ H _ I hw) fun v s1 h1=>thn h1 fun u s2 h2=>thn h2 fun c s3 ⟨x,H1,I1,r1,q1⟩=>?_) h1
  obtain ⟨d,rfl,q⟩:=q1
  cases r1
  exact wpAny_truthy_bool ⟨H1,I1,q⟩
theorem pt_val {e:Expr} {t:TE} (h:PE X e t) (he:∀ whole,isTrue e X.env whole=(do let v ← whole;standAt e.pos;holding [v] (truthy v)):=by intro _;rfl):PT X e (tB t):=by
  intro pins s σ H Q I hw
  refine isTrue_plain (thn (h pins s σ H _ I hw) fun v s1 ⟨x,H1,I1,r1,q1⟩=>?_) (he _)
  obtain ⟨d,rfl,q⟩:=q1
  cases r1
  exact wpAny_truthy_bool ⟨H1,I1,q⟩
variable {tA tB':TT} {rest:List Expr}
def tAnd (t u:TT):TT:=fun σ H Q=>t σ H fun c H1=>if c=true then u σ H1 Q else Q false H1
def tOr (t u:TT):TT:=fun σ H Q=>t σ H fun c H1=>if c=true then Q true H1 else u σ H1 Q
def tNot (t:TT):TT:=fun σ H Q=>t σ H fun c H1=>Q (!c) H1
theorem pw_and1 (ha:PT X a tA):PW X (.BoolOp .And [a] pos) tA:=by
  intro wh pins s σ H Q I h
  refine isTrue_and (thn (ha pins s σ H Q I h) fun c s1 e=>?_)
  cases c with
  | true=>exact isTrue_and_nil e
  | false=>exact e
theorem pw_or1 (ha:PT X a tA):PW X (.BoolOp .Or [a] pos) tA:=by
  intro wh pins s σ H Q I h
  refine isTrue_or (thn (ha pins s σ H Q I h) fun c s1 e=>?_)
  cases c with
  | false=>exact isTrue_or_nil e
  | true=>exact e
theorem pw_and (ha:PT X a tA) (hb:PW X (.BoolOp .And (b::rest) pos) tB'):PW X (.BoolOp .And (a::b::rest) pos) (tAnd tA tB'):=by
  intro wh pins s σ H Q I h
  refine isTrue_and (thn (ha pins s σ H _ I h) fun c s1 ⟨H1,I1,q1⟩=>?_)
  cases c with
  | true=>exact hb wh pins s1 σ H1 Q I1 q1
  | false=>exact ⟨H1,I1,q1⟩
theorem pw_or (ha:PT X a tA) (hb:PW X (.BoolOp .Or (b::rest) pos) tB'):PW X (.BoolOp .Or (a::b::rest) pos) (tOr tA tB'):=by
  intro wh pins s σ H Q I h
  refine isTrue_or (thn (ha pins s σ H _ I h) fun c s1 ⟨H1,I1,q1⟩=>?_)
  cases c with
  | true=>exact ⟨H1,I1,q1⟩
  | false=>exact hb wh pins s1 σ H1 Q I1 q1
theorem pt_not (ha:PT X a tA):PT X (.UnaryOp .Not a pos) (tNot tA):=by
  intro pins s σ H Q I h
  exact isTrue_not (ha pins s σ H (fun c H1=>Q (!c) H1) I h)
def tAndV (ta tb:TE):TE:=fun σ H Q=>ta σ H fun x H1=>∃ c,x=.bl c/\if c=true then tb σ H1 Q else Q (.bl false) H1
theorem pe_one {op} {t:TE} (h:PE X a t):PE X (.BoolOp op [a] pos) t:=fun pins s σ H Q I hw=>BoolOp_one (h pins s σ H Q I hw)
theorem pe_and (ha:PE X a ta) (hb:PE X (.BoolOp .And (b::rest) pos) tb):PE X (.BoolOp .And (a::b::rest) pos) (tAndV ta tb):=by
  intro pins s σ H Q I h
  refine BoolOp_and (thn (ha pins s σ H _ I h) fun v s1 ⟨x,H1,I1,r1,q1⟩=>?_)
  obtain ⟨c,rfl,q1⟩:=q1
  cases r1
  refine wpAny_truthy_bool ?_
  cases c with
  | true=>exact hb pins s1 σ H1 Q I1 q1
  | false=>exact ⟨.bl false,H1,I1,rfl,q1⟩
def tIf (t:TT) (ta tb:TE):TE:=fun σ H Q=>t σ H fun c H1=>if c=true then ta σ H1 Q else tb σ H1 Q
theorem pe_ifExp {c:Expr} (hc:PT X c tA) (ha:PE X a ta) (hb:PE X b tb):PE X (.IfExp c a b pos) (tIf tA ta tb):=by
  intro pins s σ H Q I h
  refine wpAny_IfExp (thn (hc pins s σ H _ I h) fun d s1 ⟨H1,I1,q1⟩=>?_)
  cases d with
  | true=>exact ha pins s1 σ H1 Q I1 q1
  | false=>exact hb pins s1 σ H1 Q I1 q1
end
end L2
namespace L2
open PySem PySem.Spec PyProof.Rows
def SqL (K:PySem.W.Frag) (H:Hp) (a:Addr) (xs:List V):Prop:=
  Rd H a (.lst xs) ∨
    ∃ (o:Obj) (its:Array Value) (n:Nat),K.lookup a=some o/\o.cls=.type "list"/\o.dict=none/\o.data=.seq its n/\its.size<=sizeLine/\Vals xs its.toList
def SqT (K:PySem.W.Frag) (H:Hp) (a:Addr) (xs:List V):Prop:=
  Rd H a (.tup xs) ∨
    ∃ (o:Obj) (its:Array Value) (n:Nat),K.lookup a=some o/\o.cls=.type "tuple"/\o.data=.seq its n/\its.size<=sizeLine/\Vals xs its.toList
def absV:Value->Option V
  | .none=>some .non
  | .bool b=>some (.bl b)
  | .int i _=>some (.int i)
  | .str x _=>some (.str x)
  | .bytes b _=>some (.byt b)
  | .float b _=>some (.flt b)
  | .ref a=>some (.ref a)
  | .type n=>some (.ty n)
  | _=>none
theorem RelV.abs {x:V} {u:Value} (r:RelV x u):absV u=some x:=by
  cases x with
  | non=>cases r;rfl
  | bl _=>cases r;rfl
  | int _=>obtain ⟨t,rfl⟩:=r;rfl
  | str _=>obtain ⟨t,rfl⟩:=r;rfl
  | byt _=>obtain ⟨t,rfl⟩:=r;rfl
  | flt _=>obtain ⟨t,rfl⟩:=r;rfl
  | ref _=>cases r;rfl
  | ty _=>cases r;rfl
theorem RelV.inj {x y:V} {u:Value} (r:RelV x u) (q:RelV y u):x=y:=Option.some.inj (r.abs.symm.trans q.abs)
theorem Vals.inj:∀ {xs ys:List V} {us:List Value},Vals xs us->Vals ys us->xs=ys
  | _,_,_,.nil,.nil=>rfl
  | _,_,_,.cons r t,.cons r' t'=>by rw [r.inj r',Vals.inj t t']
section
variable {X:Cx} {pins:List (Addr × Obj)} {σ:St} {H:Hp} {s:Shared} {a:Addr} {xs ys:List V}
theorem SqL.of {K:PySem.W.Frag} (h:H a=some (.lst xs)):SqL K H a xs:=.inl (.inl h)
theorem SqT.of {K:PySem.W.Frag} (h:H a=some (.tup xs)):SqT K H a xs:=.inl (.inl h)
theorem Inv.list (I:Inv X pins σ H s) (h:SqL X.K H a xs):∃ its:List Value,Vals xs its/\PlainL s.heap a its.toArray/\xs.length<=sizeLine:=by
  rcases h with h | ⟨o,its,n,hk,hc,hd,hs,hz,r⟩
  · obtain ⟨z,its,n,r,e⟩:=h.ok I.hok
    exact ⟨its,r,⟨_,n,e,rfl,rfl,rfl⟩,z⟩
  · refine ⟨its.toList,r,⟨o,n,I.kIn a o hk,hc,hd,by simpa using hs⟩,?_⟩
    have e:=r.length
    simp only [Array.length_toList] at e
    omega
theorem Inv.tuple (I:Inv X pins σ H s) (h:SqT X.K H a xs):∃ its:List Value,Vals xs its/\IsTup s.heap a its.toArray/\xs.length<=sizeLine:=by
  rcases h with h | ⟨o,its,n,hk,hc,hs,hz,r⟩
  · obtain ⟨z,its,r,p⟩:=h.ok I.hok
    exact ⟨its,r,p,z⟩
  · refine ⟨its.toList,r,⟨o,I.kIn a o hk,hc,n,by simpa using hs⟩,?_⟩
    have e:=r.length
    simp only [Array.length_toList] at e
    omega
theorem Inv.list_inj (I:Inv X pins σ H s) (h:SqL X.K H a xs) (h':SqL X.K H a ys):xs=ys:=by
  obtain ⟨its,r,⟨o,n,e,_,_,d⟩,_⟩:=I.list h
  obtain ⟨its',r',⟨o',n',e',_,_,d'⟩,_⟩:=I.list h'
  rw [e] at e';cases e'
  rw [d] at d'
  injection d' with d1 _
  have:its=its':=by simpa using congrArg Array.toList d1
  subst this
  exact r.inj r'
theorem Inv.tuple_inj (I:Inv X pins σ H s) (h:SqT X.K H a xs) (h':SqT X.K H a ys):xs=ys:=by
  obtain ⟨its,r,⟨o,e,_,n,d⟩,_⟩:=I.tuple h
  obtain ⟨its',r',⟨o',e',_,n',d'⟩,_⟩:=I.tuple h'
  rw [e] at e';cases e'
  rw [d] at d'
  injection d' with d1 _
  have:its=its':=by simpa using congrArg Array.toList d1
  subst this
  exact r.inj r'
end
abbrev Cx.wish (X:Cx) (E:Value->Shared->Prop):Cx:={ X with xe:=E }
abbrev Cx.nox (X:Cx):Cx:=X.wish fun _ _=>False
theorem Cx.Ok.wish {X:Cx} (ok:X.Ok) (E:Value->Shared->Prop):(X.wish E).Ok:=
  ⟨ok.mod,ok.kind,ok.glob,ok.blt,ok.above,ok.inj,ok.has,ok.cab,ok.hd,ok.frames,ok.stk,ok.exf,ok.bs,ok.bsz,ok.noex,ok.exfs,ok.funs,ok.frf⟩
theorem Cx.Ok.unwish {X:Cx} {E:Value->Shared->Prop} (ok:(X.wish E).Ok):X.Ok:=
  ⟨ok.mod,ok.kind,ok.glob,ok.blt,ok.above,ok.inj,ok.has,ok.cab,ok.hd,ok.frames,ok.stk,ok.exf,ok.bs,ok.bsz,ok.noex,ok.exfs,ok.funs,ok.frf⟩
section
variable {X:Cx} {pins:List (Addr × Obj)} {σ:St} {H:Hp} {s:Shared} {E:Value->Shared->Prop}
theorem Inv.wish (I:Inv X pins σ H s) (E:Value->Shared->Prop):Inv (X.wish E) pins σ H s:=⟨I.ok.wish E,I.os,I.bare,I.base,I.loc,I.cell,I.free,I.freeC,I.pin,I.hok,I.len⟩
theorem Inv.unwish (I:Inv (X.wish E) pins σ H s):Inv X pins σ H s:=⟨I.ok.unwish,I.os,I.bare,I.base,I.loc,I.cell,I.free,I.freeC,I.pin,I.hok,I.len⟩
theorem SP.unwish {D:Ends} {f:Flow} {s':Shared} (h:SP (X.wish E) pins D f s'):SP X pins D f s':=by
  cases f with
  | next=>obtain ⟨σ',H',I,q⟩:=h;exact ⟨σ',H',I.unwish,q⟩
  | brk=>obtain ⟨σ',H',I,q⟩:=h;exact ⟨σ',H',I.unwish,q⟩
  | cont=>obtain ⟨σ',H',I,q⟩:=h;exact ⟨σ',H',I.unwish,q⟩
  | ret u=>obtain ⟨v,σ',H',I,r,q⟩:=h;exact ⟨v,σ',H',I.unwish,r,q⟩
theorem PSs.nox {st:List Stmt} {t:TS} (h:PSs X.nox st t):PSs X st t:=fun pins s σ H D I hw=>
  wpAny_mono (h pins s σ H D (I.wish _) hw) (fun _ _ q=>q.unwish) fun _ _ z=>False.elim z
end
section
variable {X:Cx} {st:Stmt} {rest:List Stmt} {t u:TS} {e:Expr} {te:TE} {pos:Pos}
def tNext:TS:=fun D σ H=>D.nx σ H
def tSeq (t u:TS):TS:=fun D σ H=>t { D with nx:=u D } σ H
theorem pss_nil:PSs X [] tNext:=fun _ _ σ H _ I h=>wpAny_execs_nil ⟨σ,H,I,h⟩
theorem pss_cons (h1:PS X st t) (h2:PSs X rest u):PSs X (st::rest) (tSeq t u):=by
  intro pins s σ H D I h
  refine wpAny_execs_cons (thn (h1 pins s σ H { D with nx:=u D } I h) fun f s1 q=>?_)
  cases f with
  | next=>
    obtain ⟨σ',H',I',q⟩:=q
    exact h2 pins s1 σ' H' D I' q
  | ret v=>exact q
  | brk=>exact q
  | cont=>exact q
theorem pss_one (h1:PS X st t):PSs X [st] t:=by
  intro pins s σ H D I h
  refine wpAny_execs_cons (thn (h1 pins s σ H D I h) fun f s1 q=>?_)
  cases f with
  | next=>exact wpAny_execs_nil q
  | ret v=>exact q
  | brk=>exact q
  | cont=>exact q
theorem Inv.quiet {pins:List (Addr × Obj)} {σ:St} {H:Hp} {s:Shared} (I:Inv X pins σ H s):interactive X.env=false:=by simp [interactive,I.ok.kind]
def tDrop (te:TE):TS:=fun D σ H=>te σ H fun _ H1=>D.nx σ H1
theorem ps_expr (he:PE X e te) (hs:swapsWith e none pos.line X.env=pure false:=by rfl):PS X (.Expr e pos) (tDrop te):=by
  intro pins s σ H D I h
  exact wpAny_Expr_any (thn (he pins s σ H _ I h) fun v s1 ⟨x,H1,I1,r1,q1⟩=>⟨σ,H1,I1,q1⟩) I.quiet hs
def tRet (te:TE):TS:=fun D σ H=>te σ H D.rt
theorem ps_ret (he:PE X e te):PS X (.Return (some e) pos) (tRet te):=by
  intro pins s σ H D I h
  exact wpAny_Return_some (thn (he pins s σ H _ I h) fun v s1 ⟨x,H1,I1,r1,q1⟩=>⟨x,σ,H1,I1,r1,q1⟩)
def tIfS (c:TT) (t u:TS):TS:=fun D σ H=>c σ H fun b H1=>if b=true then t D σ H1 else u D σ H1
theorem ps_if {c:Expr} {a b:List Stmt} {tc:TT} (hc:PT X c tc) (ha:PSs X a t) (hb:PSs X b u):PS X (.If c a b pos) (tIfS tc t u):=by
  intro pins s σ H D I h
  refine wpAny_If (thn (hc pins s σ H _ I h) fun d s1 ⟨H1,I1,q1⟩=>?_)
  cases d with
  | true=>exact ha pins s1 σ H1 D I1 q1
  | false=>exact hb pins s1 σ H1 D I1 q1
end
abbrev TG:=V->St->Hp->(St->Hp->Prop)->Prop
abbrev TGs:=List V->St->Hp->(St->Hp->Prop)->Prop
def PG (X:Cx) (target:Expr) (t:TG):Prop:=
  ∀ (pins:List (Addr × Obj)) (s:Shared) (σ:St) (H:Hp) (v:V) (u:Value) (Q:St->Hp->Prop),Inv X pins σ H s->RelV v u->t v σ H Q->
    wpAny (model X.prog X.w) X.A (assign target X.env u) (fun _ s'=>∃ σ' H',Inv X pins σ' H' s'/\Q σ' H') X.xe s
def PGs (X:Cx) (ts:List Expr) (t:TGs):Prop:=
  ∀ (pins:List (Addr × Obj)) (s:Shared) (σ:St) (H:Hp) (vs:List V) (us:List Value) (Q:St->Hp->Prop),Inv X pins σ H s->Vals vs us->t vs σ H Q->
    wpAny (model X.prog X.w) X.A (assignInOrder ((assignEach ts X.env).map (·.2)) us) (fun _ s'=>∃ σ' H',Inv X pins σ' H' s'/\Q σ' H') X.xe s
abbrev TSet:=V->V->V->Hp->(Hp->Prop)->Prop
def PSet (X:Cx) (t:TSet):Prop:=
  ∀ (pins:List (Addr × Obj)) (s:Shared) (σ:St) (H:Hp) (o i v:V) (ov iv u:Value) (Q:Hp->Prop),Inv X pins σ H s->RelV o ov->RelV i iv->RelV v u->t o i v H Q->
    wpAny (model X.prog X.w) X.A (setItem ov iv u) (fun _ s'=>∃ H',Inv X pins σ H' s'/\Q H') X.xe s
abbrev TIp:=V->V->Hp->VK->Prop
def PIp (X:Cx) (op:Operator) (t:TIp):Prop:=
  ∀ (pins:List (Addr × Obj)) (s:Shared) (σ:St) (H:Hp) (x y:V) (v u:Value) (Q:VK),Inv X pins σ H s->RelV x v->RelV y u->t x y H Q->
    wpAny (model X.prog X.w) X.A (inplaceOp op v u) (EP X pins σ Q) X.xe s
section
variable {X:Cx} {pos:Pos}
def gName (i:Nat):TG:=fun v σ H Q=>Q (σ.set i (some v)) H
theorem pg_name {i:Nat} {x:Str} (hN:X.N.Nodup) (hi:X.N[i]?=some x) (hx:Loc X.env.scope x) (hf:X.fn x=true\/X.env.scope.names.lookup x=some .local:=by first | exact .inl rfl | exact .inr rfl | assumption):PG X (.Name x pos) (gName i):=by
  intro pins s σ H v u Q I r h
  exact wpAny_assign_Name (store_ok I hN hi hx r (fun s' I'=>⟨_,H,I',h⟩) hf)
def gNil:TGs:=fun vs σ H Q=>vs=[]/\Q σ H
def gCons (t:TG) (u:TGs):TGs:=fun vs σ H Q=>∃ v r,vs=v::r/\t v σ H fun σ' H'=>u r σ' H' Q
theorem pgs_nil:PGs X [] gNil:=by
  intro pins s σ H vs us Q I r h
  obtain ⟨e,h⟩:=h
  subst e
  cases r
  exact assignInOrder_nil ⟨σ,H,I,h⟩
theorem pgs_cons {e:Expr} {es:List Expr} {t:TG} {u:TGs} (h1:PG X e t) (h2:PGs X es u)
    (hs:(assignEach (e::es) X.env).map (·.2)=assign e X.env::(assignEach es X.env).map (·.2):=by rfl):PGs X (e::es) (gCons t u):=by
  intro pins s σ H vs us Q I r h
  obtain ⟨v,vr,e1,h⟩:=h
  subst e1
  cases r with
  | cons r rr=>
    rw [hs]
    refine assignInOrder_cons (thn (h1 pins s σ H _ _ _ I r h) fun _ s1 ⟨σ1,H1,I1,q1⟩=>?_)
    exact h2 pins s1 σ1 H1 _ _ Q I1 rr q1
def gTup (K:PySem.W.Frag) (n:Nat) (t:TGs):TG:=fun v σ H Q=>∃ a xs,v=.ref a/\SqT K H a xs/\xs.length=n/\t xs σ H Q
theorem pg_tup {es:List Expr} {k:Nat} {t:TGs} {n:Nat} (hc:X.calm=true) (h:PGs X es t)
    (hn:(assignEach es X.env).length=n:=by rfl) (hst:(assignEach es X.env).findIdx? (·.1)=none:=by rfl):PG X (.Tuple es k pos) (gTup X.K n t):=by
  intro pins s σ H v u Q I r hw
  obtain ⟨a,xs,e1,hq,hl,hw⟩:=hw
  subst e1
  cases r
  obtain ⟨its,rv,ht,hz⟩:=I.tuple hq
  refine assign_Tuple_tuple (I.ok.hd hc) ht (by simp [hn,<- hl,rv.length]) hst fun h' hx=>?_
  have I1:Inv X pins σ H { s with heap:=h' }:=I.kept (t':=s.toks) fun b o e=>hx b o (Nat.ne_of_lt (Heap.lt_size e)) e
  exact h pins _ σ H xs _ Q I1 (by simpa using rv) hw
def gSub (to ti:TE) (t:TSet):TG:=fun v σ H Q=>to σ H fun o H1=>ti σ H1 fun i H2=>t o i v H2 fun H3=>Q σ H3
theorem pg_sub {o i:Expr} {to ti:TE} {t:TSet} (ho:PE X o to) (hi:PE X i ti) (hs:PSet X t)
    (ha:∀ v,assign (.Subscript o i pos) X.env v=(do
      let ov ← holding [v] (eval o X.env)
      let iv ← holding [v,ov] (eval i X.env)
      standAt pos
      holding [v,ov,iv] (setItem ov iv v)
      release [v,ov,iv] []):=by intro _;rfl):PG X (.Subscript o i pos) (gSub to ti t):=by
  intro pins s σ H v u Q I r h
  rw [ha]
  refine wpAny_bind (wpAny_holding (thn (ho pins s σ H _ I h) fun ov s1 ⟨x,H1,I1,r1,q1⟩=>?_))
  refine wpAny_bind (wpAny_holding (thn (hi pins s1 σ H1 _ I1 q1) fun iv s2 ⟨y,H2,I2,r2,q2⟩=>?_))
  refine wpAny_bind (wpAny_standAt (wpAny_bind (wpAny_holding (thn (hs pins s2 σ H2 x y v ov iv u _ I2 r1 r2 r q2) fun _ s3 ⟨H3,I3,q3⟩=>?_))))
  exact wpAny_release ⟨σ,H3,I3,q3⟩
def tAsg (te:TE) (g:TG):TS:=fun D σ H=>te σ H fun x H1=>g x σ H1 D.nx
theorem ps_asg {tg e:Expr} {te:TE} {g:TG} (he:PE X e te) (hg:PG X tg g) (hs:swapsWithSole [tg] e pos.line X.env=pure false:=by rfl) (hw:swappedStores [tg] e X.env=pure none:=by rfl)
    (h1:(assignEach [tg] X.env).map (·.2)=[assign tg X.env]:=by rfl):PS X (.Assign [tg] e pos) (tAsg te g):=by
  intro pins s σ H D I h
  refine wpAny_Assign_stores (thn (he pins s σ H _ I h) fun v s1 ⟨x,H1,I1,r1,q1⟩=>?_) hs hw
  rw [h1]
  exact thn (hg pins s1 σ H1 x v _ I1 r1 q1) fun _ s2 q=>q
theorem ps_set {i:Nat} {x:Str} {e:Expr} {te:TE} {pos':Pos} (hN:X.N.Nodup) (hi:X.N[i]?=some x) (hx:Loc X.env.scope x) (he:PE X e te) (hs:swapsWith e (some (.Name x pos')) pos.line X.env=pure false:=by rfl) (hf:X.fn x=true\/X.env.scope.names.lookup x=some .local:=by first | exact .inl rfl | exact .inr rfl | assumption):
    PS X (.Assign [.Name x pos'] e pos) (tAsg te (gName i)):=by
  intro pins s σ H D I h
  refine wpAny_Assign_Name (thn (he pins s σ H _ I h) fun v s1 ⟨y,H1,I1,r1,q1⟩=>?_) hs
  exact store_ok I1 hN hi hx r1 (fun s2 I2=>⟨_,H1,I2,q1⟩) hf
def tAug (i:Nat) (te:TE) (ti:TIp):TS:=fun D σ H=>∃ x,σ[i]?=some (some x)/\te σ H fun y H1=>ti x y H1 fun z H2=>D.nx (σ.set i (some z)) H2
theorem ps_aug {i:Nat} {x:Str} {e:Expr} {te:TE} {op:Operator} {ti:TIp} {pos':Pos} (hN:X.N.Nodup) (hi:X.N[i]?=some x) (hx:Loc X.env.scope x) (he:PE X e te) (ho:PIp X op ti) (hf:X.fn x=true\/X.env.scope.names.lookup x=some .local:=by first | exact .inl rfl | exact .inr rfl | assumption):
    PS X (.AugAssign (.Name x pos') op e pos) (tAug i te ti):=by
  intro pins s σ H D I h
  obtain ⟨v,e1,h⟩:=h
  obtain ⟨m,hn,hl⟩:=I.loc
  have vis:Vis X.env.scope x:=by rcases hx with k | k;exact .inl k;exact .inr (.inl k)
  obtain ⟨u,r,l⟩:=hl i x v hi e1 vis
  refine wpAny_AugAssign_Name ?_
  have go:wpAny (model X.prog X.w) X.A (eval e X.env) (fun w s₂=>wpAny (model X.prog X.w) X.A (inplaceOp op u w) (fun r s₃=>wpAny (model X.prog X.w) X.A (storeName X.env x r) (fun _=>SP X pins D .next) X.xe s₃) X.xe s₂) X.xe s:=by
    refine thn (he pins s σ H _ I h) fun w s1 ⟨y,H1,I1,r1,q1⟩=>?_
    refine thn (ho pins s1 σ H1 v y u w _ I1 r r1 q1) fun z s2 ⟨zv,H2,I2,r2,q2⟩=>?_
    exact store_ok I2 hN hi hx r2 (fun s3 I3=>⟨_,H2,I3,q2⟩) hf
  rcases l with ⟨hk,hm⟩ | ⟨hk,c,hc,hcell⟩
  · exact wpAny_loadName_local I.ok.kind hk hn hm go
  · rcases hk with hk | hk
    · exact wpAny_loadName_cell I.ok.kind hk hc hcell go
    · rcases hx with k | k
      · have:X.env.scope.names.lookup x=some .free:=hk
        rw [k] at this;cases this
      · have:X.env.scope.names.lookup x=some .free:=hk
        rw [k] at this;cases this
def ipI (f:Int->Int->Int):TIp:=fun x y H Q=>∃ i j,x=.int i/\y=.int j/\Q (.int (f i j)) H
theorem ip_add:PIp X .Add (ipI fun i j=>i+j):=by
  intro pins s σ H x y v u Q I r1 r2 h
  obtain ⟨i,j,e1,e2,q⟩:=h
  subst e1;subst e2
  obtain ⟨t,rfl⟩:=r1
  obtain ⟨t',rfl⟩:=r2
  exact iadd_int ⟨.int _,H,I.tok _,⟨_,rfl⟩,q⟩
end
section
variable {X:Cx} {pos:Pos}
def tWhile (c:TT) (tb:TS):TS:=fun D σ H=>∃ W:Nat->St->Hp->Prop,(∃ m,W m σ H)/\∀ m σ H,W m σ H->
  c σ H fun b H1=>if b=true then ∃ N:St->Hp->Prop,(∀ σ' H',N σ' H'->∃ m',m' < m/\W m' σ' H')/\tb { D with nx:=N,ct:=N,bk:=D.nx } σ H1 else D.nx σ H1
theorem ps_while {c:Expr} {body:List Stmt} {tc:TT} {tb:TS} (hp:PassesOwn (model X.prog X.w) X.A X.env X.xe) (hc:PT X c tc) (hb:PSs X body tb):PS X (.While c body [] pos) (tWhile tc tb):=by
  intro pins s σ H D I h
  obtain ⟨W,⟨m0,w0⟩,turn⟩:=h
  refine wpAny_While (codeAny_whileLoop (fun n s'=>∃ σ' H',Inv X pins σ' H' s'/\W n σ' H') ?_ m0 ⟨σ,H,I,w0⟩)
  rintro n s1 ⟨σ1,H1,I1,w1⟩
  refine wpAny_passesOwn hp (thn (hc pins s1 σ1 H1 _ I1 (turn n σ1 H1 w1)) fun b s2 ⟨H2,I2,q2⟩=>?_)
  cases b with
  | true=>
    obtain ⟨N,hN,q2⟩:=q2
    rw [if_pos rfl]
    refine wpAny_passesOwn hp (thn (hb pins s2 σ1 H2 _ I2 q2) fun f s3 q3=>?_)
    cases f with
    | next=>
      obtain ⟨σ3,H3,I3,n3⟩:=q3
      obtain ⟨m',hm,w3⟩:=hN σ3 H3 n3
      exact ⟨m',hm,σ3,H3,I3,w3⟩
    | cont=>
      obtain ⟨σ3,H3,I3,n3⟩:=q3
      obtain ⟨m',hm,w3⟩:=hN σ3 H3 n3
      exact ⟨m',hm,σ3,H3,I3,w3⟩
    | brk=>exact q3
    | ret v=>exact q3
  | false=>
    rw [if_neg Bool.false_ne_true]
    exact wpAny_execs_nil ⟨σ1,H2,I2,q2⟩
end
structure It where
  go:Nat->Hp->Prop
  yld:Nat->Hp->V->Hp->Prop
  stop:Nat->Hp->Prop
def FpOk (X:Cx) (pins:List (Addr × Obj)) (H:Hp) (b:Addr):Prop:=
  H b=none/\b ≠ X.env.locals/\b ∉ X.fs/\(b ∈ X.ex\/X.s_0.heap.objs.size<=b)/\(∀ x c,X.env.cells.lookup x=some c->c ≠ b)/\∀ p ∈ X.pn++pins,p.1 ≠ b
theorem Inv.fpOk {X:Cx} {pins:List (Addr × Obj)} {σ:St} {H H':Hp} {s:Shared} {b:Addr} (I:Inv X pins σ H s) (hb:s.heap.objs.size<=b) (hn:H' b=none):FpOk X pins H' b:=by
  refine ⟨hn,Nat.ne_of_gt (Nat.lt_of_lt_of_le I.lt hb),I.nofs hb,.inr (Nat.le_trans I.sz hb),fun x c e z=>?_,fun p hp z=>?_⟩
  · obtain ⟨v,q⟩:=I.cell x c e
    exact absurd (Nat.lt_of_lt_of_le q.lt (by rw [z];exact hb)) (Nat.lt_irrefl _)
  · exact absurd (Nat.lt_of_lt_of_le (Heap.lt_size (I.pin p hp).1) (by rw [z];exact hb)) (Nat.lt_irrefl _)
structure Turn (P:Program) (w:World) (K:PySem.W.Frag) (tg:Expr) (J:It) (fp:List Addr) (it:Addr) (tn:Nat->Heap->Prop):Prop where
  mem:it ∈ fp
  obj:∀ i h,tn i h->∀ b ∈ fp,∃ o,h.get? b=some o/\∀ v,o.data ≠ .cell v
  keep:∀ i h h',tn i h->(∀ b ∈ fp,∀ o,h.get? b=some o->h'.get? b=some o)->tn i h'
  item:∀ (X:Cx),X.prog=P->X.w=w->X.K=K->X.calm=true->∀ (i:Nat) (pins:List (Addr × Obj)) (s:Shared) (σ:St) (H:Hp) (E:Value->Shared->Prop),Inv X pins σ H s->(∀ b ∈ fp,FpOk X pins H b)->tn i s.heap->J.go i H->
    wpAny (model P w) X.A (pyNext (.ref it)) (fun r s1=>∃ u,r=some u ∧
      wpAny (model P w) X.A (letOwnedTupleGo tg (.ref it) u) (fun _ s2=>∃ x H',Inv X pins σ H' s2/\RelV x u/\J.yld i H x H'/\tn (i+1) s2.heap/\∀ b ∈ fp,H' b=none) E s1) E s
  done:∀ (X:Cx),X.prog=P->X.w=w->X.K=K->X.calm=true->∀ (i:Nat) (pins:List (Addr × Obj)) (s:Shared) (σ:St) (H:Hp) (E:Value->Shared->Prop),Inv X pins σ H s->(∀ b ∈ fp,FpOk X pins H b)->tn i s.heap->J.stop i H->
    wpAny (model P w) X.A (pyNext (.ref it)) (fun r s1=>r=none/\Inv X pins σ H s1) E s
  self:∀ (A:Around) (i:Nat) (s:Shared) (Q:Value->Shared->Prop) (E:Value->Shared->Prop),tn i s.heap->Q (.ref it) s->wpAny (model P w) A (pyIter (.ref it)) Q E s
abbrev TI:=St->Hp->(It->Hp->Prop)->Prop
def PIE (X:Cx) (pins:List (Addr × Obj)) (σ:St) (tg:Expr) (R:It->Hp->Prop) (itv:Value) (s2:Shared):Prop:=
  ∃ (it:Addr) (fp:List Addr) (tn:Nat->Heap->Prop) (J:It) (H':Hp),itv=.ref it/\Inv X pins σ H' s2/\Turn X.prog X.w X.K tg J fp it tn/\tn 0 s2.heap/\(∀ b ∈ fp,FpOk X pins H' b)/\R J H'
def PI (X:Cx) (tg iter:Expr) (wi:TI):Prop:=
  ∀ (pins:List (Addr × Obj)) (s:Shared) (σ:St) (H:Hp) (R:It->Hp->Prop),Inv X pins σ H s->wi σ H R->
    wpAny (model X.prog X.w) X.A (eval iter X.env) (fun v s1=>wpAny (model X.prog X.w) X.A (pyIter v) (PIE X pins σ tg R) X.xe s1) X.xe s
theorem go_of {M:Model} {A:Around} {E:Value->Shared->Prop} {s:Shared} {tg:Expr} {it:Addr} {u:Value} {o:Obj} {n:String} {vs:Array Value} {Q:Unit->Shared->Prop} (ho:s.heap.get? it=some o) (hc:o.cls=.type n) (hd:o.data=.fields vs)
    (hn:["enumerate","zip","dict_itemiterator","dict_reverseitemiterator","odict_iterator","itertools.zip_longest","itertools.pairwise"].contains n=false) (hQ:Q () s):wpAny M A (letOwnedTupleGo tg (.ref it) u) Q E s:=by
  unfold letOwnedTupleGo
  cases tg <;> first
    | exact wpAny_pure hQ
    | (cases u <;> first
        | exact wpAny_pure hQ
        | (refine wpAny_bind (wpAny_load ho ?_)
           rw [hc,hd]
           show wpAny M A (if (["enumerate","zip","dict_itemiterator","dict_reverseitemiterator","odict_iterator","itertools.zip_longest","itertools.pairwise"].contains n && vs[0]? == some (rawInt _))=true then _ else _) Q E s
           rw [if_neg (by intro h;rw [hn,Bool.false_and] at h;cases h)]
           exact wpAny_pure hQ))
def Itl (K:PySem.W.Frag) (a:Addr):It:=
  ⟨fun i H=>∃ xs x,SqL K H a xs/\xs[i]?=some x,fun i H x H'=>H'=H/\∀ xs,SqL K H a xs->xs[i]?=some x,fun i H=>∃ xs,SqL K H a xs/\xs.length<=i⟩
def Itt (K:PySem.W.Frag) (a:Addr):It:=
  ⟨fun i H=>∃ xs x,SqT K H a xs/\xs[i]?=some x,fun i H x H'=>H'=H/\∀ xs,SqT K H a xs->xs[i]?=some x,fun i H=>∃ xs,SqT K H a xs/\xs.length<=i⟩
theorem turn_list {P:Program} {w:World} {K:PySem.W.Frag} {tg:Expr} (a it:Addr):Turn P w K tg (Itl K a) [it] it (fun i h=>h.IsListIter it a i) where
  mem:=by simp
  obj:=fun i h st b hb=>by
    have e:b=it:=by simpa using hb
    subst e
    obtain ⟨o,e,c,d⟩:=st
    exact ⟨o,e,fun v z=>by rw [d] at z;cases z⟩
  keep:=fun i h h' st k=>st.at fun o e=>k it (by simp) o e
  item:=by
    intro X hP hw hK hc i pins s σ H E I hf st hg
    subst hP hw hK
    obtain ⟨xs,x,hq,hx⟩:=hg
    obtain ⟨its,rv,p,hz⟩:=I.list hq
    obtain ⟨u,hu,ru⟩:=rv.get hx
    obtain ⟨f0,f1,f2,f3,f4,f5⟩:=hf it (by simp)
    refine wpAny_pyNext_list_item st p.isList (x:=u) (by simpa using hu) fun h' st' sb=>?_
    have I1:Inv X pins σ H { s with heap:=h' }:=I.turned (t':=s.toks) (fun b o hb e=>(sb.2 b hb).trans e) f0 f1 f3 f4 f5
    obtain ⟨o,e,c,d⟩:=id st'
    exact ⟨u,rfl,go_of (s:={ s with heap:=h' }) e c d (by decide) ⟨x,H,I1,ru,⟨rfl,fun ys hy=>by rw [I.list_inj hy hq];exact hx⟩,st',fun b hb=>(hf b hb).1⟩⟩
  done:=by
    intro X hP hw hK hc i pins s σ H E I hf st hg
    subst hP hw hK
    obtain ⟨xs,hq,hx⟩:=hg
    obtain ⟨its,rv,p,hz⟩:=I.list hq
    obtain ⟨f0,f1,f2,f3,f4,f5⟩:=hf it (by simp)
    have hl:=rv.length
    exact wpAny_pyNext_list_end (I.ok.hd hc) st p.isList (by simp;omega) fun h' eb=>⟨rfl,I.turned (t':=s.toks) (fun b o hb e=>eb b o hb e) f0 f1 f3 f4 f5⟩
  self:=fun _ _ _ _ _ st h=>wpAny_pyIter_listiter st h
theorem turn_tuple {P:Program} {w:World} {K:PySem.W.Frag} {tg:Expr} (a it:Addr):Turn P w K tg (Itt K a) [it] it (fun i h=>h.IsTupleIter it a i) where
  mem:=by simp
  obj:=fun i h st b hb=>by
    have e:b=it:=by simpa using hb
    subst e
    obtain ⟨o,e,c,d⟩:=st
    exact ⟨o,e,fun v z=>by rw [d] at z;cases z⟩
  keep:=fun i h h' st k=>st.at fun o e=>k it (by simp) o e
  item:=by
    intro X hP hw hK hc i pins s σ H E I hf st hg
    subst hP hw hK
    obtain ⟨xs,x,hq,hx⟩:=hg
    obtain ⟨its,rv,p,hz⟩:=I.tuple hq
    obtain ⟨u,hu,ru⟩:=rv.get hx
    obtain ⟨f0,f1,f2,f3,f4,f5⟩:=hf it (by simp)
    refine wpAny_pyNext_tuple_item st (show s.heap.IsTuple a its.toArray from p) (x:=u) (by simpa using hu) fun h' st' sb=>?_
    have I1:Inv X pins σ H { s with heap:=h' }:=I.turned (t':=s.toks) (fun b o hb e=>(sb.2 b hb).trans e) f0 f1 f3 f4 f5
    obtain ⟨o,e,c,d⟩:=id st'
    exact ⟨u,rfl,go_of (s:={ s with heap:=h' }) e c d (by decide) ⟨x,H,I1,ru,⟨rfl,fun ys hy=>by rw [I.tuple_inj hy hq];exact hx⟩,st',fun b hb=>(hf b hb).1⟩⟩
  done:=by
    intro X hP hw hK hc i pins s σ H E I hf st hg
    subst hP hw hK
    obtain ⟨xs,hq,hx⟩:=hg
    obtain ⟨its,rv,p,hz⟩:=I.tuple hq
    obtain ⟨f0,f1,f2,f3,f4,f5⟩:=hf it (by simp)
    have hl:=rv.length
    exact wpAny_pyNext_tuple_end (I.ok.hd hc) st (show s.heap.IsTuple a its.toArray from p) (by simp;omega) fun h' eb=>⟨rfl,I.turned (t':=s.toks) (fun b o hb e=>eb b o hb e) f0 f1 f3 f4 f5⟩
  self:=fun _ _ _ _ _ st h=>wpAny_pyIter_tupleiter st h
end L2
namespace L2
open PySem PySem.Spec PyProof.Rows
section
variable {X:Cx} {tg:Expr}
def iList (K:PySem.W.Frag) (tl:TE):TI:=fun σ H R=>tl σ H fun x H1=>∃ a,x=.ref a/\(∃ xs,SqL K H1 a xs)/\R (Itl K a) H1
def iTup (K:PySem.W.Frag) (tl:TE):TI:=fun σ H R=>tl σ H fun x H1=>∃ a,x=.ref a/\(∃ xs,SqT K H1 a xs)/\R (Itt K a) H1
theorem pi_list {l:Expr} {tl:TE} (hl:PE X l tl):PI X tg l (iList X.K tl):=by
  intro pins s σ H R I h
  refine thn (hl pins s σ H _ I h) fun v s1 ⟨x,H1,I1,r1,q1⟩=>?_
  obtain ⟨a,e,⟨xs,hq⟩,q⟩:=q1
  subst e
  cases r1
  obtain ⟨its,rv,p,hz⟩:=I1.list hq
  refine wpAny_pyIter_list p.isList ?_
  refine ⟨s1.heap.objs.size,[s1.heap.objs.size],_,_,H1,rfl,I1.kept (t':=s1.toks) fun b o e=>Heap.get?_push_of_some _ e,turn_list a _,⟨_,Heap.get?_push_size _ rfl,rfl,rfl⟩,fun b hb=>?_,q⟩
  have e:b=s1.heap.objs.size:=by simpa using hb
  subst e
  exact I1.fpOk (Nat.le_refl _) (I1.hok.fresh (Nat.le_refl _))
theorem pi_tup {l:Expr} {tl:TE} (hl:PE X l tl):PI X tg l (iTup X.K tl):=by
  intro pins s σ H R I h
  refine thn (hl pins s σ H _ I h) fun v s1 ⟨x,H1,I1,r1,q1⟩=>?_
  obtain ⟨a,e,⟨xs,hq⟩,q⟩:=q1
  subst e
  cases r1
  obtain ⟨its,rv,p,hz⟩:=I1.tuple hq
  refine wpAny_pyIter_tuple (show s1.heap.IsTuple a its.toArray from p) ?_
  refine ⟨s1.heap.objs.size,[s1.heap.objs.size],_,_,H1,rfl,I1.kept (t':=s1.toks) fun b o e=>Heap.get?_push_of_some _ e,turn_tuple a _,⟨_,Heap.get?_push_size _ rfl,rfl,rfl⟩,fun b hb=>?_,q⟩
  have e:b=s1.heap.objs.size:=by simpa using hb
  subst e
  exact I1.fpOk (Nat.le_refl _) (I1.hok.fresh (Nat.le_refl _))
def tFor (wi:TI) (g:TG) (tb:TS):TS:=fun D σ H=>wi σ H fun J H1=>∃ W:Nat->Nat->St->Hp->Prop,(∃ m,W 0 m σ H1)/\∀ i m σ H,W i m σ H->
  (J.stop i H/\D.nx σ H)\/(J.go i H/\∃ N:St->Hp->Prop,(∀ σ' H',N σ' H'->∃ m',m' < m/\W (i+1) m' σ' H')/\∀ x H',J.yld i H x H'->g x σ H' fun σ2 H2=>tb { D with nx:=N,ct:=N,bk:=D.nx } σ2 H2)
def pinsAt (fp:List Addr) (h:Heap):List (Addr × Obj):=fp.filterMap fun b=>(h.get? b).map fun o=>(b,o)
theorem mem_pinsAt {fp:List Addr} {h:Heap} {b:Addr} {o:Obj} (hb:b ∈ fp) (e:h.get? b=some o):(b,o) ∈ pinsAt fp h:=List.mem_filterMap.mpr ⟨b,hb,by rw [e];rfl⟩
theorem of_pinsAt {fp:List Addr} {h:Heap} {p:Addr × Obj} (hp:p ∈ pinsAt fp h):p.1 ∈ fp/\h.get? p.1=some p.2:=by
  obtain ⟨b,hb,e⟩:=List.mem_filterMap.mp hp
  cases q:h.get? b with
  | none=>rw [q] at e;cases e
  | some o=>
    rw [q] at e
    have e':(b,o)=p:=Option.some.inj e
    subst e'
    exact ⟨hb,q⟩
theorem Inv.pinned {pins:List (Addr × Obj)} {σ:St} {H:Hp} {s:Shared} {fp:List Addr} (I:Inv X pins σ H s) (hf:∀ b ∈ fp,FpOk X pins H b) (ho:∀ b ∈ fp,∃ o,s.heap.get? b=some o/\∀ v,o.data ≠ .cell v):Inv X (pins++pinsAt fp s.heap) σ H s:=
  I.pins_of fun p hp=>(List.mem_append.mp hp).elim (fun z=>I.pin p (List.mem_append_right _ z)) fun z=>by
    obtain ⟨hb,e⟩:=of_pinsAt z
    obtain ⟨f0,f1,f2,_⟩:=hf p.1 hb
    obtain ⟨o,e',d⟩:=ho p.1 hb
    rw [e] at e';cases e'
    exact ⟨e,f0,f1,f2,d⟩
theorem Inv.unpinned {pins pl:List (Addr × Obj)} {σ:St} {H:Hp} {s:Shared} (I:Inv X (pins++pl) σ H s):Inv X pins σ H s:=I.pins_of fun p hp=>I.pin p (List.mem_append_right _ (List.mem_append_left _ hp))
theorem ps_for {iter:Expr} {body:List Stmt} {wi:TI} {g:TG} {tb:TS} {pos:Pos} (hp:PassesOwn (model X.prog X.w) X.A X.env X.xe) (hc:X.calm=true) (hi:PI X tg iter wi) (hg:PG X tg g) (hb:PSs X body tb)
    (hs:∀ x,foldedSetIterable iter X.env x=pure x:=by intro _;rfl):PS X (.For tg iter body [] pos) (tFor wi g tb):=by
  intro pins s σ H D I h
  refine wpAny_For (thn (hi pins s σ H _ I h) fun v s1 h1=>thn h1 fun itv s2 h2=>?_) hs
  obtain ⟨it,fp,tn,J,H2,e,I2,T,st2,f2,W,⟨m0,w0⟩,turn⟩:=h2
  subst e
  have stat:∀ {H':Hp},(∀ b ∈ fp,H' b=none)->∀ b ∈ fp,FpOk X pins H' b:=fun hn b hb=>⟨hn b hb,(f2 b hb).2⟩
  refine codeAny_forLoop_any (fun n s'=>∃ i σ' H',Inv X pins σ' H' s'/\tn i s'.heap/\(∀ b ∈ fp,H' b=none)/\W i n σ' H') ?_ m0 ⟨0,σ,H2,I2,st2,fun b hb=>(f2 b hb).1,w0⟩
  rintro n s3 ⟨i,σ3,H3,I3,st3,fr3,w3⟩
  rcases turn i n σ3 H3 w3 with ⟨stop,qn⟩ | ⟨go,N,hN,step⟩
  · refine wpAny_passesOwn hp (thn (T.done X rfl rfl rfl hc i pins s3 σ3 H3 X.xe I3 (stat fr3) st3 stop) fun r s4 ⟨hr,I4⟩=>?_)
    subst hr
    exact wpAny_execs_nil ⟨σ3,H3,I4,qn⟩
  · refine wpAny_passesOwn hp (thn (T.item X rfl rfl rfl hc i pins s3 σ3 H3 X.xe I3 (stat fr3) st3 go) fun r s4 ⟨u,hr,h4⟩=>?_)
    subst hr
    refine wpAny_passesOwn hp (thn h4 fun _ s5 ⟨x,H5,I5,r5,y5,st5,fr5⟩=>?_)
    have I5':=I5.pinned (stat fr5) (T.obj _ _ st5)
    refine wpAny_passesOwn hp (thn (hg _ s5 σ3 H5 x u _ I5' r5 (step x H5 y5)) fun _ s6 ⟨σ6,H6,I6,q6⟩=>?_)
    refine wpAny_passesOwn hp (thn (hb _ s6 σ6 H6 _ I6 q6) fun f s7 q7=>?_)
    have again:∀ {σ7:St} {H7:Hp},Inv X (pins++pinsAt fp s5.heap) σ7 H7 s7->N σ7 H7->∃ m,m < n/\∃ i σ' H',Inv X pins σ' H' s7/\tn i s7.heap/\(∀ b ∈ fp,H' b=none)/\W i m σ' H':=fun {σ7 H7} I7 n7=>by
      obtain ⟨m',hm,w7⟩:=hN σ7 H7 n7
      refine ⟨m',hm,i+1,σ7,H7,I7.unpinned,T.keep _ _ _ st5 fun b hb o e=>(I7.pin (b,o) (List.mem_append_right _ (List.mem_append_right _ (mem_pinsAt hb e)))).1,fun b hb=>?_,w7⟩
      obtain ⟨o,e,d⟩:=T.obj _ _ st5 b hb
      exact (I7.pin (b,o) (List.mem_append_right _ (List.mem_append_right _ (mem_pinsAt hb e)))).2.1
    cases f with
    | next=>obtain ⟨σ7,H7,I7,n7⟩:=q7;exact again I7 n7
    | cont=>obtain ⟨σ7,H7,I7,n7⟩:=q7;exact again I7 n7
    | brk=>obtain ⟨σ7,H7,I7,q7⟩:=q7;exact ⟨σ7,H7,I7.unpinned,q7⟩
    | ret v=>obtain ⟨x7,σ7,H7,I7,r7,q7⟩:=q7;exact ⟨x7,σ7,H7,I7.unpinned,r7,q7⟩
end
theorem for_list {K:PySem.W.Frag} {a:Addr} {xs:List V} {g:TG} {tb:TS} {D:Ends} {σ:St} {H:Hp} (Pv:Nat->St->Hp->Prop) (h0:Pv 0 σ H) (hl:∀ i σ H,i<=xs.length->Pv i σ H->SqL K H a xs)
    (hs:∀ i x σ H,xs[i]?=some x->Pv i σ H->g x σ H fun σ2 H2=>tb { D with nx:=Pv (i+1),ct:=Pv (i+1),bk:=D.nx } σ2 H2) (hd:∀ σ H,Pv xs.length σ H->D.nx σ H):
    ∃ W:Nat->Nat->St->Hp->Prop,(∃ m,W 0 m σ H)/\∀ i m σ H,W i m σ H->
      ((Itl K a).stop i H/\D.nx σ H)\/((Itl K a).go i H/\∃ N:St->Hp->Prop,(∀ σ' H',N σ' H'->∃ m',m' < m/\W (i+1) m' σ' H')/\∀ x H',(Itl K a).yld i H x H'->g x σ H' fun σ2 H2=>tb { D with nx:=N,ct:=N,bk:=D.nx } σ2 H2):=by
  refine ⟨fun i m σ H=>m=xs.length - i/\i<=xs.length/\Pv i σ H,⟨xs.length,by simp,Nat.zero_le _,h0⟩,?_⟩
  rintro i m σ H ⟨rfl,hi,p⟩
  have q:=hl i σ H hi p
  by_cases hlt:i < xs.length
  · refine .inr ⟨⟨xs,xs[i],q,by simp [hlt]⟩,Pv (i+1),fun σ' H' p'=>⟨xs.length - (i+1),by omega,rfl,hlt,p'⟩,fun x H' y=>?_⟩
    obtain ⟨e,y⟩:=y
    subst e
    exact hs i x σ _ (y xs q) p
  · have e:i=xs.length:=by omega
    subst e
    exact .inl ⟨⟨xs,q,Nat.le_refl _⟩,hd σ H p⟩
theorem for_tup {K:PySem.W.Frag} {a:Addr} {xs:List V} {g:TG} {tb:TS} {D:Ends} {σ:St} {H:Hp} (Pv:Nat->St->Hp->Prop) (h0:Pv 0 σ H) (hl:∀ i σ H,i<=xs.length->Pv i σ H->SqT K H a xs)
    (hs:∀ i x σ H,xs[i]?=some x->Pv i σ H->g x σ H fun σ2 H2=>tb { D with nx:=Pv (i+1),ct:=Pv (i+1),bk:=D.nx } σ2 H2) (hd:∀ σ H,Pv xs.length σ H->D.nx σ H):
    ∃ W:Nat->Nat->St->Hp->Prop,(∃ m,W 0 m σ H)/\∀ i m σ H,W i m σ H->
      ((Itt K a).stop i H/\D.nx σ H)\/((Itt K a).go i H/\∃ N:St->Hp->Prop,(∀ σ' H',N σ' H'->∃ m',m' < m/\W (i+1) m' σ' H')/\∀ x H',(Itt K a).yld i H x H'->g x σ H' fun σ2 H2=>tb { D with nx:=N,ct:=N,bk:=D.nx } σ2 H2):=by
  refine ⟨fun i m σ H=>m=xs.length - i/\i<=xs.length/\Pv i σ H,⟨xs.length,by simp,Nat.zero_le _,h0⟩,?_⟩
  rintro i m σ H ⟨rfl,hi,p⟩
  have q:=hl i σ H hi p
  by_cases hlt:i < xs.length
  · refine .inr ⟨⟨xs,xs[i],q,by simp [hlt]⟩,Pv (i+1),fun σ' H' p'=>⟨xs.length - (i+1),by omega,rfl,hlt,p'⟩,fun x H' y=>?_⟩
    obtain ⟨e,y⟩:=y
    subst e
    exact hs i x σ _ (y xs q) p
  · have e:i=xs.length:=by omega
    subst e
    exact .inl ⟨⟨xs,q,Nat.le_refl _⟩,hd σ H p⟩
end L2
namespace L2
open PySem PySem.Spec PyProof.Rows
abbrev R2:=V->V->Hp->VK->Prop
def OpR (X:Cx) (f:Value->Value->Sem Value) (r:R2):Prop:=
  ∀ (pins:List (Addr × Obj)) (s:Shared) (σ:St) (H:Hp) (x y:V) (v u:Value) (Q:VK),Inv X pins σ H s->RelV x v->RelV y u->r x y H Q->
    wpAny (model X.prog X.w) X.A (f v u) (EP X pins σ Q) X.xe s
def UnR (X:Cx) (f:Value->Sem Value) (r:V->Hp->VK->Prop):Prop:=
  ∀ (pins:List (Addr × Obj)) (s:Shared) (σ:St) (H:Hp) (x:V) (v:Value) (Q:VK),Inv X pins σ H s->RelV x v->r x H Q->
    wpAny (model X.prog X.w) X.A (f v) (EP X pins σ Q) X.xe s
def CallR (X:Cx) (f:Value) (r:List V->Hp->VK->Prop):Prop:=
  ∀ (pins:List (Addr × Obj)) (s:Shared) (σ:St) (H:Hp) (xs:List V) (us:List Value) (Q:VK),Inv X pins σ H s->Vals xs us->r xs H Q->
    wpAny (model X.prog X.w) X.A (call f us) (EP X pins σ Q) X.xe s
def TruR (X:Cx) (r:V->Hp->(Bool->Hp->Prop)->Prop):Prop:=
  ∀ (pins:List (Addr × Obj)) (s:Shared) (σ:St) (H:Hp) (x:V) (v:Value) (Q:Bool->Hp->Prop),Inv X pins σ H s->RelV x v->r x H Q->
    wpAny (model X.prog X.w) X.A (truthy v) (TP X pins σ Q) X.xe s
def tOp (r:R2) (ta tb:TE):TE:=fun σ H Q=>ta σ H fun x H1=>tb σ H1 fun y H2=>r x y H2 Q
def tUn (r:V->Hp->VK->Prop) (ta:TE):TE:=fun σ H Q=>ta σ H fun x H1=>r x H1 Q
def rI (C:Int->Int->Prop) (g:Int->Int->V):R2:=fun x y H Q=>∃ i j,x=.int i/\y=.int j/\C i j/\Q (g i j) H
def rI0 (g:Int->Int->V):R2:=fun x y H Q=>∃ i j,x=.int i/\y=.int j/\Q (g i j) H
def rU (g:Int->V):V->Hp->VK->Prop:=fun x H Q=>∃ i,x=.int i/\Q (g i) H
section
variable {X:Cx} {a b c:Expr} {ta tb tc:TE} {pos:Pos}
theorem binT (ha:PE X a ta) (hb:PE X b tb) {pins:List (Addr × Obj)} {s:Shared} {σ:St} {H:Hp} {R:V->V->Hp->Prop} (I:Inv X pins σ H s)
    (h:ta σ H fun x H1=>tb σ H1 fun y H2=>R x y H2) {Q:Value->Shared->Prop} {f:Value->Value->Sem Value}
    (hf:∀ v u s2 x y H2,Inv X pins σ H2 s2->RelV x v->RelV y u->R x y H2->wpAny (model X.prog X.w) X.A (f v u) Q X.xe s2):
    wpAny (model X.prog X.w) X.A (eval a X.env) (fun v s₁=>wpAny (model X.prog X.w) X.A (eval b X.env) (fun u s₂=>wpAny (model X.prog X.w) X.A (f v u) Q X.xe s₂) X.xe s₁) X.xe s:=by
  refine thn (ha pins s σ H _ I h) fun v s1 ⟨x,H1,I1,r1,q1⟩=>?_
  refine thn (hb pins s1 σ H1 _ I1 q1) fun u s2 ⟨y,H2,I2,r2,q2⟩=>?_
  exact hf v u s2 x y H2 I2 r1 r2 q2
theorem pe_op {op:Operator} {r:R2} (ho:OpR X (binaryOp op) r) (ha:PE X a ta) (hb:PE X b tb):PE X (.BinOp a op b pos) (tOp r ta tb):=by
  intro pins s σ H Q I h
  exact wpAny_BinOp (binT ha hb I h fun v u s2 x y H2 I2 rx ry q=>ho pins s2 σ H2 x y v u Q I2 rx ry q)
theorem pe_un {op:UnaryOp} {r:V->Hp->VK->Prop} (ho:UnR X (unaryOp op) r) (ha:PE X a ta):PE X (.UnaryOp op a pos) (tUn r ta):=by
  intro pins s σ H Q I h
  exact UnaryOp_ (thn (ha pins s σ H _ I h) fun v s1 ⟨x,H1,I1,r1,q1⟩=>ho pins s1 σ H1 x v Q I1 r1 q1)
theorem opI {f:Value->Value->Sem Value} {C:Int->Int->Prop} {g:Int->Int->Int}
    (rule:∀ (i j:Int) (t u:Tok) (s:Shared) (Q:Value->Shared->Prop) (E:Value->Shared->Prop),C i j->Q (.int (g i j) s.toks) { s with toks:=s.toks+1 }->wpAny (model X.prog X.w) X.A (f (.int i t) (.int j u)) Q E s):
    OpR X f (rI C fun i j=>.int (g i j)):=by
  intro pins s σ H x y v u Q I rx ry h
  obtain ⟨i,j,rfl,rfl,hc,q⟩:=h
  obtain ⟨t,rfl⟩:=rx
  obtain ⟨t',rfl⟩:=ry
  exact rule i j t t' s _ _ hc ⟨.int (g i j),H,I.tok _,⟨_,rfl⟩,q⟩
theorem opI0 {f:Value->Value->Sem Value} {g:Int->Int->Int}
    (rule:∀ (i j:Int) (t u:Tok) (s:Shared) (Q:Value->Shared->Prop) (E:Value->Shared->Prop),Q (.int (g i j) s.toks) { s with toks:=s.toks+1 }->wpAny (model X.prog X.w) X.A (f (.int i t) (.int j u)) Q E s):
    OpR X f (rI0 fun i j=>.int (g i j)):=by
  intro pins s σ H x y v u Q I rx ry h
  obtain ⟨i,j,rfl,rfl,q⟩:=h
  obtain ⟨t,rfl⟩:=rx
  obtain ⟨t',rfl⟩:=ry
  exact rule i j t t' s _ _ ⟨.int (g i j),H,I.tok _,⟨_,rfl⟩,q⟩
theorem opB0 {f:Value->Value->Sem Value} {g:Int->Int->Bool}
    (rule:∀ (i j:Int) (t u:Tok) (s:Shared) (Q:Value->Shared->Prop) (E:Value->Shared->Prop),Q (.bool (g i j)) s->wpAny (model X.prog X.w) X.A (f (.int i t) (.int j u)) Q E s):
    OpR X f (rI0 fun i j=>.bl (g i j)):=by
  intro pins s σ H x y v u Q I rx ry h
  obtain ⟨i,j,rfl,rfl,q⟩:=h
  obtain ⟨t,rfl⟩:=rx
  obtain ⟨t',rfl⟩:=ry
  exact rule i j t t' s _ _ ⟨.bl (g i j),H,I,rfl,q⟩
def CDiv (i j:Int):Prop:=0 < j/\j < 1073741824
def CPow (i j:Int):Prop:=0<=j/\j<=1000000/\i.natAbs < 2 ^ 64
def CMul (i j:Int):Prop:=(-(2 ^ 64) < i/\i < 2 ^ 64)\/(-(2 ^ 64) < j/\j < 2 ^ 64)
theorem CMul.ok {i j:Int} (h:CMul i j):IntMulOk i j:=by
  rcases h with ⟨h1,h2⟩ | ⟨h1,h2⟩
  · exact .of_left (intBits_le_64 h1 h2)
  · exact .of_right (intBits_le_64 h1 h2)
theorem op_add:OpR X (binaryOp .Add) (rI0 fun i j=>.int (i+j)):=opI0 fun _ _ _ _ _ _ _ q=>add_int q
theorem op_sub:OpR X (binaryOp .Sub) (rI0 fun i j=>.int (i - j)):=opI0 fun _ _ _ _ _ _ _ q=>sub_int q
theorem op_mul:OpR X (binaryOp .Mult) (rI CMul fun i j=>.int (i * j)):=opI fun _ _ _ _ _ _ _ hc q=>mul_int q hc.ok
theorem op_fdiv:OpR X (binaryOp .FloorDiv) (rI CDiv fun i j=>.int (i / j)):=opI fun i j _ _ _ _ _ hc q=>by
  have h1:(0:Int) < j:=hc.1
  have h2:j < 1073741824:=hc.2
  exact floordiv_int (by omega) (by rw [Int.fdiv_eq_ediv_of_nonneg i (by omega)];exact q) (.inl (PyProof.noPylong_small (by omega)))
theorem op_modN:OpR X (binaryOp .Mod) (rI (fun _ j=>j ≠ 0) fun i j=>.int (i.fmod j)):=opI fun _ _ _ _ _ _ _ hc q=>mod_int' hc q
theorem op_shl:OpR X (binaryOp .LShift) (rI CPow fun i j=>.int (i * 2 ^ j.toNat)):=opI fun _ _ _ _ _ _ _ hc q=>lshift_int_small hc.1 hc.2.1 hc.2.2 q
theorem op_and:OpR X (binaryOp .BitAnd) (rI0 fun i j=>.int (Builtin.bitAnd i j)):=opI0 fun _ _ _ _ _ _ _ q=>and_int q
theorem unI {f:Value->Sem Value} {g:Int->Int}
    (rule:∀ (i:Int) (t:Tok) (s:Shared) (Q:Value->Shared->Prop) (E:Value->Shared->Prop),Q (.int (g i) s.toks) { s with toks:=s.toks+1 }->wpAny (model X.prog X.w) X.A (f (.int i t)) Q E s):
    UnR X f (rU fun i=>.int (g i)):=by
  intro pins s σ H x v Q I rx h
  obtain ⟨i,rfl,q⟩:=h
  obtain ⟨t,rfl⟩:=rx
  exact rule i t s _ _ ⟨.int (g i),H,I.tok _,⟨_,rfl⟩,q⟩
theorem un_neg:UnR X (unaryOp .USub) (rU fun i=>.int (-i)):=unI fun _ _ _ _ _ q=>neg_int q
end
def scal:V->V->Bool
  | .non,.non=>true | .non,.int _=>true | .int _,.non=>true | .non,.bl _=>true | .bl _,.non=>true | .non,.str _=>true | .str _,.non=>true
  | .int _,.int _=>true | .bl _,.bl _=>true | .str _,.str _=>true | .byt _,.byt _=>true
  | .int _,.str _=>true | .str _,.int _=>true | .bl _,.str _=>true | .str _,.bl _=>true
  | _,_=>false
def rEq:R2:=fun x y H Q=>scal x y=true/\Q (.bl (decide (x=y))) H
def rNe:R2:=fun x y H Q=>scal x y=true/\Q (.bl (!decide (x=y))) H
theorem dec_int {i j:Int}:decide (V.int i=V.int j)=(i == j):=by
  rw [Bool.eq_iff_iff]
  simp
theorem dec_bl {i j:Bool}:decide (V.bl i=V.bl j)=(i == j):=by
  rw [Bool.eq_iff_iff]
  simp
theorem dec_str {i j:Str}:decide (V.str i=V.str j)=(i == j):=by
  rw [Bool.eq_iff_iff]
  simp
theorem dec_byt {i j:Array UInt8}:decide (V.byt i=V.byt j)=(i.toList == j.toList):=by
  rw [Bool.eq_iff_iff]
  cases i
  cases j
  simp
section
variable {X:Cx} {a b c:Expr} {ta tb tc:TE} {pos:Pos}
theorem fin_bl {pins:List (Addr × Obj)} {σ:St} {H:Hp} {s:Shared} {Q:VK} {k k':Bool} (I:Inv X pins σ H s) (q:Q (.bl k) H) (e:k=k'):EP X pins σ Q (.bool k') s:=by
  subst e
  exact ⟨.bl k,H,I,rfl,q⟩
theorem op_eq:OpR X (compareOp .Eq) rEq:=by
  intro pins s σ H x y v u Q I rx ry h
  obtain ⟨hs,q⟩:=h
  cases x with
  | non=>
    cases rx
    cases y with
    | non=>cases ry;exact PySem.EqNone.eq_none_none (fin_bl I q (by simp))
    | bl j=>cases ry;exact PySem.EqNone.eq_none_bool (fin_bl I q (by simp))
    | int j=>obtain ⟨t',rfl⟩:=ry;exact PySem.EqNone.eq_none_int (fin_bl I q (by simp))
    | str j=>obtain ⟨t',rfl⟩:=ry;exact PySem.EqNone.eq_none_str (fin_bl I q (by simp))
    | _=>exact absurd (show false=true from hs) Bool.false_ne_true
  | bl i=>
    cases rx
    cases y with
    | non=>cases ry;exact PySem.EqNone.eq_bool_none (fin_bl I q (by simp))
    | bl j=>cases ry;exact eq_bool (fin_bl I q dec_bl)
    | str j=>obtain ⟨t',rfl⟩:=ry;exact PySem.EqMixed.eq_bool_str (fin_bl I q (by simp))
    | _=>exact absurd (show false=true from hs) Bool.false_ne_true
  | int i=>
    obtain ⟨t,rfl⟩:=rx
    cases y with
    | non=>cases ry;exact PySem.EqNone.eq_int_none (fin_bl I q (by simp))
    | int j=>obtain ⟨t',rfl⟩:=ry;exact eq_int (fin_bl I q dec_int)
    | str j=>obtain ⟨t',rfl⟩:=ry;exact PySem.EqMixed.eq_int_str (fin_bl I q (by simp))
    | _=>exact absurd (show false=true from hs) Bool.false_ne_true
  | str i=>
    obtain ⟨t,rfl⟩:=rx
    cases y with
    | non=>cases ry;exact PySem.EqNone.eq_str_none (fin_bl I q (by simp))
    | bl j=>cases ry;exact PySem.EqMixed.eq_str_bool (fin_bl I q (by simp))
    | int j=>obtain ⟨t',rfl⟩:=ry;exact PySem.EqMixed.eq_str_int (fin_bl I q (by simp))
    | str j=>obtain ⟨t',rfl⟩:=ry;exact eq_str (fin_bl I q dec_str)
    | _=>exact absurd (show false=true from hs) Bool.false_ne_true
  | byt i=>
    obtain ⟨t,rfl⟩:=rx
    cases y with
    | byt j=>obtain ⟨t',rfl⟩:=ry;exact PySem.W.eq_bytes (fin_bl I q dec_byt)
    | _=>exact absurd (show false=true from hs) Bool.false_ne_true
  | _=>cases y <;> exact absurd (show false=true from hs) Bool.false_ne_true
theorem op_ne:OpR X (compareOp .NotEq) rNe:=by
  intro pins s σ H x y v u Q I rx ry h
  obtain ⟨hs,q⟩:=h
  cases x with
  | non=>
    cases rx
    cases y with
    | non=>cases ry;exact PySem.EqNone.ne_none_none (fin_bl I q (by simp))
    | bl j=>cases ry;exact PySem.EqNone.ne_none_bool (fin_bl I q (by simp))
    | int j=>obtain ⟨t',rfl⟩:=ry;exact PySem.EqNone.ne_none_int (fin_bl I q (by simp))
    | str j=>obtain ⟨t',rfl⟩:=ry;exact PySem.EqNone.ne_none_str (fin_bl I q (by simp))
    | _=>exact absurd (show false=true from hs) Bool.false_ne_true
  | bl i=>
    cases rx
    cases y with
    | non=>cases ry;exact PySem.EqNone.ne_bool_none (fin_bl I q (by simp))
    | bl j=>cases ry;exact ne_bool (fin_bl I q (congrArg not dec_bl))
    | str j=>obtain ⟨t',rfl⟩:=ry;exact PySem.EqMixed.ne_bool_str (fin_bl I q (by simp))
    | _=>exact absurd (show false=true from hs) Bool.false_ne_true
  | int i=>
    obtain ⟨t,rfl⟩:=rx
    cases y with
    | non=>cases ry;exact PySem.EqNone.ne_int_none (fin_bl I q (by simp))
    | int j=>obtain ⟨t',rfl⟩:=ry;exact ne_int (fin_bl I q (congrArg not dec_int))
    | str j=>obtain ⟨t',rfl⟩:=ry;exact PySem.EqMixed.ne_int_str (fin_bl I q (by simp))
    | _=>exact absurd (show false=true from hs) Bool.false_ne_true
  | str i=>
    obtain ⟨t,rfl⟩:=rx
    cases y with
    | non=>cases ry;exact PySem.EqNone.ne_str_none (fin_bl I q (by simp))
    | bl j=>cases ry;exact PySem.EqMixed.ne_str_bool (fin_bl I q (by simp))
    | int j=>obtain ⟨t',rfl⟩:=ry;exact PySem.EqMixed.ne_str_int (fin_bl I q (by simp))
    | str j=>obtain ⟨t',rfl⟩:=ry;exact ne_str (fin_bl I q (congrArg not dec_str))
    | _=>exact absurd (show false=true from hs) Bool.false_ne_true
  | byt i=>
    obtain ⟨t,rfl⟩:=rx
    cases y with
    | byt j=>obtain ⟨t',rfl⟩:=ry;exact PySem.W.ne_bytes (fin_bl I q (congrArg not dec_byt))
    | _=>exact absurd (show false=true from hs) Bool.false_ne_true
  | _=>cases y <;> exact absurd (show false=true from hs) Bool.false_ne_true
theorem op_lt:OpR X (compareOp .Lt) (rI0 fun i j=>.bl (decide (i < j))):=opB0 fun _ _ _ _ _ _ _ q=>lt_int q
theorem op_le:OpR X (compareOp .LtE) (rI0 fun i j=>.bl (decide (i<=j))):=opB0 fun _ _ _ _ _ _ _ q=>le_int q
theorem op_gt:OpR X (compareOp .Gt) (rI0 fun i j=>.bl (decide (j < i))):=opB0 fun _ _ _ _ _ _ _ q=>gt_int q
theorem op_ge:OpR X (compareOp .GtE) (rI0 fun i j=>.bl (decide (j<=i))):=opB0 fun _ _ _ _ _ _ _ q=>ge_int q
theorem op_isN:OpR X (compareOp .Is) (fun x y H Q=>y=.non/\Q (.bl (decide (x=.non))) H):=by
  intro pins s σ H x y v u Q I rx ry h
  obtain ⟨rfl,q⟩:=h
  cases ry
  refine is_none_gen (fin_bl I q ?_)
  cases x <;> first
    | (cases rx;rfl)
    | (obtain ⟨t,rfl⟩:=rx;rfl)
theorem nomark (b:Expr) {op:CmpOp} (h:op ≠ .In:=by decide) (h2:op ≠ .NotIn:=by decide):behindInMarks op b=false:=by
  have e1:(op == CmpOp.In)=false:=by cases op <;> first | rfl | exact absurd rfl h
  have e2:(op == CmpOp.NotIn)=false:=by cases op <;> first | rfl | exact absurd rfl h2
  cases b <;> simp [behindInMarks,e1,e2]
theorem pe_cmpR {op:CmpOp} {r:R2} (ho:OpR X (compareOp op) r) (ha:PE X a ta) (hb:PE X b tb) (hm:behindInMarks op b=false):PE X (.Compare a [op] [b] pos) (tOp r ta tb):=by
  intro pins s σ H Q I h
  exact wpAny_Compare1 (binT ha hb I h fun v u s2 x y H2 I2 rx ry q=>ho pins s2 σ H2 x y v u Q I2 rx ry q) hm
def tTest (t:TE):TT:=fun σ H Q=>t σ H fun x H'=>∃ k,x=.bl k/\Q k H'
theorem pt_cmpR {op:CmpOp} {r:R2} (ho:OpR X (compareOp op) r) (ha:PE X a ta) (hb:PE X b tb) (hm:behindInMarks op b=false):PT X (.Compare a [op] [b] pos) (tTest (tOp r ta tb)):=by
  intro pins s σ H Q I h
  refine wpAny_isTrue_Compare1 (thn (ha pins s σ H _ I h) fun v s1 ⟨x,H1,I1,r1,q1⟩=>thn (hb pins s1 σ H1 _ I1 q1) fun u s2 ⟨y,H2,I2,r2,q2⟩=>
    thn (ho pins s2 σ H2 x y v u _ I2 r1 r2 q2) fun c s3 ⟨z,H3,I3,r3,k,e,q3⟩=>?_) hm
  subst e
  cases r3
  exact wpAny_truthy_bool ⟨H3,I3,q3⟩
def tChain (r r':R2) (ta tb tc:TE):TE:=fun σ H Q=>ta σ H fun x H1=>tb σ H1 fun y H2=>r x y H2 fun z H3=>∃ k,z=.bl k ∧
  (if k=true then tc σ H3 fun w' H4=>r' y w' H4 Q else Q (.bl false) H3)
theorem pt_chain {op op':CmpOp} {r r':R2} (ho:OpR X (compareOp op) r) (ho':OpR X (compareOp op') r') (ha:PE X a ta) (hb:PE X b tb) (hc:PE X c tc)
    (hm:lastMarks [op,op'] [b,c]=false:=by with_unfolding_all rfl):PT X (.Compare a [op,op'] [b,c] pos) (tTest (tChain r r' ta tb tc)):=by
  intro pins s σ H Q I h
  refine isTrue_chain (thn (ha pins s σ H _ I h) fun v s1 ⟨x,H1,I1,r1,q1⟩=>test_link (thn (hb pins s1 σ H1 _ I1 q1) fun u s2 ⟨y,H2,I2,r2,q2⟩=>
    thn (ho pins s2 σ H2 x y v u _ I2 r1 r2 q2) fun d s3 ⟨z,H3,I3,r3,k,e,q3⟩=>?_)) hm
  subst e
  cases r3
  refine wpAny_truthy_bool ?_
  cases k with
  | false=>
    obtain ⟨k',e',q'⟩:=q3
    cases e'
    exact ite_ff ⟨H3,I3,q'⟩
  | true=>
    refine ite_tt (test_last (thn (hc pins s3 σ H3 _ I3 q3) fun w' s4 ⟨z',H4,I4,r4,q4⟩=>thn (ho' pins s4 σ H4 y z' u w' _ I4 r2 r4 q4) fun d' s5 ⟨z2,H5,I5,r5,k2,e2,q5⟩=>?_))
    subst e2
    cases r5
    exact wpAny_truthy_bool ⟨H5,I5,q5⟩
def TruV (K:PySem.W.Frag) (x:V) (H:Hp) (k:Bool):Prop:=
  match x with
  | .non=>k=false
  | .bl b=>k=b
  | .int i=>k=(i != 0)
  | .str y=>y.length<=sizeLine/\k=((y.length:Int) != 0)
  | .byt y=>y.size<=sizeLine/\k=((y.size:Int) != 0)
  | .ref p=>(∃ xs,SqL K H p xs/\k=!xs.isEmpty)\/(∃ xs,SqT K H p xs/\k=!xs.isEmpty)\/∃ kvs,H p=some (.dK kvs)/\k=!kvs.isEmpty
  | _=>False
theorem isEmpty_kv {κ:Type} {kvs:List (κ × V)} {vs:List (κ × Value)} (r:KV kvs vs):(!vs.isEmpty)=!kvs.isEmpty:=by
  cases r <;> rfl
theorem isEmpty_of {xs:List V} {its:List Value} (r:Vals xs its):(!its.toArray.isEmpty)=!xs.isEmpty:=by
  cases r <;> simp
theorem line63:(sizeLine:Nat) < 2 ^ 63:=by rw [sizeLine_eq];decide
theorem tru_ok:TruR X (fun x H Q=>∃ k,TruV X.K x H k/\Q k H):=by
  intro pins s σ H x v Q I rx h
  obtain ⟨k,e,q⟩:=h
  have hl:=line63
  have hs:sizeLine=16777216:=sizeLine_eq
  cases x with
  | non=>
    cases rx
    have e':k=false:=e
    subst e'
    exact truthy_none ⟨H,I,q⟩
  | bl b=>
    cases rx
    have e':k=b:=e
    subst e'
    exact wpAny_truthy_bool ⟨H,I,q⟩
  | int i=>
    obtain ⟨t,rfl⟩:=rx
    have e':k=(i != 0):=e
    subst e'
    exact PySem.P.truthy_int ⟨H,I,q⟩
  | str y=>
    obtain ⟨t,rfl⟩:=rx
    obtain ⟨hy,e'⟩:y.length<=sizeLine/\k=((y.length:Int) != 0):=e
    subst e'
    exact PySem.P.truthy_str (by omega) ⟨H,I.tok _,q⟩
  | byt y=>
    obtain ⟨t,rfl⟩:=rx
    obtain ⟨hy,e'⟩:y.size<=sizeLine/\k=((y.size:Int) != 0):=e
    subst e'
    exact PySem.W.truthy_bytes (by omega) ⟨H,I.tok _,q⟩
  | ref p=>
    cases rx
    have e':(∃ xs,SqL X.K H p xs/\k=!xs.isEmpty)\/(∃ xs,SqT X.K H p xs/\k=!xs.isEmpty)\/∃ kvs,H p=some (.dK kvs)/\k=!kvs.isEmpty:=e
    rcases e' with ⟨xs,hx,e'⟩ | ⟨xs,hx,e'⟩ | ⟨kvs,hx,e'⟩
    · subst e'
      obtain ⟨its,r,pl,hz⟩:=I.list hx
      have hlen:=r.length
      exact wpAny_truthy_list pl.isList (by simp only [List.size_toArray];omega) ⟨H,I.tok _,by rw [isEmpty_of r];exact q⟩
    · subst e'
      obtain ⟨its,r,pl,hz⟩:=I.tuple hx
      have hlen:=r.length
      exact truthy_tuple pl (by simp only [List.size_toArray];omega) ⟨H,I.tok _,by rw [isEmpty_of r];exact q⟩
    · subst e'
      obtain ⟨hz,hS,vs,r,m⟩:kvs.length<=sizeLine/\(p == sysModules)=false/\∃ vs,KV kvs vs/\s.heap.DictOf (mixKind X.prog X.w) p vs:=I.hok p _ hx
      have hlen:kvs.length=vs.length:=Paired.length r
      exact wpAny_truthy_dict hS m (by omega) ⟨H,I.tok _,by rw [isEmpty_kv r];exact q⟩
  | _=>exact (show False from e).elim
theorem pt_truth (ha:PE X a ta) (he:∀ whole,isTrue a X.env whole=(do let v ← whole;standAt a.pos;holding [v] (truthy v))):
    PT X a (fun σ H Q=>ta σ H fun x H'=>∃ k,TruV X.K x H' k/\Q k H'):=by
  intro pins s σ H Q I h
  exact isTrue_plain (thn (ha pins s σ H _ I h) fun v s1 ⟨x,H1,I1,r1,q1⟩=>tru_ok pins s1 σ H1 x v Q I1 r1 q1) (he _)
theorem vals1 {x:V} {us:List Value} (r:Vals [x] us):∃ u,us=[u]/\RelV x u:=by
  cases r with
  | cons r1 r2=>cases r2;exact ⟨_,rfl,r1⟩
theorem call_abs:CallR X (.builtin "abs") (fun xs H Q=>∃ i,xs=[.int i]/\Q (.int (if i < 0 then -i else i)) H):=by
  intro pins s σ H xs us Q I r h
  obtain ⟨i,rfl,q⟩:=h
  obtain ⟨u,rfl,t,rfl⟩:=vals1 r
  exact call_abs_int fun u tk=>⟨.int (if i < 0 then -i else i),H,I.tok _,⟨_,rfl⟩,q⟩
theorem call_ord:CallR X (.builtin "ord") (fun xs H Q=>∃ x,xs=[.str x]/\x.length=1/\Q (.int (x.cps.getD 0 0:Nat)) H):=by
  intro pins s σ H xs us Q I r h
  obtain ⟨x,rfl,hz,q⟩:=h
  obtain ⟨u,rfl,t,rfl⟩:=vals1 r
  exact ord_of_one hz ⟨.int _,H,I.tok _,⟨_,rfl⟩,q⟩
end
end L2
namespace L2
open PySem PySem.Spec PyProof.Rows
structure ObjM (h:Heap) (x dx C:Addr) (mA:Str->Option Value):Prop where
  obj:h.get? x=some (PySem.W.instObj C dx)
  ns:h.Ns1 dx mA
  ne:dx ≠ x
theorem lookIn_ns {h:Heap} {dx:Addr} {mA:Str->Option Value} (n:h.Ns1 dx mA):∃ od,h.get? dx=some od/\∀ name,PySem.W.lookIn name od=some (mA name):=by
  obtain ⟨o,es,ep,ho,hd,hk,_,hm⟩:=n
  refine ⟨o,ho,fun name=>?_⟩
  have e:=hm name
  unfold nsFind findBy at e
  rw [<- Array.find?_toList] at e
  unfold PySem.W.lookIn
  rw [hd]
  dsimp only
  split
  · rename_i y q
    rw [q] at e
    exact congrArg some e
  · rename_i q
    rw [q] at e
    have a:es.toList.any (·.refKey)=false:=by
      rw [List.any_eq_false]
      intro y hy
      obtain ⟨z,t,hkey⟩:=hk y (Array.mem_toList_iff.mp hy)
      simp [DictEntry.refKey,hkey]
    have a':¬ es.toList.any (·.refKey)=true:=by rw [a];exact Bool.false_ne_true
    rw [if_neg a']
    exact congrArg some e
theorem ObjM.look {h:Heap} {x dx C:Addr} {mA:Str->Option Value} (I:ObjM h x dx C mA):∃ od,PySem.W.InstAt h x (PySem.W.instObj C dx) C (some od)/\∀ name,PySem.W.lookIn name od=some (mA name):=
  let ⟨od,ho,hl⟩:=lookIn_ns I.ns
  ⟨od,⟨I.obj,rfl,rfl,ho⟩,hl⟩
section
variable {prog:Program} {w:World} {A:Around} {E:Value->Shared->Prop} {s:Shared} {K:PySem.W.Frag} {x dx C f:Addr} {mA:Str->Option Value} {name:Str} {v:Value}
theorem get_map {expr:Bool} {Q:Value->Shared->Prop} (X:K.In s.heap) (I:ObjM s.heap x dx C mA) (hg:PySem.W.plainGet K C name=true) (hh:PySem.W.hasDictIn K C=true)
    (ha:PySem.W.findIn K (.ref C) name=some none) (hv:mA name=some v) (hv':PySem.W.handedIn v=true) (h:Q v { s with toks:=s.toks+1 }):
    wpAny (model prog w) A (getAttr (.ref x) name expr) Q E s:=by
  obtain ⟨od,J,hl⟩:=I.look
  exact PySem.W.get_value X J (PySem.W.plainGet_of hg).1 (PySem.W.findObj_own hh ha rfl (by rw [hl,hv])) hv' h
theorem get_meth {pl:Sem Bool} {Q:Value × List Value->Shared->Prop} (X:K.In s.heap) (I:ObjM s.heap x dx C mA) (hg:PySem.W.plainGet K C name=true)
    (hf:PySem.W.findIn K (.ref C) name=some (some (.ref f))) (ht:PySem.W.isFn K (.ref f)=true) (hv:mA name=none) (h:Q (.ref f,[.ref x]) s):
    wpAny (model prog w) A (getMethod (.ref x) name pl) Q E s:=by
  obtain ⟨od,J,hl⟩:=I.look
  exact PySem.W.method_fn X J (PySem.W.plainGet_of hg).1 (PySem.W.plainGet_of hg).2 hf (beq_iff_eq.mp ht) (by show (PySem.W.lookIn name od).map (·.isSome)=some false;rw [hl,hv];rfl) h
theorem set_map {ns:List Str} {Q:Unit->Shared->Prop} (X:K.In s.heap) (I:ObjM s.heap x dx C mA)
    (hs:PySem.W.findIn K (.ref C) "__setattr__"=some (some (.builtin "object.__setattr__"))) (hp:PySem.W.plainOver K C=true) (ht:PySem.W.takerIn K C name=some none) (hh:PySem.W.hasDictIn K C=true)
    (hw:PySem.Within mA ns) (hsz:ns.length<=sizeLine)
    (h:∀ h',ObjM h' x dx C (fun y=>if y=name then some v else mA y)->Heap.SameBut dx s.heap h'->Q () { s with heap:=h',toks:=s.toks+2 }):
    wpAny (model prog w) A (setAttr (.ref x) name v) Q E s:=by
  obtain ⟨od,J,hl⟩:=I.look
  refine PySem.W.set_plain X J hs (PySem.W.osa_open (s:={ s with toks:=s.toks+1 }) (r:=none) X J hp ht fun b=>?_)
  obtain ⟨cd,hc,hd'⟩:=PySem.W.any_some hh
  have hx:s.heap.get? x=some ⟨.ref C,some dx,.plain,#[]⟩:=I.obj
  refine wpAny_bind (wpAny_pure (wpAny_bind (wpAny_bind (wpAny_loadPart hx (wpAny_bind (PySem.W.Looks.here (s:={ s with toks:=s.toks+1 }) (PySem.W.looks_clsIn X hc) ?_))))))
  rw [hd']
  refine wpAny_pure (a:=some dx) (wpAny_bind (wpAny_pure (wpAny_bind ?_)))
  refine wpAny_nsSet1 (s:={ s with toks:=s.toks+1 }) I.ns fun h' hn2 hs2=>?_
  obtain ⟨oD,esD,epD,hoD,hdD,hcD⟩:=hn2.count (PySem.Within.cons name v hw)
  refine wpAny_bind (wpAny_lookBehind hoD (by rw [hdD];exact pastItsLine_dict (Nat.le_trans hcD (by rw [List.length_cons];omega))) ?_)
  exact wpAny_pure (h _ ⟨(hs2.2 _ (Ne.symm I.ne)).trans I.obj,hn2,I.ne⟩ hs2)
theorem make_map {R:Result->Shared->Prop} {vs:List Value} {kw:List (Str × Value)} (X:K.In s.heap) (hm:PySem.W.makesIn K C=true)
    (hi:PySem.W.findIn K (.ref C) "__init__"=some (some (.ref f))) (hf:PySem.W.typeIn K (.ref f)=some (.type "function"))
    (h:codeAny (model prog w) (A.under (.builtin "type.__call__" ⟨.ref C::vs,kw⟩)) (.call (.ref f) ⟨.ref (s.heap.objs.size+1)::vs,kw⟩) (PySem.W.InitBack (s.heap.objs.size+1) R)
      { s with heap:=(s.heap.push PySem.W.emptyDict).push (PySem.W.instObj C s.heap.objs.size) }):
    codeAny (model prog w) A (.call (.ref C) ⟨vs,kw⟩) R s:=by
  obtain ⟨hh,g,d,t,os⟩:=s
  exact PySem.W.make_core (PySem.W.makes_of X hm) (PySem.W.looks_findIn X hi) (fun self=>PySem.W.bind_fn X self hf) (.inl rfl) h
end
def putF (f:Str) (v:V):List (Str × V)->List (Str × V)
  | []=>[(f,v)]
  | (g,x)::r=>if g=f then (g,v)::r else (g,x)::putF f v r
theorem lookup_putF (f g:Str) (v:V):∀ fs:List (Str × V),(putF f v fs).lookup g=if g=f then some v else fs.lookup g
  | []=>by
    show List.lookup g [(f,v)]=_
    by_cases h:g=f
    · have hb:(g == f)=true:=beq_iff_eq.mpr h
      simp only [List.lookup,hb,if_pos h]
    · have hb:(g == f)=false:=beq_eq_false_iff_ne.mpr h
      simp only [List.lookup,hb,if_neg h]
  | (k,x)::r=>by
    have ih:=lookup_putF f g v r
    rw [show putF f v ((k,x)::r)=(if k=f then (k,v)::r else (k,x)::putF f v r) from rfl]
    by_cases hk:k=f
    · rw [if_pos hk]
      by_cases h:g=k
      · have hb:(g == k)=true:=beq_iff_eq.mpr h
        simp only [List.lookup,hb,if_pos (h.trans hk)]
      · have hb:(g == k)=false:=beq_eq_false_iff_ne.mpr h
        simp only [List.lookup,hb,if_neg (fun e:g=f=>h (e.trans hk.symm))]
    · rw [if_neg hk]
      by_cases h:g=k
      · have hb:(g == k)=true:=beq_iff_eq.mpr h
        simp only [List.lookup,hb,if_neg (fun e:g=f=>hk (h.symm.trans e))]
      · have hb:(g == k)=false:=beq_eq_false_iff_ne.mpr h
        simp only [List.lookup,hb]
        exact ih
theorem keys_putF (f:Str) (v:V):∀ fs:List (Str × V),f ∈ (putF f v fs).map (·.1)/\∀ g,g ∈ fs.map (·.1)->g ∈ (putF f v fs).map (·.1)
  | []=>⟨by simp [putF],fun g h=>by simp at h⟩
  | (k,x)::r=>by
    obtain ⟨i1,i2⟩:=keys_putF f v r
    rw [show putF f v ((k,x)::r)=(if k=f then (k,v)::r else (k,x)::putF f v r) from rfl]
    by_cases hk:k=f
    · rw [if_pos hk]
      subst hk
      exact ⟨by simp,fun g h=>by simpa using h⟩
    · rw [if_neg hk]
      refine ⟨?_,fun g h=>?_⟩
      · rw [List.map_cons]
        exact List.mem_cons_of_mem _ i1
      · rw [List.map_cons] at h ⊢
        rcases List.mem_cons.mp h with e | e
        · exact List.mem_cons.mpr (.inl e)
        · exact List.mem_cons_of_mem _ (i2 g e)
theorem length_putF (f:Str) (v:V):∀ fs:List (Str × V),(putF f v fs).length<=fs.length+1
  | []=>by simp [putF]
  | (k,x)::r=>by
    have ih:=length_putF f v r
    rw [show putF f v ((k,x)::r)=(if k=f then (k,v)::r else (k,x)::putF f v r) from rfl]
    by_cases hk:k=f
    · rw [if_pos hk,List.length_cons,List.length_cons];omega
    · rw [if_neg hk,List.length_cons,List.length_cons];omega
theorem RelO.some_of {v:V} {o:Option Value} (r:RelO (some v) o):∃ u,o=some u/\RelV v u:=by
  cases o with
  | none=>exact (show False from r).elim
  | some u=>exact ⟨u,rfl,r⟩
theorem RelO.none_of {o:Option Value} (r:RelO none o):o=none:=by
  cases o with
  | none=>rfl
  | some u=>exact (show False from r).elim
theorem handed_of {v:V} {u:Value} (r:RelV v u):PySem.W.handedIn u=true:=by
  cases v with
  | non=>cases (show u=Value.none from r);rfl
  | bl b=>cases (show u=Value.bool b from r);rfl
  | int i=>obtain ⟨t,e⟩:=(show ∃ t,u=Value.int i t from r);cases e;rfl
  | str x=>obtain ⟨t,e⟩:=(show ∃ t,u=Value.str x t from r);cases e;rfl
  | byt b=>obtain ⟨t,e⟩:=(show ∃ t,u=Value.bytes b t from r);cases e;rfl
  | flt b=>obtain ⟨t,e⟩:=(show ∃ t,u=Value.float b t from r);cases e;rfl
  | ref a=>cases (show u=Value.ref a from r);rfl
  | ty n=>cases (show u=Value.type n from r);rfl
section
variable {P:Program} {w:World} {H H':Hp} {h h':Heap} {a C dx:Addr} {fs fs':List (Str × V)}
theorem ins_get (hok:HOk P w H h) (e:H a=some (.ins C dx fs)):∃ mA,ObjM h a dx C mA/\(∀ f,RelO (fs.lookup f) (mA f))/\PySem.Within mA (fs.map (·.1))/\fs.length<=1000/\H dx=some (.own a):=by
  obtain ⟨d,z,ne,ob,mA,n,r,q⟩:=(show ObjOk P w H h a (.ins C dx fs) from hok a _ e)
  exact ⟨mA,⟨ob,n,ne⟩,r,q,z,d⟩
end
structure Cls (K:PySem.W.Frag) (C:Addr):Prop where
  pg:PySem.W.plainGet K C Str.empty=true
  hd:PySem.W.hasDictIn K C=true
  po:PySem.W.plainOver K C=true
  sa:PySem.W.findIn K (.ref C) "__setattr__"=some (some (.builtin "object.__setattr__"))
theorem Cls.get {K:PySem.W.Frag} {C:Addr} (c:Cls K C) (f:Str):PySem.W.plainGet K C f=true:=c.pg
def NoAttr (K:PySem.W.Frag) (C:Addr) (f:Str):Prop:=PySem.W.findIn K (.ref C) f=some none
theorem NoAttr.taker {K:PySem.W.Frag} {C:Addr} {f:Str} (n:NoAttr K C f):PySem.W.takerIn K C f=some none:=by
  unfold PySem.W.takerIn
  rw [show PySem.W.findIn K (.ref C) f=some none from n]
  rfl
structure Con (K:PySem.W.Frag) (C:Addr) (f:Str) (v:V) (u:Value):Prop where
  at_:PySem.W.findIn K (.ref C) f=some (some u)
  rel:RelV v u
  get:PySem.W.specialIn K u "__get__"=some none
  cp:PySem.W.copiedNames.contains f=false
structure Meth (K:PySem.W.Frag) (C:Addr) (m:Str) (f:Addr):Prop where
  at_:PySem.W.findIn K (.ref C) m=some (some (.ref f))
  fn:PySem.W.isFn K (.ref f)=true
  kp:PySem.W.keepIn K (.ref f)=true
section
variable {X:Cx} {pins:List (Addr × Obj)} {σ:St} {H:Hp} {s:Shared} {a C dx:Addr} {fs:List (Str × V)} {f:Str} {v:V} {A:Around} {E:Value->Shared->Prop}
theorem getattr_ok {b:Bool} {Q:Value->Shared->Prop} (I:Inv X pins σ H s) (e:H a=some (.ins C dx fs)) (c:Cls X.K C) (n:NoAttr X.K C f) (l:fs.lookup f=some v)
    (h:∀ u s',Inv X pins σ H s'->RelV v u->Q u s'):wpAny (model X.prog X.w) A (getAttr (.ref a) f b) Q E s:=by
  obtain ⟨mA,O,r,_,_,_⟩:=ins_get I.hok e
  obtain ⟨u,hu,ru⟩:=RelO.some_of (v:=v) (o:=mA f) (by rw [<- l];exact r f)
  exact get_map I.kIn O (c.get f) c.hd n hu (handed_of ru) (h u _ (I.tok _) ru)
theorem getmeth_ok {m:Str} {g:Addr} {pl:Sem Bool} {Q:Value × List Value->Shared->Prop} (I:Inv X pins σ H s) (e:H a=some (.ins C dx fs)) (c:Cls X.K C) (k:Meth X.K C m g) (l:fs.lookup m=none)
    (h:Q (.ref g,[.ref a]) s):wpAny (model X.prog X.w) A (getMethod (.ref a) m pl) Q E s:=by
  obtain ⟨mA,O,r,_,_,_⟩:=ins_get I.hok e
  have hn:mA m=none:=RelO.none_of (by rw [<- l];exact r m)
  exact get_meth I.kIn O (c.get m) k.at_ k.fn hn h
theorem setattr_ok {y:V} {u:Value} {Q:Unit->Shared->Prop} (I:Inv X pins σ H s) (e:H a=some (.ins C dx fs)) (c:Cls X.K C) (n:NoAttr X.K C f) (hl:fs.length < 1000) (ry:RelV y u)
    (h:∀ s',Inv X pins σ (upd H a (.ins C dx (putF f y fs))) s'->Q () s'):wpAny (model X.prog X.w) A (setAttr (.ref a) f u) Q E s:=by
  obtain ⟨mA,O,r,wi,_,ho⟩:=ins_get I.hok e
  have hz:(fs.map (·.1)).length<=sizeLine:=by rw [List.length_map,sizeLine_eq];omega
  refine set_map I.kIn O c.sa c.po n.taker c.hd wi hz fun h' O' sb=>h _ ?_
  have hd:∃ o,h'.get? dx=some o:=let ⟨o,_,_,e',_⟩:=O'.ns;⟨o,e'⟩
  refine I.write (x:=a) (e:=dx) (by rw [e];exact True.intro) (.inr ho) (fun b q hb z=>(sb.2 b hb).trans z) hd ?_
  refine ⟨by rw [upd_ne O.ne];exact ho,?_,O.ne,O'.obj,_,O'.ns,fun g=>?_,fun g hg=>?_⟩
  · have:=length_putF f y fs;omega
  · show RelO ((putF f y fs).lookup g) (if g=f then some u else mA g)
    rw [lookup_putF]
    by_cases q:g=f
    · rw [if_pos q,if_pos q];exact ry
    · rw [if_neg q,if_neg q];exact r g
  · by_cases q:g=f
    · rw [q];exact (keys_putF f y fs).1
    · refine (keys_putF f y fs).2 g (wi g fun z=>hg ?_)
      show (if g=f then some u else mA g)=none
      rw [if_neg q];exact z
theorem Inv.made (I:Inv X pins σ H s):Inv X pins σ (upd (upd H s.heap.objs.size (.own (s.heap.objs.size+1))) (s.heap.objs.size+1) (.ins C s.heap.objs.size []))
    { s with heap:=(s.heap.push PySem.W.emptyDict).push (PySem.W.instObj C s.heap.objs.size) }:=by
  have e1:(s.heap.push PySem.W.emptyDict).get? s.heap.objs.size=some PySem.W.emptyDict:=Heap.get?_push_size s.heap rfl
  have e2:((s.heap.push PySem.W.emptyDict).push (PySem.W.instObj C s.heap.objs.size)).get? (s.heap.objs.size+1)=some (PySem.W.instObj C s.heap.objs.size):=by
    have:=Heap.get?_push_size (s.heap.push PySem.W.emptyDict) (o:=PySem.W.instObj C s.heap.objs.size) rfl
    rwa [Heap.size_push] at this
  have e3:(s.heap.push PySem.W.emptyDict).Ns s.heap.objs.size (fun _=>none):=⟨PySem.W.emptyDict,#[],_,e1,rfl,(fun e he=>absurd he (by simp)),fun _=>rfl⟩
  have I1:=I.laid (a:=s.heap.objs.size) (o:=.own (s.heap.objs.size+1)) (h':=s.heap.push PySem.W.emptyDict) (t':=s.toks) (fun b u q=>Heap.get?_push_of_some _ q) (Nat.le_refl _) ⟨_,e1⟩
  refine I1.laid (a:=s.heap.objs.size+1) (o:=.ins C s.heap.objs.size []) (t':=s.toks) (fun b u q=>Heap.get?_push_of_some _ q) (Nat.le_of_eq (Heap.size_push _ _)) ?_
  have ne:s.heap.objs.size ≠ s.heap.objs.size+1:=Nat.ne_of_lt (Nat.lt_succ_self _)
  refine ⟨by rw [upd_ne ne,upd_same],Nat.zero_le _,ne,e2,fun _=>none,(Heap.Ns1.of_empty e3).at fun o q=>Heap.get?_push_of_some _ q,fun _=>True.intro,fun y hy=>absurd rfl hy⟩
theorem attr_of {prog:Program} {w:World} {env:Env} {e:Expr} {f:Str} {pos:Pos} {s:Shared} {Q:Value->Shared->Prop} (hb:attributeBase e f env (eval e env)=eval e env)
    (h:wpAny (model prog w) A (eval e env) (fun o s₁=>wpAny (model prog w) A (getAttr o f true) Q E s₁) E s):wpAny (model prog w) A (eval (.Attribute e f pos) env) Q E s:=
  Attribute_any_ h (by rw [arm_eval_Attribute,hb])
end
def tFld (K:PySem.W.Frag) (ta:TE) (f:Str):TE:=fun σ H Q=>ta σ H fun x H1=>∃ a C dx fs v,x=.ref a/\H1 a=some (.ins C dx fs)/\Cls K C/\NoAttr K C f/\fs.lookup f=some v/\Q v H1
def sFld (K:PySem.W.Frag) (ta tv:TE) (f:Str):TS:=fun D σ H=>tv σ H fun y H1=>ta σ H1 fun x H2=>∃ a C dx fs,x=.ref a/\H2 a=some (.ins C dx fs)/\Cls K C/\NoAttr K C f/\fs.length < 1000 ∧
  D.nx σ (upd H2 a (.ins C dx (putF f y fs)))
def InOp (X:Cx) (op:Operator) (rd:V->V->Hp->VK->Prop):Prop:=
  ∀ (pins:List (Addr × Obj)) (s:Shared) (σ:St) (H:Hp) (x y:V) (u v:Value) (Q:VK),Inv X pins σ H s->RelV x u->RelV y v->rd x y H Q->wpAny (model X.prog X.w) X.A (inplaceOp op u v) (EP X pins σ Q) X.xe s
def sFldAug (K:PySem.W.Frag) (ta tv:TE) (rd:V->V->Hp->VK->Prop) (f:Str):TS:=fun D σ H=>ta σ H fun x H1=>∃ a C dx fs v,x=.ref a/\H1 a=some (.ins C dx fs)/\Cls K C/\NoAttr K C f/\fs.lookup f=some v ∧
  tv σ H1 fun y H2=>rd v y H2 fun z H3=>∃ dx' fs',H3 a=some (.ins C dx' fs')/\fs'.length < 1000/\D.nx σ (upd H3 a (.ins C dx' (putF f z fs')))
section
variable {X:Cx} {o e value:Expr} {f:Str} {pos pos' tpos:Pos} {ta tv:TE}
theorem pe_fld (he:PE X e ta) (hb:attributeBase e f X.env (eval e X.env)=eval e X.env):PE X (.Attribute e f pos) (tFld X.K ta f):=by
  intro pins s σ H Q I h
  refine attr_of hb (thn (he pins s σ H _ I h) fun u s1 ⟨x,H1,I1,rx,a,C,dx,fs,v,ex,ea,c,n,l,q⟩=>?_)
  subst ex
  obtain rfl:u=Value.ref a:=rx
  exact getattr_ok I1 ea c n l fun u' s2 I2 ru=>⟨v,H1,I2,ru,q⟩
theorem ps_fld (ha:PE X o ta) (hv:PE X value tv) (hs:swapsWith value (some (.Attribute o f pos')) pos.line X.env=pure false):PS X (.Assign [.Attribute o f pos'] value pos) (sFld X.K ta tv f):=by
  intro pins s σ H D I h
  refine plainObj_wpAny_Assign_Attribute (thn (hv pins s σ H _ I h) fun u s1 ⟨y,H1,I1,ry,q⟩=>thn (ha pins s1 σ H1 _ I1 q) fun ov s2 ⟨x,H2,I2,rx,a,C,dx,fs,ex,ea,c,n,l,q2⟩=>?_) hs
  subst ex
  obtain rfl:ov=Value.ref a:=rx
  exact setattr_ok I2 ea c n l ry fun s3 I3=>⟨σ,_,I3,q2⟩
theorem ps_fldaug {op:Operator} {rd:V->V->Hp->VK->Prop} (ha:PE X o ta) (hv:PE X value tv) (hop:InOp X op rd):PS X (.AugAssign (.Attribute o f tpos) op value pos) (sFldAug X.K ta tv rd f):=by
  intro pins s σ H D I h
  refine wpAny_AugAssign_AttributeAny (thn (ha pins s σ H _ I h) fun ov s1 ⟨x,H1,I1,rx,a,C,dx,fs,v,ex,ea,c,n,l,q⟩=>?_)
  subst ex
  obtain rfl:ov=Value.ref a:=rx
  refine getattr_ok I1 ea c n l fun u s2 I2 ru=>thn (hv pins s2 σ H1 _ I2 q) fun w3 s3 ⟨y,H2,I3,ry,q3⟩=>thn (hop pins s3 σ H2 v y u w3 _ I3 ru ry q3) fun w4 s4 ⟨z,H3,I4,rz,dx',fs',ea',l',q4⟩=>?_
  exact setattr_ok I4 ea' c n l' rz fun s5 I5=>⟨σ,_,I5,q4⟩
def rAdd:V->V->Hp->VK->Prop:=fun x y H Q=>∃ i j,x=.int i/\y=.int j/\Q (.int (i+j)) H
theorem in_add:InOp X .Add rAdd:=by
  rintro pins s σ H x y u v Q I rx ry ⟨i,j,rfl,rfl,q⟩
  obtain ⟨t,rfl⟩:=(show ∃ t,u=Value.int i t from rx)
  obtain ⟨t',rfl⟩:=(show ∃ t',v=Value.int j t' from ry)
  exact PyProof.Rows.iadd_int ⟨.int (i+j),H,I.tok _,⟨_,rfl⟩,q⟩
end
section
variable {X:Cx} {pins:List (Addr × Obj)} {σ:St} {H:Hp} {s:Shared} {A:Around} {E:Value->Shared->Prop} {Q:Value->Shared->Prop} {c:Value} {b:Bool}
inductive TyOf (K:PySem.W.Frag) (H:Hp):V->Value->Prop where
  | non:TyOf K H .non (.type "NoneType")
  | bl (x:Bool):TyOf K H (.bl x) (.type "bool")
  | int (i:Int):TyOf K H (.int i) (.type "int")
  | str (x:Str):TyOf K H (.str x) (.type "str")
  | flt (x:UInt64):TyOf K H (.flt x) (.type "float")
  | lst {a:Addr} {xs:List V} (e:H a=some (.lst xs)):TyOf K H (.ref a) (.type "list")
  | frz {a:Addr} {o:Obj} {xs:List V} (e:H a=some (.frz o (.lst xs))):TyOf K H (.ref a) (.type "list")
  | tup {a:Addr} {xs:List V} (e:H a=some (.tup xs)):TyOf K H (.ref a) (.type "tuple")
  | dK {a:Addr} {kvs:List (Key × V)} (e:H a=some (.dK kvs)):TyOf K H (.ref a) (.type "dict")
  | dT {a:Addr} {kvs:List (List Key × V)} (e:H a=some (.dT kvs)):TyOf K H (.ref a) (.type "dict")
  | ins {a C dx:Addr} {fs:List (Str × V)} (e:H a=some (.ins C dx fs)) (cl:Cls K C) (ha:PySem.W.findIn K (.ref C) "__class__"=some (some (.builtin "object.__class__")))
      (hn:PySem.W.specialIn K (.builtin "object.__class__") "__get__"=some (some (.builtin "getset_descriptor.__get__"))) (htk:PySem.W.takesIn K (.builtin "object.__class__")=some true)
      (hm:PySem.W.mroIn K C (.type "object")=some true):TyOf K H (.ref a) (.ref C)
end
end L2
namespace L2
open PySem PySem.Spec PyProof.Rows
structure Room (k:Nat) (A:Around):Prop where
  hd:A.handled=none
  dp:A.depth+3 * k+5 < recursionLimit
  un:A.units+16 * k+200 < cLine
theorem Room.mono {j k:Nat} {A:Around} (r:Room k A) (h:j<=k):Room j A:=⟨r.hd,by have:=r.dp;omega,by have:=r.un;omega⟩
theorem Room.deeper {k:Nat} {A:Around} (r:Room (k+1) A) (env:Env):Room k (A.deeper env):=
  ⟨r.hd,by have:=r.dp;show A.depth+1+3 * k+5 < _;omega,by have:=r.un;show A.units+3+16 * k+200 < _;omega⟩
theorem make_depth {A:Around} {C:Addr} {us:List Value} {kw:List (Str × Value)}:(A.under (.builtin "type.__call__" ⟨.ref C::us,kw⟩)).depth=A.depth+1:=by
  first | rfl | simp [Around.under,Code.weight,Code.isCreation,Code.isGuard,Code.isCaller,Code.frames,Code.isFrame,guardIds]
theorem make_units {A:Around} {C:Addr} {us:List Value} {kw:List (Str × Value)}:(A.under (.builtin "type.__call__" ⟨.ref C::us,kw⟩)).units=A.units+1:=by
  first | rfl | simp [Around.under,Code.cUnits,Code.frames,Code.isFrame]
theorem Room.make {k:Nat} {A:Around} (r:Room (k+1) A) (C:Addr) (us:List Value) (kw:List (Str × Value)):Room k (A.under (.builtin "type.__call__" ⟨.ref C::us,kw⟩)):=
  ⟨r.hd,by have:=r.dp;rw [make_depth];omega,by have:=r.un;rw [make_units];omega⟩
theorem Room.depth {k:Nat} {A:Around} (r:Room k A):A.depth < recursionLimit:=by have:=r.dp;omega
theorem Room.units {k:Nat} {A:Around} (r:Room k A):A.units+64 < cLine:=by have:=r.un;omega
def tNil:TA:=fun _ H Q=>Q [] H
def tCons (ta:TE) (tr:TA):TA:=fun σ H Q=>ta σ H fun x H1=>tr σ H1 fun xs H2=>Q (x::xs) H2
section
variable {X:Cx} {e:Expr} {es:List Expr} {te:TE} {t:TA} {pos:Pos}
theorem pa_nil:PA X [] tNil:=fun _ _ _ _ H Q I h=>Calls.spliced_nil ⟨[],H,I,.nil,h⟩
theorem pa_cons (ha:PE X e te) (hr:PA X es t) (hs:starEach (e::es) X.env=(false,eval e X.env)::starEach es X.env:=by rfl):PA X (e::es) (tCons te t):=by
  intro pos pins s σ H Q I h
  rw [hs]
  show wpAny _ _ (spliced ((false,eval e X.env)::backTo pos (starEach es X.env))) _ _ s
  refine Calls.spliced_cons (thn (ha pins s σ H _ I h) fun u s1 ⟨x,H1,I1,r1,q1⟩=>?_)
  exact thn (hr pos pins s1 σ H1 _ I1 q1) fun us s2 ⟨xs,H2,I2,r2,q2⟩=>⟨x::xs,H2,I2,.cons r1 r2,q2⟩
def tTup (t:TA):TE:=fun σ H Q=>t σ H fun xs H1=>xs.length<=sizeLine/\∀ p,H1 p=none->Q (.ref p) (upd H1 p (.tup xs))
def tLst (t:TA):TE:=fun σ H Q=>t σ H fun xs H1=>xs.length<=sizeLine/\∀ p,H1 p=none->Q (.ref p) (upd H1 p (.lst xs))
theorem pe_tup {x1} (h:PA X es t):PE X (.Tuple es x1 pos) (tTup t):=by
  intro pins s σ H Q I hq
  refine wpAny_Tuple_spliced (thn (h pos pins s σ H _ I hq) fun us s1 ⟨xs,H1,I1,r,z,q⟩=>⟨by rw [<- r.length];exact z,?_⟩)
  have hf:H1 s1.heap.objs.size=none:=I1.hok.fresh (Nat.le_refl _)
  refine ⟨.ref s1.heap.objs.size,upd H1 s1.heap.objs.size (.tup xs),I1.laid (t':=s1.toks) (fun b u e=>Heap.get?_push_of_some _ e) (Nat.le_refl _) ?_,rfl,q _ hf⟩
  exact ⟨z,us,r,⟨_,Heap.get?_push_size _ rfl,rfl,_,rfl⟩⟩
theorem pe_lst (h:PA X es t):PE X (.List es pos) (tLst t):=by
  intro pins s σ H Q I hq
  refine wpAny_List_spliced (thn (h pos pins s σ H _ I hq) fun us s1 ⟨xs,H1,I1,r,z,q⟩=>⟨by rw [<- r.length];exact z,?_⟩)
  have hf:H1 s1.heap.objs.size=none:=I1.hok.fresh (Nat.le_refl _)
  refine ⟨.ref s1.heap.objs.size,upd H1 s1.heap.objs.size (.lst xs),I1.laid (t':=s1.toks) (fun b u e=>Heap.get?_push_of_some _ e) (Nat.le_refl _) ?_,rfl,q _ hf⟩
  exact ⟨z,us,0,r,Heap.get?_push_size _ rfl⟩
end
abbrev Sp:=List V->Hp->VK->XK->Prop
abbrev CXT:=List Env->Hp->Shared->XK->Value->Shared->Prop
structure Env0 (P:Program) (w:World) (K:PySem.W.Frag) (mg:Str->Option Value) (base:Heap) (A:Around) (outer:List Env) (s:Shared) (H:Hp):Prop where
  frames:A.frames=some outer
  mod:Mod K mg base
  bs:∀ b o,base.get? b=some o->s.heap.get? b=some o/\H b=none
  bsz:base.objs.size<=s.heap.objs.size
  funs:s.heap.FunFrames base outer
  frf:∀ b ∈ frs outer,H b=none
  hok:HOk P w H s.heap
  bare:AllBare s.gens
def CE (outer:List Env) (P:Program) (w:World) (H:Hp) (s:Shared) (Q:VK) (u:Value) (s':Shared):Prop:=
  ∃ v H',s'.os=s.os/\AllBare s'.gens/\Un (frs outer) [] H H' s.heap s'.heap/\HOk P w H' s'.heap/\RelV v u/\Q v H'
def CR (CX:CXT) (outer:List Env) (P:Program) (w:World) (H:Hp) (s:Shared) (Q:VK) (E:XK) (r:Result) (s':Shared):Prop:=
  match r with
  | .ok (.ret u)=>CE outer P w H s Q u s'
  | .ok _=>False
  | .error e=>CX outer H s E e s'
structure FnOk (P:Program) (w:World) (K:PySem.W.Frag) (mg:Str->Option Value) (base:Heap) (CX:CXT) (k:Nat) (f:Addr) (fd:FuncData) (ps:List Str) (sp:Sp):Prop where
  len:∀ vs H Q E,sp vs H Q E->vs.length=ps.length
  run:∀ (A:Around) (outer:List Env) (s:Shared) (H:Hp) (args:Args) (us:List Value) (vs:List V) (Q:VK) (E:XK),Room k A->Env0 P w K mg base A outer s H->BindsTo s fd args (ps.zip us)->Vals vs us->sp vs H Q E->
    codeAny (model P w) A (.call (.ref f) args) (CR CX outer P w H s Q E) s
theorem FnOk.imp {P:Program} {w:World} {K:PySem.W.Frag} {mg:Str->Option Value} {base:Heap} {CX:CXT} {k:Nat} {f:Addr} {fd:FuncData} {ps:List Str} {sp sp':Sp} (F:FnOk P w K mg base CX k f fd ps sp)
    (h:∀ vs H Q E,sp' vs H Q E->sp vs H Q E):FnOk P w K mg base CX k f fd ps sp':=
  ⟨fun vs H Q E q=>F.len vs H Q E (h _ _ _ _ q),fun A outer s H args us vs Q E hr he hb hv hs=>F.run A outer s H args us vs Q E hr he hb hv (h _ _ _ _ hs)⟩
theorem Env0.make {P:Program} {w:World} {K:PySem.W.Frag} {mg:Str->Option Value} {base:Heap} {A:Around} {outer:List Env} {s:Shared} {H:Hp} (e:Env0 P w K mg base A outer s H) (C:Addr) (us:List Value) (kw:List (Str × Value)):
    Env0 P w K mg base (A.under (.builtin "type.__call__" ⟨.ref C::us,kw⟩)) outer s H:=⟨by first | exact e.frames | (simpa [Around.under,Code.envs,Code.isFrame,pushEnvs] using e.frames),e.mod,e.bs,e.bsz,e.funs,e.frf,e.hok,e.bare⟩
section
variable {X:Cx} {pins:List (Addr × Obj)} {σ:St} {H:Hp} {s s':Shared}
theorem Inv.env0 (I:Inv X pins σ H s):Env0 X.prog X.w X.K X.mg X.base X.A X.stack s H:=
  ⟨I.ok.frames,I.ok.mod,I.bs,Nat.le_trans I.ok.bsz I.sz,I.stack,I.stkFree,I.hok,I.bare⟩
theorem Inv.after {Q:VK} {u:Value} (I:Inv X pins σ H s) (h:CE X.stack X.prog X.w H s Q u s'):EP X pins σ Q u s':=by
  obtain ⟨v,H',os,bare,un,hok,r,q⟩:=h
  obtain ⟨hh,g,d,t,os'⟩:=s'
  obtain rfl:os'=s.os:=os
  exact ⟨v,H',I.call (h':=hh) (g':=g) (d':=d) (t':=t) (ch:=[]) un hok bare (fun b z=>absurd z (by simp)),r,q⟩
end
def tCall (sp:Sp) (dvs:List V) (E:XK) (t:TA):TE:=fun σ H Q=>t σ H fun vs H1=>sp (vs++dvs) H1 Q E
def tMeth (C:Addr) (m:Str) (sp:Sp) (dvs:List V) (E:XK) (ta:TE) (t:TA):TE:=fun σ H Q=>ta σ H fun x H1=>∃ a dx fs,x=.ref a/\H1 a=some (.ins C dx fs)/\fs.lookup m=none ∧
  t σ H1 fun vs H2=>sp (x::(vs++dvs)) H2 Q E
def tMake (C:Addr) (sp:Sp) (dvs:List V) (E:XK) (t:TA):TE:=fun σ H Q=>t σ H fun vs H1=>∀ x dx,H1 x=none->H1 dx=none->dx ≠ x->
  sp (.ref x::(vs++dvs)) (upd (upd H1 dx (.own x)) x (.ins C dx [])) (fun v H2=>v=.non/\Q (.ref x) H2) E
def Binds (K:PySem.W.Frag) (fd:FuncData) (ps:List Str) (ds:List Value):Prop:=
  ∀ (s:Shared) (us:List Value),K.In s.heap->(us++ds).length=ps.length->BindsTo s fd ⟨us,[]⟩ (ps.zip (us++ds))
theorem Binds.all {K:PySem.W.Frag} {fd:FuncData} {ps:List Str} (h:∀ us:List Value,us.length=ps.length->bindArgs fd ⟨us,[]⟩=pure (ps.zip us)):Binds K fd ps []:=fun s us _ hl=>by
  rw [List.append_nil] at hl ⊢
  exact .of_eq (h us hl)
def Passes (CX:CXT) (X:Cx) (E:XK):Prop:=∀ (pins:List (Addr × Obj)) (σ:St) (H:Hp) (s:Shared) (e:Value) (s':Shared),Inv X pins σ H s->CX X.stack H s E e s'->X.xe e s'
section
variable {X:Cx} {CX:CXT} {k:Nat} {f C:Addr} {fd:FuncData} {ps:List Str} {sp:Sp} {dvs:List V} {ds:List Value} {E:XK} {x m:Str} {p pos apos:Pos} {e o:Expr} {es:List Expr} {ta:TE} {t:TA}
theorem run_fn {pins:List (Addr × Obj)} {σ:St} {H:Hp} {s:Shared} {Q:VK} {us:List Value} {vs:List V} (F:FnOk X.prog X.w X.K X.mg X.base CX k f fd ps sp) (hr:Room k X.A) (hb:Binds X.K fd ps ds) (hd:Vals dvs ds) (hx:Passes CX X E)
    (I:Inv X pins σ H s) (r:Vals vs us) (h:sp (vs++dvs) H Q E):wpAny (model X.prog X.w) X.A (call (.ref f) us) (EP X pins σ Q) X.xe s:=by
  have r2:Vals (vs++dvs) (us++ds):=r.append hd
  have hl:(us++ds).length=ps.length:=by rw [<- r2.length];exact F.len _ _ _ _ h
  refine wpAny_call (codeAny_mono (F.run X.A X.stack s H ⟨us,[]⟩ (us++ds) (vs++dvs) Q E hr I.env0 (hb s us I.kIn hl) r2 h) fun r s' hq=>?_)
  cases r with
  | error e=>exact hx pins σ H s e s' I hq
  | ok fl=>
    cases fl with
    | ret u=>exact I.after hq
    | next=>exact False.elim hq
    | brk=>exact False.elim hq
    | cont=>exact False.elim hq
theorem pe_call (F:FnOk X.prog X.w X.K X.mg X.base CX k f fd ps sp) (hr:Room k X.A) (hg:Gl X x) (hm:X.mg x=some (.ref f)) (hk:PySem.W.keepIn X.K (.ref f)=true) (hb:Binds X.K fd ps ds) (hd:Vals dvs ds) (hx:Passes CX X E)
    (ha:PA X (e::es) t) (hdb:(x == ("__debug__":Str))=false:=by decide) (he:starEach (e::es) X.env=(false,eval e X.env)::starEach es X.env:=by rfl) (hpl:(backTo pos (starEach es X.env)).any (·.1)=false:=by rfl):
    PE X (.Call (.Name x p) (e::es) [] pos) (tCall sp dvs E t):=by
  intro pins s σ H Q I h
  refine wpAny_Call_Name_kw (ld_glob I hg hm ?_ hdb)
  refine PySem.W.callWith_K (h₀:=X.base) I.ok.mod.kin hk (thn (ha pos pins s σ H _ I h) fun us s1 ⟨vs,H1,I1,r,q⟩=>⟨I1.kIn,?_⟩) he hpl
  exact run_fn F hr hb hd hx I1 r q
theorem pe_meth {pl:Sem Bool} (he:PE X o ta) (c:Cls X.K C) (hm:Meth X.K C m f) (F:FnOk X.prog X.w X.K X.mg X.base CX k f fd ps sp) (hr:Room k X.A) (hb:Binds X.K fd ps ds) (hd:Vals dvs ds) (hx:Passes CX X E) (ha:PA X (e::es) t)
    (hst:starEach (e::es) X.env=(false,eval e X.env)::starEach es X.env:=by rfl) (hpl:(backTo pos (starEach es X.env)).any (·.1)=false:=by rfl)
    (ht:eval (.Call (.Attribute o m apos) (e::es) [] pos) X.env=(do
      let ov ← eval o X.env
      standAt apos.atName
      let (f,first) ← holding [ov] (getMethod ov m pl)
      callWith pos f first (backTo pos (starEach (e::es) X.env)) (backToKw pos (keywordEach [] X.env))):=by rfl):
    PE X (.Call (.Attribute o m apos) (e::es) [] pos) (tMeth C m sp dvs E ta t):=by
  intro pins s σ H Q I h
  refine PySem.W.methodCall_KW (pl:=pl) (thn (he pins s σ H _ I h) fun u s1 ⟨x,H1,I1,rx,a,dx,fs,ex,ea,l,q⟩=>?_) ht
  subst ex
  obtain rfl:u=Value.ref a:=rx
  refine getmeth_ok I1 ea c hm l ?_
  refine PySem.W.callWith_K (first:=[.ref a]) (h₀:=X.base) I.ok.mod.kin hm.kp (thn (ha pos pins s1 σ H1 _ I1 q) fun us s2 ⟨vs,H2,I2,r,q2⟩=>⟨I2.kIn,?_⟩) hst hpl
  exact run_fn (us:=.ref a::us) (vs:=.ref a::vs) F hr hb hd hx I2 (.cons rfl r) q2
theorem pe_meth0 {pl:Sem Bool} (he:PE X o ta) (c:Cls X.K C) (hm:Meth X.K C m f) (F:FnOk X.prog X.w X.K X.mg X.base CX k f fd ps sp) (hr:Room k X.A) (hb:Binds X.K fd ps ds) (hd:Vals dvs ds) (hx:Passes CX X E)
    (ht:eval (.Call (.Attribute o m apos) [] [] pos) X.env=(do
      let ov ← eval o X.env
      standAt apos.atName
      let (f,first) ← holding [ov] (getMethod ov m pl)
      callWith pos f first (backTo pos (starEach [] X.env)) (backToKw pos (keywordEach [] X.env))):=by rfl):
    PE X (.Call (.Attribute o m apos) [] [] pos) (tMeth C m sp dvs E ta tNil):=by
  intro pins s σ H Q I h
  refine PySem.W.methodCall_KW (pl:=pl) (thn (he pins s σ H _ I h) fun u s1 ⟨x,H1,I1,rx,a,dx,fs,ex,ea,l,q⟩=>?_) ht
  subst ex
  obtain rfl:u=Value.ref a:=rx
  refine getmeth_ok I1 ea c hm l ?_
  exact PySem.W.callWith_K0 (first:=[.ref a]) I1.kIn hm.kp (run_fn (us:=[.ref a]) (vs:=[.ref a]) F hr hb hd hx I1 (.cons rfl .nil) q)
structure Mk (K:PySem.W.Frag) (C f:Addr):Prop where
  makes:PySem.W.makesIn K C=true
  init:PySem.W.findIn K (.ref C) "__init__"=some (some (.ref f))
  fn:PySem.W.isFn K (.ref f)=true
  kp:PySem.W.keepIn K (.ref C)=true
theorem run_make {pins:List (Addr × Obj)} {σ:St} {H:Hp} {s:Shared} {Q:VK} {us:List Value} {vs:List V} (M:Mk X.K C f) (F:FnOk X.prog X.w X.K X.mg X.base CX k f fd ps sp) (hr:Room (k+1) X.A) (hb:Binds X.K fd ps ds) (hd:Vals dvs ds)
    (hx:Passes CX X E) (I:Inv X pins σ H s) (r:Vals vs us)
    (h:∀ x dx,H x=none->H dx=none->dx ≠ x->sp (.ref x::(vs++dvs)) (upd (upd H dx (.own x)) x (.ins C dx [])) (fun v H2=>v=.non/\Q (.ref x) H2) E):
    wpAny (model X.prog X.w) X.A (call (.ref C) us) (EP X pins σ Q) X.xe s:=by
  have hq:=h (s.heap.objs.size+1) s.heap.objs.size (I.hok.fresh (Nat.le_succ _)) (I.hok.fresh (Nat.le_refl _)) (Nat.ne_of_lt (Nat.lt_succ_self _))
  have I2:=Inv.made (C:=C) I
  have r2:Vals (V.ref (s.heap.objs.size+1)::(vs++dvs)) (Value.ref (s.heap.objs.size+1)::(us++ds)):=.cons rfl (r.append hd)
  have hl:(Value.ref (s.heap.objs.size+1)::us++ds).length=ps.length:=by
    have e:=r2.length
    rw [F.len _ _ _ _ hq] at e
    exact e.symm
  refine wpAny_call (make_map (f:=f) I.kIn M.makes M.init (beq_iff_eq.mp M.fn) (codeAny_mono (F.run _ X.stack _ _ ⟨Value.ref (s.heap.objs.size+1)::us,[]⟩ (Value.ref (s.heap.objs.size+1)::(us++ds)) _ _ E (hr.make C us [])
    (I2.env0.make C us []) (hb _ (Value.ref (s.heap.objs.size+1)::us) I2.kIn hl) r2 hq) fun r s' hq'=>?_))
  cases r with
  | error e=>exact hx pins σ _ _ e s' I2 hq'
  | ok fl=>
    cases fl with
    | ret u=>
      obtain ⟨v,H',I3,rv,ev,q3⟩:=I2.after hq'
      subst ev
      exact ⟨rv,⟨V.ref (s.heap.objs.size+1),H',I3,rfl,q3⟩⟩
    | next=>exact False.elim hq'
    | brk=>exact False.elim hq'
    | cont=>exact False.elim hq'
theorem pe_make (M:Mk X.K C f) (F:FnOk X.prog X.w X.K X.mg X.base CX k f fd ps sp) (hr:Room (k+1) X.A) (hg:Gl X x) (hm:X.mg x=some (.ref C)) (hb:Binds X.K fd ps ds) (hd:Vals dvs ds) (hx:Passes CX X E)
    (ha:PA X (e::es) t) (hdb:(x == ("__debug__":Str))=false:=by decide) (he:starEach (e::es) X.env=(false,eval e X.env)::starEach es X.env:=by rfl) (hpl:(backTo pos (starEach es X.env)).any (·.1)=false:=by rfl):
    PE X (.Call (.Name x p) (e::es) [] pos) (tMake C sp dvs E t):=by
  intro pins s σ H Q I h
  refine wpAny_Call_Name_kw (ld_glob I hg hm ?_ hdb)
  refine PySem.W.callWith_K (h₀:=X.base) I.ok.mod.kin M.kp (thn (ha pos pins s σ H _ I h) fun us s1 ⟨vs,H1,I1,r,q⟩=>⟨I1.kIn,?_⟩) he hpl
  exact run_make M F hr hb hd hx I1 r q
end
section
variable {X:Cx} {CX:CXT} {k:Nat} {f C:Addr} {fd:FuncData} {ps ks:List Str} {sp:Sp} {E:XK} {x m:Str} {p pos apos kpos:Pos} {e o:Expr} {es:List Expr} {kws:List Keyword} {te ta:TE} {t tk:TA} {nm:Option Str}
structure KBinds (K:PySem.W.Frag) (fd:FuncData) (ps ks:List Str) (g:List Value->List Value->List Value) (gV:List V->List V->List V):Prop where
  to:∀ (s:Shared) (us ws:List Value),K.In s.heap->(g us ws).length=ps.length->BindsTo s fd ⟨us,ks.zip ws⟩ (ps.zip (g us ws))
  rel:∀ {vs:List V} {us:List Value} {zs:List V} {ws:List Value},Vals vs us->Vals zs ws->Vals (gV vs zs) (g us ws)
variable {g:List Value->List Value->List Value} {gV:List V->List V->List V}
end
structure FnScope (N P:List Str) (sc:Scope):Prop where
  kind:sc.kind=.function
  co:sc.isCoroutine=false
  gen:sc.isGenerator=false
  nd:N.Nodup
  pre:N.take P.length=P
  par:∀ x ∈ P,sc.names.lookup x=some .local\/sc.names.lookup x=some .cell
  nofree:∀ y ∈ sc.names,y.2 ≠ .free
theorem bindL_out {kindOf:Str->Option NameKind} {x:Str}:∀ {binds:List (Str × Value)} {m:Str->Option Value},(∀ v,(x,v) ∉ binds)->bindL kindOf binds m x=m x
  | [],_,_=>rfl
  | (n,v)::r,m,h=>by
    unfold bindL
    rw [bindL_out fun w hw=>h w (List.mem_cons_of_mem _ hw)]
    split
    · have:x ≠ n:=by rintro rfl;exact h v List.mem_cons_self
      simp [this]
    · rfl
theorem bindC_out {kindOf:Str->Option NameKind} {x:Str}:∀ {binds:List (Str × Value)} {m:Str->Option Value},(∀ v,(x,v) ∉ binds)->bindC kindOf binds m x=m x
  | [],_,_=>rfl
  | (n,v)::r,m,h=>by
    unfold bindC
    rw [bindC_out fun w hw=>h w (List.mem_cons_of_mem _ hw)]
    split
    · rfl
    · have:x ≠ n:=by rintro rfl;exact h v List.mem_cons_self
      simp [this]
theorem bindL_get {kindOf:Str->Option NameKind} {x:Str} {v:Value}:∀ {P:List Str} {vs:List Value} {i:Nat} {m:Str->Option Value},P.Nodup->P[i]?=some x->vs[i]?=some v->kindOf x=some .local->
    bindL kindOf (P.zip vs) m x=some v
  | [],_,_,_,_,h,_,_=>by simp at h
  | _::_,[],_,_,_,_,h,_=>by simp at h
  | p::P,w::vs,0,m,nd,h1,h2,hk=>by
    simp at h1 h2;subst h1;subst h2
    show bindL kindOf ((p,w)::P.zip vs) m p=_
    unfold bindL
    rw [bindL_out fun v hv=>(List.nodup_cons.mp nd).1 (List.of_mem_zip hv).1,if_pos hk]
    simp
  | p::P,w::vs,i+1,m,nd,h1,h2,hk=>by
    show bindL kindOf ((p,w)::P.zip vs) m x=_
    unfold bindL
    exact bindL_get (i:=i) (List.nodup_cons.mp nd).2 (by simpa using h1) (by simpa using h2) hk
theorem bindC_get {kindOf:Str->Option NameKind} {x:Str} {v:Value}:∀ {P:List Str} {vs:List Value} {i:Nat} {m:Str->Option Value},P.Nodup->P[i]?=some x->vs[i]?=some v->kindOf x ≠ some .local->
    bindC kindOf (P.zip vs) m x=some v
  | [],_,_,_,_,h,_,_=>by simp at h
  | _::_,[],_,_,_,_,h,_=>by simp at h
  | p::P,w::vs,0,m,nd,h1,h2,hk=>by
    simp at h1 h2;subst h1;subst h2
    show bindC kindOf ((p,w)::P.zip vs) m p=_
    unfold bindC
    rw [bindC_out fun v hv=>(List.nodup_cons.mp nd).1 (List.of_mem_zip hv).1,if_neg hk]
    simp
  | p::P,w::vs,i+1,m,nd,h1,h2,hk=>by
    show bindC kindOf ((p,w)::P.zip vs) m x=_
    unfold bindC
    exact bindC_get (i:=i) (List.nodup_cons.mp nd).2 (by simpa using h1) (by simpa using h2) hk
def start (N:List Str) (vs:List V):St:=vs.map some++List.replicate (N.length - vs.length) none
def cxOf (CX:CXT) (P:Program) (w:World) (K:PySem.W.Frag) (mg:Str->Option Value) (base:Heap) (N:List Str) (qual:Str) (scope:Scope) (f:Addr) (cd:Value) (A:Around) (outer:List Env) (s:Shared) (H:Hp) (E:XK):Cx where
  prog:=P
  w:=w
  K:=K
  mg:=mg
  base:=base
  A:=A.deeper (envOfC qual scope s.heap.objs.size f cd)
  N:=N
  s_0:=s
  H_0:=H
  env:=envOfC qual scope s.heap.objs.size f cd
  outer:=outer
  stack:=envOfC qual scope s.heap.objs.size f cd::outer
  ex:=[]
  calm:=true
  fn:=fun _=>true
  pn:=[]
  xe:=fun e s'=>wpAny (model P w) (A.deeper (envOfC qual scope s.heap.objs.size f cd)) (leaving (envOfC qual scope s.heap.objs.size f cd) e) (fun _ s''=>CX outer H s E e s'') (fun e' s''=>CX outer H s E e' s'') s'
theorem cell_has {sc:Scope} {n:Nat} {x:Str} (h:sc.names.lookup x=some .cell):∃ c,(cellsFrom n sc.names []).lookup x=some c:=by
  have q:=PySem.W.cellsFrom_some sc.names n [] (.inl h)
  exact Option.isSome_iff_exists.mp q
theorem inv_start {CX:CXT} {P:Program} {w:World} {K:PySem.W.Frag} {mg:Str->Option Value} {base:Heap} {N ps:List Str} {qual:Str} {scope:Scope} {f:Addr} {cd:Value} {A:Around} {outer:List Env} {s s1:Shared} {H:Hp} {E:XK} {us:List Value} {vs:List V}
    (S:FnScope N ps scope) (hd:A.handled=none) (e0:Env0 P w K mg base A outer s H) (hl:vs.length=ps.length) (r:Vals vs us)
    (x:InCallC s s.heap.objs.size (bindL (envOfC qual scope s.heap.objs.size f cd).kindOf (ps.zip us) fun _=>none) (cellsFrom (s.heap.objs.size+1) scope.names []) (bindC (envOfC qual scope s.heap.objs.size f cd).kindOf (ps.zip us) fun _=>none) s1):
    Inv (cxOf CX P w K mg base N qual scope f cd A outer s H E) [] (start N vs) H s1:=by
  have hpl:ps.length<=N.length:=by have:=congrArg List.length S.pre;rw [List.length_take] at this;omega
  obtain ⟨h1,tk,rfl,hk⟩:=x.done
  have noA:∀ b:Addr,b ∉ (cxOf CX P w K mg base N qual scope f cd A outer s H E).ex:=fun b z=>absurd (show b ∈ ([]:List Addr) from z) (by simp)
  refine ⟨⟨e0.mod,S.kind,rfl,rfl,Nat.le_refl _,fun y z c h1 h2=>?_,fun y hy=>?_,fun y c _ h=>?_,fun _=>hd,Around.frames_deeper e0.frames,.inr ⟨rfl,rfl⟩,fun b z=>absurd z (noA b),e0.bs,e0.bsz,fun b _ _=>noA b,fun b z=>absurd z (noA b),e0.funs,e0.frf⟩,
    rfl,e0.bare,Un.kept hk,⟨_,x.toInCall.ns,fun i y v h1 h2 h3=>?_⟩,fun y c h=>⟨_,x.cell y c h⟩,e0.hok.fresh (Nat.le_refl _),fun y c h=>?_,fun p hp=>absurd (show p ∈ ([]:List (Addr × Obj)) from hp) (by simp),e0.hok.kept hk,?_⟩
  · exact name_of_addr x.apart (PySem.mem_of_lookup h1) (PySem.mem_of_lookup h2)
  · have hy:scope.names.lookup y=some .cell\/scope.names.lookup y=some .free:=hy
    rcases hy with hy | hy
    · exact cell_has hy
    · exact absurd rfl (S.nofree _ (PySem.mem_of_lookup hy))
  · exact Nat.le_of_lt (x.above y c (PySem.mem_of_lookup h))
  · have hi:i < vs.length:=by
      unfold start at h2
      by_cases hi:i < vs.length
      · exact hi
      · rw [List.getElem?_append_right (by simpa using hi)] at h2
        rw [List.getElem?_replicate] at h2
        split at h2 <;> cases h2
    have ha:vs[i]?=some v:=by
      unfold start at h2
      rw [List.getElem?_append_left (by simpa using hi),List.getElem?_map] at h2
      cases e:vs[i]? with
      | none=>rw [e] at h2;cases h2
      | some a=>rw [e] at h2;cases h2;rfl
    obtain ⟨u,hu,rv⟩:=r.get ha
    have hp:ps[i]?=some y:=by
      rw [<- S.pre,List.getElem?_take_of_lt (by omega)];exact h1
    have ndP:ps.Nodup:=by rw [<- S.pre];exact S.nd.sublist (List.take_sublist _ _)
    refine ⟨u,rv,?_⟩
    rcases S.par y (List.mem_of_getElem? hp) with k | k
    · exact .inl ⟨k,bindL_get ndP hp hu k⟩
    · obtain ⟨c,e⟩:=cell_has (n:=s.heap.objs.size+1) k
      refine .inr ⟨.inl k,c,e,?_⟩
      have q:=x.cell y c e
      rw [bindC_get ndP hp hu (by show scope.names.lookup y ≠ _;rw [k];decide)] at q
      exact q
  · exact e0.hok.fresh (Nat.le_of_lt (x.above y c (PySem.mem_of_lookup h)))
  · unfold start
    show _=N.length
    rw [List.length_append,List.length_map,List.length_replicate]
    omega
theorem fn_of {CX:CXT} {P:Program} {w:World} {K:PySem.W.Frag} {mg:Str->Option Value} {base:Heap} {k:Nat} {f:Addr} {name qual:Str} {params:Arguments} {body:List Stmt} {scope:Scope} {dV kV doc pm cdv ct oc:Value} {an od:Option Addr}
    {osl:Array (Option Value)} {N ps:List Str} {sp:Sp} (lk:K.lookup f=some ⟨oc,od,.func (PySem.W.fnOf name qual params body scope dV kV doc pm an cdv ct),osl⟩) (hcd:PySem.W.codeIn K cdv qual=true) (S:FnScope N ps scope)
    (len:∀ vs H Q E,sp vs H Q E->vs.length=ps.length)
    (hbody:∀ (A:Around) (outer:List Env) (s:Shared) (H:Hp) (vs:List V) (Q:VK) (E:XK),Room k (A.deeper (envOfC qual scope s.heap.objs.size f cdv))->sp vs H Q E->
      ∃ t,PSs (cxOf CX P w K mg base N qual scope f cdv A outer s H E) body t/\t { nx:=fun _ H'=>Q .non H',rt:=Q } (start N vs) H):
    FnOk P w K mg base CX (k+1) f (PySem.W.fnOf name qual params body scope dV kV doc pm an cdv ct) ps sp:=by
  refine ⟨len,fun A outer s H args us vs Q E hr e0 hb r hsp=>?_⟩
  have hl:=len _ _ _ _ hsp
  have KX:K.In s.heap:=e0.mod.kin.keeps fun b o e=>(e0.bs b o e).1
  have lim:s.heap.NoLimit:=e0.mod.nolimit.keeps fun b o e=>(e0.bs b o e).1
  have hkind:∀ y ∈ ps.zip us,scope.names.lookup y.1=some .local\/(scope.names.lookup y.1=some .cell/\((cellsFrom (s.heap.objs.size+1) scope.names []).lookup y.1).isSome=true):=fun ⟨n,v⟩ hy=>by
    rcases S.par n (List.of_mem_zip hy).1 with q | q
    · exact .inl q
    · exact .inr ⟨q,PySem.W.cellsFrom_some _ _ _ (.inl q)⟩
  refine codeAny_call_function hr.depth (KX _ _ lk) rfl S.co S.gen rfl (PySem.W.codeRec_of KX hcd) (hb _ _ _ _ ?_)
  refine wpAny_newFunctionEnv_cells S.kind hkind fun env he s1 x=>?_
  subst he
  refine ⟨lim.keeps x.toInCall.keep,codeAny_func ?_⟩
  obtain ⟨t,ht,hq⟩:=hbody A outer s H vs Q E (hr.deeper _) hsp
  have I:Inv (cxOf CX P w K mg base N qual scope f cdv A outer s H E) [] (start N vs) H s1:=inv_start S hr.hd e0 hl r x
  refine wpAny_mono (ht [] s1 (start N vs) H _ I hq) (fun fl s' hs=>?_) fun e s' hs=>hs
  have fin:∀ {σ':St} {H':Hp} {v:V} {u:Value},Inv (cxOf CX P w K mg base N qual scope f cdv A outer s H E) [] σ' H' s'->RelV v u->Q v H'->CE outer P w H s Q u s':=
    fun {σ' H' v u} J rv q=>⟨v,H',J.os,J.bare,J.base,J.hok,rv,q⟩
  cases fl with
  | ret u=>
    obtain ⟨v,σ',H',J,rv,q⟩:=hs
    exact fin J rv q
  | next=>
    obtain ⟨σ',H',J,q⟩:=hs
    exact fin (v:=V.non) (u:=Value.none) J rfl q
  | brk=>
    obtain ⟨_,_,_,q⟩:=hs
    exact False.elim q
  | cont=>
    obtain ⟨_,_,_,q⟩:=hs
    exact False.elim q
end L2
namespace L2
open PySem PySem.Spec PyProof.Rows
section
variable {X:Cx} {x:Str} {p pos:Pos} {e:Expr} {es:List Expr} {t:TA} {id T:String} {r:List V->Hp->VK->Prop}
def tCB (r:List V->Hp->VK->Prop) (t:TA):TE:=fun σ H Q=>t σ H fun vs H1=>r vs H1 Q
theorem pe_callB (hc:CallR X (.builtin id) r) (hg:Gl X x) (hm:X.mg x=none) (hv:bootBuiltins x=some (.builtin id)) (ha:PA X (e::es) t) (hn:x ≠ "__name__":=by decide) (hdb:(x == ("__debug__":Str))=false:=by decide)
    (he:starEach (e::es) X.env=(false,eval e X.env)::starEach es X.env:=by rfl) (hpl:(backTo pos (starEach es X.env)).any (·.1)=false:=by rfl):PE X (.Call (.Name x p) (e::es) [] pos) (tCB r t):=by
  intro pins s σ H Q I h
  refine wpAny_Call_Name_kw (ld_blt I hg hm hv ?_ hn hdb)
  exact PyProof.Rows.callWith_builtin1 (thn (ha pos pins s σ H _ I h) fun us s1 ⟨vs,H1,I1,r1,q1⟩=>hc pins s1 σ H1 vs us Q I1 r1 q1) he hpl
theorem pe_callTy (hc:CallR X (.type T) r) (hg:Gl X x) (hm:X.mg x=none) (hv:bootBuiltins x=some (.type T)) (ha:PA X (e::es) t) (hn:x ≠ "__name__":=by decide) (hdb:(x == ("__debug__":Str))=false:=by decide)
    (he:starEach (e::es) X.env=(false,eval e X.env)::starEach es X.env:=by rfl) (hpl:(backTo pos (starEach es X.env)).any (·.1)=false:=by rfl):PE X (.Call (.Name x p) (e::es) [] pos) (tCB r t):=by
  intro pins s σ H Q I h
  refine wpAny_Call_Name_kw (ld_blt I hg hm hv ?_ hn hdb)
  exact PyProof.Rows.callWith_type1 (thn (ha pos pins s σ H _ I h) fun us s1 ⟨vs,H1,I1,r1,q1⟩=>hc pins s1 σ H1 vs us Q I1 r1 q1) he hpl
end
end L2
namespace HT
open PySem PyProof.Rows
section
open PySem.SeqAt
open PySem.AutoSeq1 (wpAny_loadPart')
open PySem.MeetsSeq PySem.MeetsSeq2 PySem.MeetsSeq3
end
section
variable {prog:Program} {w:World} {A:Around} {E:Value->Shared->Prop} {s:Shared}
def sIx (n d:Nat):Option Int->Nat
  | none=>d
  | some v=>if v < 0 then (v+(n:Int)).toNat else min v.toNat n
theorem sIx_none (n d:Nat):sIx n d none=d:=rfl
theorem sIx_nat (n d k:Nat):sIx n d (some (k:Int))=min k n:=by
  show (if (k:Int) < 0 then ((k:Int)+(n:Int)).toNat else min (k:Int).toNat n)=min k n
  rw [if_neg (by omega),Int.toNat_natCast]
theorem sIx_le (n d:Nat) (hd:d<=n) (o:Option Int):sIx n d o<=n:=by
  cases o with
  | none=>exact hd
  | some v=>
    show (if v < 0 then (v+(n:Int)).toNat else min v.toNat n)<=n
    by_cases hv:v < 0
    · rw [if_pos hv];omega
    · rw [if_neg hv];exact Nat.min_le_right _ _
theorem clip_eq (v:Int) (n d:Nat):(if v < 0 then max (v+(n:Int)) 0 else min v (n:Int))=((sIx n d (some v):Nat):Int):=by
  show (if v < 0 then max (v+(n:Int)) 0 else min v (n:Int))=(((if v < 0 then (v+(n:Int)).toNat else min v.toNat n):Nat):Int)
  by_cases hv:v < 0
  · simp only [if_pos hv];omega
  · simp only [if_neg hv];omega
theorem adjust_gen (lo hi:Option Int) (n:Nat):Builtin.Slice.sliceAdjust lo hi 1 (n:Int)=(((sIx n 0 lo:Nat):Int),((sIx n n hi:Nat):Int)):=by
  have h1:¬ ((1:Int) < 0):=by omega
  unfold Builtin.Slice.sliceAdjust
  simp only [h1,if_false]
  refine Prod.ext ?_ ?_
  · cases lo with
    | none=>rfl
    | some v=>exact clip_eq v n 0
  · cases hi with
    | none=>rfl
    | some v=>exact clip_eq v n n
theorem places_gen (i j:Nat):Builtin.Slice.slicePlaces (i:Int) (j:Int) 1=j - i:=by
  unfold Builtin.Slice.slicePlaces
  have h1:(1:Int) > 0:=by omega
  simp only [h1,if_true,Int.ediv_one]
  split <;> omega
theorem slicePart_ {v:Value} {o:Option Int} {Q:Option Int->Shared->Prop} (p:IsPart v o) (h:Q o s):wpAny (model prog w) A (Builtin.Slice.slicePartIndex v) Q E s:=by
  cases p with
  | none=>exact slicePart_none h
  | int i t=>exact slicePart_int h
theorem sliceApplied_gen {sl:Addr} {vl vu:Value} {lo hi:Option Int} {n:Nat} {Q:Int × Int × Nat->Shared->Prop} (hs:s.heap.IsSliceOf sl vl vu .none) (pl:IsPart vl lo) (pu:IsPart vu hi)
    (h:Q (((sIx n 0 lo:Nat):Int),1,sIx n n hi - sIx n 0 lo) s):wpAny (model prog w) A (Builtin.Slice.sliceApplied (.ref sl) (pure (n:Int))) Q E s:=by
  obtain ⟨os,hos,hcs,hds⟩:=id hs
  unfold Builtin.Slice.sliceApplied Builtin.Slice.sliceFields
  refine wpAny_bind (wpAny_bind (wpAny_field hos hds (x:=vl) rfl (wpAny_bind (wpAny_field hos hds (x:=vu) rfl (wpAny_bind (wpAny_field hos hds (x:=.none) rfl (wpAny_pure ?_)))))))
  refine wpAny_bind (slicePart_none ?_)
  show wpAny _ _ (if ((1:Int) == 0)=true then _ else _) _ _ s
  rw [if_neg (by decide)]
  refine wpAny_bind (slicePart_ pl (wpAny_bind (slicePart_ pu (wpAny_bind (wpAny_pure ?_)))))
  show wpAny _ _ (match Builtin.Slice.sliceAdjust lo hi 1 (n:Int) with | (lo,hi)=>pure (lo,(1:Int),Builtin.Slice.slicePlaces lo hi 1)) _ _ s
  rw [adjust_gen lo hi n]
  show wpAny _ _ (pure (((sIx n 0 lo:Nat):Int),(1:Int),Builtin.Slice.slicePlaces ((sIx n 0 lo:Nat):Int) ((sIx n n hi:Nat):Int) 1)) _ _ s
  rw [places_gen]
  exact wpAny_pure h
theorem pick_gen (xs:Array Value) (i k:Nat):((List.range k).filterMap fun (m:Nat)=>xs[((i:Int)+(m:Int) * 1).toNat]?).toArray=((xs.toList.drop i).take k).toArray:=by
  have e:(fun (m:Nat)=>xs[((i:Int)+(m:Int) * 1).toNat]?)=fun m=>xs[i+m]?:=by
    funext m
    have:((i:Int)+(m:Int) * 1).toNat=i+m:=by omega
    rw [this]
  rw [e]
  have:=pick_run xs i k
  rw [List.filterMap_map] at this
  have e2:((fun x=>xs[x]?) ∘ fun x=>i+x)=fun m=>xs[i+m]?:=rfl
  rw [e2] at this
  rw [this]
theorem getItem_tuple_cut {t sl:Addr} {items:Array Value} {vl vu:Value} {lo hi:Option Int} {Q:Value->Shared->Prop} (ht:IsTup s.heap t items) (hs:s.heap.IsSliceOf sl vl vu .none) (pl:IsPart vl lo) (pu:IsPart vu hi)
    (hw:¬ (sIx items.size 0 lo=0/\sIx items.size items.size hi=items.size))
    (h:Q (.ref s.heap.objs.size) { s with heap:=s.heap.push { cls:=.type "tuple",data:=.seq ((items.toList.drop (sIx items.size 0 lo)).take (sIx items.size items.size hi - sIx items.size 0 lo)).toArray } })
    (hsz:items.size<=sizeLine):wpAny (model prog w) A (getItem (.ref t) (.ref sl)) Q E s:=by
  have htake:sizeOk (.seq ((items.toList.drop (sIx items.size 0 lo)).take (sIx items.size items.size hi - sIx items.size 0 lo)).toArray):=by
    show ((items.toList.drop (sIx items.size 0 lo)).take (sIx items.size items.size hi - sIx items.size 0 lo)).toArray.size<=sizeLine
    rw [List.size_toArray,List.length_take,List.length_drop,Array.length_toList]
    omega
  have hj:sIx items.size items.size hi<=items.size:=sIx_le _ _ (Nat.le_refl _) hi
  obtain ⟨os,hos,hcs,hds⟩:=id hs
  have hTs:s.TypeIs (.ref sl) "slice":=⟨os,hos,hcs⟩
  unfold getItem
  try with_reducible refine wpAny_holding ?_
  first | refine wpAny_bind (wpAny_pure ?_) | skip
  refine wpAny_bind (wpAny_sequenceKey ht.typeIs (by decide) ?_)
  refine wpAny_bind (wpAny_callSpecial?_slot (name:=Str.ofString "__getitem__") ht.typeIs PyProof.Rows.slot_tuple_getitem
    (wpAny_call_entry PyProof.Rows.slot_tuple_getitem ht.typeIs entry_tuple_getitem ?_ (args_tuple_getitem _ _)))
  show wpAny _ _ (Builtin.Tuple.tupleItemsOf (.ref t) >>= _) _ _ s
  refine wpAny_bind (tupleItemsOf_ ht ?_)
  refine wpAny_bind (wpAny_typeOf hTs ?_)
  rw [if_pos (by decide)]
  refine wpAny_bind (sliceApplied_gen hs pl pu ?_)
  have hno:¬ ((((sIx items.size 0 lo:Nat):Int) == 0 && (1:Int) == 1 && (sIx items.size items.size hi - sIx items.size 0 lo) == items.size)=true):=by
    intro q
    rw [Bool.and_eq_true,Bool.and_eq_true] at q
    have q1:((sIx items.size 0 lo:Nat):Int)=0:=eq_of_beq q.1.1
    have q2:sIx items.size items.size hi - sIx items.size 0 lo=items.size:=eq_of_beq q.2
    exact hw ⟨by omega,by omega⟩
  show wpAny _ _ (if (((sIx items.size 0 lo:Nat):Int) == 0 && (1:Int) == 1 && (sIx items.size items.size hi - sIx items.size 0 lo) == items.size)=true then _ else _) _ _ s
  rw [if_neg hno,pick_gen]
  first
    | exact wpAny_bind (m:=Builtin.Tuple.tupleExact _) (wpAny_newObj_type (wpAny_pure ⟨_,rfl,wpAny_pure h⟩) htake)
    | exact wpAny_bind (m:=Builtin.Tuple.tupleExact _) (wpAny_newObj_type (wpAny_bind (wpAny_pure (wpAny_pure ⟨_,rfl,wpAny_pure h⟩))) htake)
    | exact wpAny_bind (wpAny_bind (m:=Builtin.Tuple.tupleExact _) (wpAny_newObj_type (wpAny_pure (wpAny_pure ⟨_,rfl,wpAny_pure h⟩)) htake))
    | exact wpAny_bind (wpAny_bind (m:=Builtin.Tuple.tupleExact _) (wpAny_newObj_type (wpAny_pure ⟨_,rfl,wpAny_pure h⟩) htake))
end
end HT
namespace L2
open PySem PySem.Spec PyProof.Rows
abbrev TO:=St->Hp->(Option Int->Hp->Prop)->Prop
def PO (X:Cx) (e:Option Expr) (t:TO):Prop:=
  ∀ (pins:List (Addr × Obj)) (s:Shared) (σ:St) (H:Hp) (Q:Option Int->Hp->Prop),Inv X pins σ H s->t σ H Q->
    wpAny (model X.prog X.w) X.A (evalPart e X.env) (fun u s'=>∃ o H',Inv X pins σ H' s'/\IsPart u o/\Q o H') X.xe s
def tNoPart:TO:=fun _ H Q=>Q none H
def tPart (t:TE):TO:=fun σ H Q=>t σ H fun x H1=>∃ i,x=.int i/\Q (some i) H1
section
variable {X:Cx} {e:Expr} {te:TE} {lo hi:Option Expr} {tl th:TO} {pos p2:Pos}
theorem po_none:PO X none tNoPart:=by
  intro pins s σ H Q I h
  rw [evalPart_none]
  exact wpAny_pure ⟨none,H,I,.none,h⟩
theorem po_some (h:PE X e te):PO X (some e) (tPart te):=by
  intro pins s σ H Q I hw
  rw [evalPart_some]
  refine thn (h pins s σ H _ I hw) fun u s1 ⟨x,H1,I1,r1,q1⟩=>?_
  obtain ⟨i,rfl,q⟩:=q1
  obtain ⟨t,rfl⟩:=r1
  exact ⟨some i,H1,I1,.int i t,q⟩
def SlR (X:Cx) (r:V->Option Int->Option Int->Hp->VK->Prop):Prop:=
  ∀ (pins:List (Addr × Obj)) (s:Shared) (σ:St) (H:Hp) (x:V) (v vl vu:Value) (lo hi:Option Int) (sl:Addr) (Q:VK),Inv X pins σ H s->RelV x v->s.heap.IsSliceOf sl vl vu .none->IsPart vl lo->IsPart vu hi->r x lo hi H Q->
    ∃ T id,typeLookup (.type T) "__getitem__"=pure (some (.builtin id))/\s.TypeIs v T/\wpAny (model X.prog X.w) X.A (getItem v (.ref sl)) (EP X pins σ Q) X.xe s
theorem SlR.or {r r':V->Option Int->Option Int->Hp->VK->Prop} (h:SlR X r) (h':SlR X r'):SlR X (fun x lo hi H Q=>r x lo hi H Q\/r' x lo hi H Q):=by
  intro pins s σ H x v vl vu lo hi sl Q I rx hs pl pu q
  rcases q with q | q
  · exact h pins s σ H x v vl vu lo hi sl Q I rx hs pl pu q
  · exact h' pins s σ H x v vl vu lo hi sl Q I rx hs pl pu q
def tSl (r:V->Option Int->Option Int->Hp->VK->Prop) (te:TE) (tl th:TO):TE:=fun σ H Q=>te σ H fun x H1=>tl σ H1 fun l H2=>th σ H2 fun u H3=>r x l u H3 Q
theorem pe_slice {r:V->Option Int->Option Int->Hp->VK->Prop} (hr:SlR X r) (he:PE X e te) (hl:PO X lo tl) (hu:PO X hi th):PE X (.Subscript e (.Slice lo hi none p2) pos) (tSl r te tl th):=by
  intro pins s σ H Q I h
  refine Subscript_ (thn (he pins s σ H _ I h) fun v s1 ⟨x,H1,I1,r1,q1⟩=>?_)
  refine wpAny_Slice (thn (hl pins s1 σ H1 _ I1 q1) fun vl s2 ⟨l,H2,I2,pl,q2⟩=>thn (hu pins s2 σ H2 _ I2 q2) fun vu s3 ⟨u,H3,I3,pu,q3⟩=>?_)
  rw [evalPart_none]
  refine wpAny_pure ?_
  have I4:Inv X pins σ H3 { s3 with heap:=s3.heap.push { cls:=.type "slice",data:=.fields #[vl,vu,.none] } }:=I3.kept (t':=s3.toks) fun b ob q=>Heap.get?_push_of_some _ q
  obtain ⟨T,id,hT,ht,hg⟩:=hr pins { s3 with heap:=s3.heap.push { cls:=.type "slice",data:=.fields #[vl,vu,.none] } } σ H3 x v vl vu l u s3.heap.objs.size Q I4 r1 (Heap.IsSliceOf.new ..) pl pu q3
  show wpAny (model X.prog X.w) X.A (subscriptTail e (.Slice lo hi none p2) v (.ref s3.heap.objs.size)) (EP X pins σ Q) X.xe { s3 with heap:=s3.heap.push { cls:=.type "slice",data:=.fields #[vl,vu,.none] } }
  exact tail_any (ops:=[.ref s3.heap.objs.size,v]) ht hT hg (by with_unfolding_all rfl)
def cutV (xs:List V) (lo hi:Option Int):List V:=(xs.drop (HT.sIx xs.length 0 lo)).take (HT.sIx xs.length xs.length hi - HT.sIx xs.length 0 lo)
theorem cutV_length (xs:List V) (lo hi:Option Int):(cutV xs lo hi).length<=xs.length:=by
  unfold cutV
  rw [List.length_take,List.length_drop]
  omega
def rSlT (K:PySem.W.Frag):V->Option Int->Option Int->Hp->VK->Prop:=fun x lo hi H Q=>∃ a xs,x=.ref a/\SqT K H a xs ∧
  ¬ (HT.sIx xs.length 0 lo=0/\HT.sIx xs.length xs.length hi=xs.length)/\∀ p,H p=none->Q (.ref p) (upd H p (.tup (cutV xs lo hi)))
theorem sl_tup:SlR X (rSlT X.K):=by
  intro pins s σ H x v vl vu lo hi sl Q I rx hs pl pu h
  obtain ⟨a,xs,rfl,hx,hw,q⟩:=h
  cases rx
  obtain ⟨its,r,ht,hz⟩:=I.tuple hx
  have hlen:its.toArray.size=xs.length:=by rw [List.size_toArray];exact r.length.symm
  refine ⟨"tuple",_,PyProof.Rows.slot_tuple_getitem.lookup,ht.typeIs,?_⟩
  refine HT.getItem_tuple_cut ht hs pl pu (by rw [hlen];exact hw) ?_ (by rw [hlen];exact hz)
  rw [hlen]
  refine ⟨.ref s.heap.objs.size,_,I.laid (t':=s.toks) (o:=.tup (cutV xs lo hi)) (fun b ob q=>Heap.get?_push_of_some _ q) (Nat.le_refl _) ?_,rfl,q _ (I.hok.fresh (Nat.le_refl _))⟩
  exact ⟨Nat.le_trans (cutV_length xs lo hi) hz,_,(r.drop (HT.sIx xs.length 0 lo)).take (HT.sIx xs.length xs.length hi - HT.sIx xs.length 0 lo),IsTup.new _ _⟩
end
end L2
namespace L2
open PySem PySem.Spec PyProof.Rows
def ixN (n:Nat) (i:Int):Option Nat:=if 0<=i then (if i < n then some i.toNat else none) else if -(n:Int)<=i then some (i+n).toNat else none
def atI {α:Type} (xs:List α) (i:Int):Option α:=(ixN xs.length i).bind fun j=>xs[j]?
theorem ixN_seq {n:Nat} {i:Int} {j:Nat} (h:ixN n i=some j):seqIndex? i n=some j/\j < n/\-(n:Int)<=i/\i < n:=by
  unfold ixN at h
  by_cases h0:0<=i
  · rw [if_pos h0] at h
    by_cases h1:i < n
    · rw [if_pos h1] at h
      have e:i.toNat=j:=Option.some.inj h
      exact ⟨by rw [seqIndex_of h0 h1,e],by omega,by omega,h1⟩
    · rw [if_neg h1] at h;cases h
  · rw [if_neg h0] at h
    by_cases h1:-(n:Int)<=i
    · rw [if_pos h1] at h
      have e:(i+n).toNat=j:=Option.some.inj h
      exact ⟨by rw [seqIndex_neg (by omega) h1,e],by omega,h1,by omega⟩
    · rw [if_neg h1] at h;cases h
theorem atI_get {α:Type} {xs:List α} {i:Int} {v:α} (h:atI xs i=some v):∃ j,seqIndex? i xs.length=some j/\xs[j]?=some v/\j < xs.length/\-(xs.length:Int)<=i/\i < xs.length:=by
  unfold atI at h
  cases e:ixN xs.length i with
  | none=>rw [e] at h;cases h
  | some j=>
    rw [e] at h
    obtain ⟨h1,h2,h3,h4⟩:=ixN_seq e
    exact ⟨j,h1,h,h2,h3,h4⟩
theorem atI_nat {α:Type} {xs:List α} {j:Nat} {v:α} (h:xs[j]?=some v):atI xs (j:Int)=some v:=by
  have hj:j < xs.length:=(List.getElem?_eq_some_iff.mp h).1
  have e:ixN xs.length (j:Int)=some j:=by
    unfold ixN
    rw [if_pos (by omega),if_pos (by omega)];simp
  unfold atI;rw [e];exact h
theorem atI_last {α:Type} (xs:List α) (v:α):atI (xs++[v]) (-1)=some v:=by
  have hl:(xs++[v]).length=xs.length+1:=by simp
  have e:ixN (xs++[v]).length (-1)=some xs.length:=by
    unfold ixN
    rw [hl,if_neg (by decide),if_pos (by omega)]
    congr 1
    omega
  unfold atI
  rw [e]
  show (xs++[v])[xs.length]?=some v
  simp
def PlainIx (b:Expr):Prop:=∀ o i,subscripted b false o i=operate [o,i] (getItem o i)
def IxR (X:Cx) (r:R2):Prop:=
  ∀ (value slice:Expr) (pins:List (Addr × Obj)) (s:Shared) (σ:St) (H:Hp) (x y:V) (v u:Value) (Q:VK),Inv X pins σ H s->RelV x v->RelV y u->r x y H Q->
    subscripted slice false v u=operate [v,u] (getItem v u)->wpAny (model X.prog X.w) X.A (subscriptTail value slice v u) (EP X pins σ Q) X.xe s
def MtR (X:Cx) (id:String) (r:V->List V->Hp->VK->Prop):Prop:=
  ∀ (pins:List (Addr × Obj)) (s:Shared) (σ:St) (H:Hp) (x:V) (xs:List V) (v:Value) (us:List Value) (Q:VK),Inv X pins σ H s->RelV x v->Vals xs us->r x xs H Q->
    wpAny (model X.prog X.w) X.A (call (.builtin id) (v::us)) (EP X pins σ Q) X.xe s
section
variable {X:Cx} {a b:Expr} {ta tb:TE} {pos:Pos}
theorem IxR.or {r r':R2} (h:IxR X r) (h':IxR X r'):IxR X (fun x y H Q=>r x y H Q\/r' x y H Q):=by
  intro value slice pins s σ H x y v u Q I rx ry q hs
  rcases q with q | q
  · exact h value slice pins s σ H x y v u Q I rx ry q hs
  · exact h' value slice pins s σ H x y v u Q I rx ry q hs
theorem pe_ix {r:R2} (hr:IxR X r) (ha:PE X a ta) (hb:PE X b tb) (hs:PlainIx b):PE X (.Subscript a b pos) (tOp r ta tb):=by
  intro pins s σ H Q I h
  exact Subscript_ (binT ha hb I h fun v u s2 x y H2 I2 rx ry q=>hr a b pins s2 σ H2 x y v u Q I2 rx ry q (hs _ _))
def rIxL (K:PySem.W.Frag):R2:=fun x y H Q=>∃ p xs i v,x=.ref p/\y=.int i/\SqL K H p xs/\atI xs i=some v/\Q v H
def rIxT (K:PySem.W.Frag):R2:=fun x y H Q=>∃ p xs i v,x=.ref p/\y=.int i/\SqT K H p xs/\atI xs i=some v/\Q v H
def rIxS:R2:=fun x y H Q=>∃ z i c,x=.str z/\y=.int i/\z.length<=sizeLine/\atI z.cps.toList i=some c/\Q (.str ⟨#[c]⟩) H
theorem ix_list:IxR X (rIxL X.K):=by
  intro value slice pins s σ H x y v u Q I rx ry h hs
  obtain ⟨p,xs,i,z,rfl,rfl,hq,he,q⟩:=h
  cases rx
  obtain ⟨t,rfl⟩:=ry
  obtain ⟨its,r,pl,hz⟩:=I.list hq
  obtain ⟨j,h1,h2,h3,h4,h5⟩:=atI_get he
  obtain ⟨w,ew,rw'⟩:=r.get h2
  have hl:=r.length
  have hn:=line63
  have fin:EP X pins σ Q w s:=⟨z,H,I,rw',q⟩
  by_cases h0:0<=i
  · have hj:i.toNat=j:=by
      rw [seqIndex_of h0 h5] at h1
      exact Option.some.inj h1
    exact item_listR pl.isList h0 (by omega) (by rw [hj];simpa using ew) fin hs
  · have hj:(i+(its.toArray.size:Int)).toNat=j:=by
      rw [seqIndex_neg (by omega) h4] at h1
      rw [List.size_toArray,<- hl]
      exact Option.some.inj h1
    exact subscriptTail_builtinR (x:=w) pl.isList.typeIs slot_list_getitem.lookup
      (wpAny_getItem_list_neg (Q:=fun r s'=>r=w/\EP X pins σ Q r s') pl.isList (by omega) (by rw [List.size_toArray] <;> omega) (by omega) (by rw [hj];simpa using ew) ⟨rfl,fin⟩) hs
theorem ix_tup:IxR X (rIxT X.K):=by
  intro value slice pins s σ H x y v u Q I rx ry h hs
  obtain ⟨p,xs,i,z,rfl,rfl,hq,he,q⟩:=h
  cases rx
  obtain ⟨t,rfl⟩:=ry
  obtain ⟨its,r,pl,hz⟩:=I.tuple hq
  obtain ⟨j,h1,h2,h3,h4,h5⟩:=atI_get he
  obtain ⟨w,ew,rw'⟩:=r.get h2
  have hl:=r.length
  have hn:=line63
  have fin:EP X pins σ Q w s:=⟨z,H,I,rw',q⟩
  exact subscriptTail_builtinR (x:=w) pl.typeIs slot_tuple_getitem.lookup
    (getItem_tuple (j:=j) (Q:=fun r s'=>r=w/\EP X pins σ Q r s') pl (by omega) (by omega) (by rw [List.size_toArray,<- hl];exact h1) (by simpa using ew) ⟨rfl,fin⟩) hs
theorem ix_str:IxR X rIxS:=by
  intro value slice pins s σ H x y v u Q I rx ry h hs
  obtain ⟨z,i,c,rfl,rfl,hz,he,q⟩:=h
  obtain ⟨t,rfl⟩:=rx
  obtain ⟨t',rfl⟩:=ry
  obtain ⟨j,h1,h2,h3,h4,h5⟩:=atI_get he
  have hl:z.cps.toList.length=z.length:=by simp [Str.length]
  rw [hl] at h1 h4 h5
  have hn:=line63
  exact tail_any (typeIs_str s z t) slot_str_getitem.lookup (getItem_str (c:=c) (by
    have e1:decide (i < -(2 ^ 63:Int))=false:=decide_eq_false (by omega)
    have e2:decide (i ≥ 2 ^ 63)=false:=decide_eq_false (by omega)
    rw [e1,e2,Bool.or_false]) (by rw [h1];simpa using h2) ⟨.str ⟨#[c]⟩,H,I.tok _,⟨_,rfl⟩,q⟩) hs
def rIx (K:PySem.W.Frag):R2:=fun x y H Q=>rIxL K x y H Q\/rIxT K x y H Q\/rIxS x y H Q
theorem ix_seq:IxR X (rIx X.K):=ix_list.or (ix_tup.or ix_str)
theorem mapSeq_set (its:List Value) (n j:Nat) (u:Value):Obj.mapSeq (·.setIfInBounds j u) { cls:=.type "list",data:=.seq its.toArray n }={ cls:=.type "list",data:=.seq (its.set j u).toArray n }:=by
  simp [Obj.mapSeq]
theorem Inv.lst {pins:List (Addr × Obj)} {σ:St} {H:Hp} {s:Shared} {p:Addr} {xs:List V} (I:Inv X pins σ H s) (h:H p=some (.lst xs)):
    ∃ (its:List Value) (n:Nat),Vals xs its/\s.heap.get? p=some { cls:=.type "list",data:=.seq its.toArray n }/\xs.length<=sizeLine:=by
  obtain ⟨z,its,n,r,e⟩:=I.hok p _ h
  exact ⟨its,n,r,e,z⟩
theorem Inv.lstUpd {pins:List (Addr × Obj)} {σ:St} {H:Hp} {s:Shared} {p:Addr} {xs ys:List V} {its its':List Value} {n n':Nat} {f:Obj->Obj} (I:Inv X pins σ H s) (h:H p=some (.lst xs))
    (ho:s.heap.get? p=some { cls:=.type "list",data:=.seq its.toArray n }) (hf:f { cls:=.type "list",data:=.seq its.toArray n }={ cls:=.type "list",data:=.seq its'.toArray n' }) (r:Vals ys its') (hz:ys.length<=sizeLine) (t:Nat):
    Inv X pins σ (upd H p (.lst ys)) { s with heap:=s.heap.update p f,toks:=t }:=by
  have e:(s.heap.update p f).get? p=some { cls:=.type "list",data:=.seq its'.toArray n' }:=by
    rw [Heap.get?_update_self f ho (by rw [hf] <;> rfl),hf]
  refine I.write (x:=p) (e:=p) (by rw [h];trivial) (.inl rfl) (fun b u hb q=>(Heap.get?_update_other _ _ (Ne.symm hb)).trans q) ⟨_,e⟩ ?_
  exact ⟨hz,its',n',r,e⟩
def rSetL:V->V->V->Hp->(Hp->Prop)->Prop:=fun o i v H Q=>∃ p xs k j,o=.ref p/\i=.int k/\H p=some (.lst xs)/\ixN xs.length k=some j/\Q (upd H p (.lst (xs.set j v)))
theorem set_list:PSet X rSetL:=by
  intro pins s σ H o i v ov iv u Q I ro ri rv h
  obtain ⟨p,xs,k,j,rfl,rfl,hp,hj,q⟩:=h
  cases ro
  obtain ⟨t,rfl⟩:=ri
  obtain ⟨its,n,r,ho,hz⟩:=I.lst hp
  obtain ⟨h1,h2,h3,h4⟩:=ixN_seq hj
  have hl:=r.length
  have hn:=line63
  have I':Inv X pins σ (upd H p (.lst (xs.set j v))) { s with heap:=s.heap.update p (Obj.mapSeq (·.setIfInBounds j u)) }:=
    I.lstUpd hp ho (mapSeq_set its n j u) (r.set rv j) (by rw [List.length_set];exact hz) s.toks
  by_cases h0:0<=k
  · have hk:k.toNat=j:=by
      rw [seqIndex_of h0 h4] at h1
      exact Option.some.inj h1
    exact PySem.W.ki_setAt ho h0 (by omega) (by rw [List.size_toArray,<- hl];exact h4) (by rw [hk];exact ⟨_,I',q⟩)
  · have hk:(k+(its.toArray.size:Int)).toNat=j:=by
      rw [seqIndex_neg (by omega) h3] at h1
      rw [List.size_toArray,<- hl]
      exact Option.some.inj h1
    exact PySem.W.ki_setBack ho (by omega) (by rw [List.size_toArray,<- hl];exact h3) (by omega) (by rw [hk];exact ⟨_,I',q⟩)
theorem slice_bounds (lo hi:Option Int) (n:Nat):(sliceBounds lo hi none n).1=((HT.sIx n 0 lo:Nat):Int)/\(sliceBounds lo hi none n).2.1=((HT.sIx n n hi:Nat):Int)/\(sliceBounds lo hi none n).2.2=1:=by
  refine ⟨?_,?_,rfl⟩
  · cases lo with
    | none=>simp [sliceBounds,HT.sIx]
    | some i=>
      simp only [sliceBounds,HT.sIx,Option.getD_none,show (1:Int) > 0 by decide,if_true]
      by_cases h:i < 0
      · simp only [h,if_true] <;> omega
      · simp only [h,if_false] <;> omega
  · cases hi with
    | none=>simp [sliceBounds,HT.sIx]
    | some i=>
      simp only [sliceBounds,HT.sIx,Option.getD_none,show (1:Int) > 0 by decide,if_true]
      by_cases h:i < 0
      · simp only [h,if_true] <;> omega
      · simp only [h,if_false] <;> omega
theorem slicePick_cut (its:List Value) (lo hi:Option Int):slicePick its.toArray lo hi none=((its.drop (HT.sIx its.length 0 lo)).take (HT.sIx its.length its.length hi - HT.sIx its.length 0 lo)).toArray:=by
  obtain ⟨h1,h2,h3⟩:=slice_bounds lo hi its.toArray.size
  unfold slicePick
  rw [h1,h2,h3]
  simp only [sliceRange_one,pick_run,List.size_toArray] <;> rfl
def rSlL (K:PySem.W.Frag):V->Option Int->Option Int->Hp->VK->Prop:=fun x lo hi H Q=>∃ a xs,x=.ref a/\SqL K H a xs/\∀ p,H p=none->Q (.ref p) (upd H p (.lst (cutV xs lo hi)))
theorem sl_list:SlR X (rSlL X.K):=by
  intro pins s σ H x v vl vu lo hi sl Q I rx hs pl pu h
  obtain ⟨a,xs,rfl,hx,q⟩:=h
  cases rx
  obtain ⟨its,r,ht,hz⟩:=I.list hx
  have hlen:=r.length
  refine ⟨"list",_,slot_list_getitem.lookup,ht.isList.typeIs,?_⟩
  refine wpAny_getItem_list_slice ht.isList hs pl pu .none (by simp) ?_ (by rw [List.size_toArray] <;> omega)
  rw [slicePick_cut,<- hlen]
  refine ⟨.ref s.heap.objs.size,_,I.laid (t':=s.toks) (o:=.lst (cutV xs lo hi)) (fun b ob q=>Heap.get?_push_of_some _ q) (Nat.le_refl _) ?_,rfl,q _ (I.hok.fresh (Nat.le_refl _))⟩
  exact ⟨Nat.le_trans (cutV_length xs lo hi) hz,_,0,(r.drop (HT.sIx xs.length 0 lo)).take (HT.sIx xs.length xs.length hi - HT.sIx xs.length 0 lo),Heap.get?_push_size _ rfl⟩
def flatV:V->Bool
  | .non=>true
  | .bl _=>true
  | .int _=>true
  | .str _=>true
  | _=>false
def eqV:V->V->Bool
  | .non,.non=>true
  | .bl a,.bl b=>a == b
  | .bl a,.int b=>(if a then 1 else 0) == b
  | .int a,.bl b=>a == (if b then 1 else 0)
  | .int a,.int b=>a == b
  | .str a,.str b=>a == b
  | _,_=>false
theorem eqAt_V {A:Around} {s:Shared} {y x:V} {u v:Value} (ry:RelV y u) (rx:RelV x v) (fy:flatV y=true) (fx:flatV x=true):SeqAt.EqAt A s u v (eqV y x):=by
  cases y with
  | non=>
    cases ry
    cases x with
    | non=>cases rx;exact SeqAt.EqAt.same _
    | bl b=>cases rx;exact SeqAt.EqAt.none_bool b
    | int b=>obtain ⟨t,rfl⟩:=rx;exact SeqAt.EqAt.none_int b t
    | str b=>obtain ⟨t,rfl⟩:=rx;exact SeqAt.EqAt.none_str b t
    | _=>exact absurd (show false=true from fx) Bool.false_ne_true
  | bl a=>
    cases ry
    cases x with
    | non=>cases rx;exact SeqAt.EqAt.bool_none a
    | bl b=>cases rx;exact SeqAt.EqAt.bool_bool a b
    | int b=>obtain ⟨t,rfl⟩:=rx;exact SeqAt.EqAt.bool_int a b t
    | str b=>obtain ⟨t,rfl⟩:=rx;exact SeqAt.EqAt.bool_str a b t
    | _=>exact absurd (show false=true from fx) Bool.false_ne_true
  | int a=>
    obtain ⟨t',rfl⟩:=ry
    cases x with
    | non=>cases rx;exact SeqAt.EqAt.int_none a t'
    | bl b=>cases rx;exact SeqAt.EqAt.int_bool a t' b
    | int b=>obtain ⟨t,rfl⟩:=rx;exact SeqAt.EqAt.int_int a t' b t
    | str b=>obtain ⟨t,rfl⟩:=rx;exact SeqAt.EqAt.int_str a t' b t
    | _=>exact absurd (show false=true from fx) Bool.false_ne_true
  | str a=>
    obtain ⟨t',rfl⟩:=ry
    cases x with
    | non=>cases rx;exact SeqAt.EqAt.str_none a t'
    | bl b=>cases rx;exact SeqAt.EqAt.str_bool a t' b
    | int b=>obtain ⟨t,rfl⟩:=rx;exact SeqAt.EqAt.str_int a t' b t
    | str b=>obtain ⟨t,rfl⟩:=rx;exact SeqAt.EqAt.str_str a t' b t
    | _=>exact absurd (show false=true from fx) Bool.false_ne_true
  | _=>exact absurd (show false=true from fy) Bool.false_ne_true
def eqU (x:V) (u:Value):Bool:=match u with
  | .none=>eqV .non x
  | .bool b=>eqV (.bl b) x
  | .int i _=>eqV (.int i) x
  | .str z _=>eqV (.str z) x
  | _=>false
theorem eqU_of {x y:V} {u:Value} (r:RelV y u) (f:flatV y=true):eqU x u=eqV y x:=by
  cases y with
  | non=>cases r;rfl
  | bl b=>cases r;rfl
  | int i=>obtain ⟨t,rfl⟩:=r;rfl
  | str z=>obtain ⟨t,rfl⟩:=r;rfl
  | _=>exact absurd (show false=true from f) Bool.false_ne_true
theorem any_eqU {x:V}:∀ {xs:List V} {us:List Value},Vals xs us->xs.all flatV=true->us.any (eqU x)=xs.any fun y=>eqV y x
  | _,_,.nil,_=>rfl
  | y::xs,u::us,.cons r t,f=>by
    rw [List.all_cons,Bool.and_eq_true] at f
    rw [List.any_cons,List.any_cons,eqU_of r f.1,any_eqU t f.2]
theorem mem_eqAt {A:Around} {s:Shared} {x:V} {v:Value} (rx:RelV x v) (fx:flatV x=true):∀ {xs:List V} {us:List Value},Vals xs us->xs.all flatV=true->∀ u ∈ us,SeqAt.EqAt A s u v (eqU x u)
  | _,_,.nil,_=>fun u hu=>by cases hu
  | y::xs,u::us,.cons r t,f=>fun u' hu=>by
    rw [List.all_cons,Bool.and_eq_true] at f
    rcases List.mem_cons.mp hu with rfl | hu
    · rw [eqU_of r f.1];exact eqAt_V r rx f.1 fx
    · exact mem_eqAt rx fx t f.2 u' hu
def inV (x:V) (xs:List V):Bool:=xs.any fun y=>eqV y x
def rIn (K:PySem.W.Frag) (neg:Bool):R2:=fun x y H Q=>∃ p xs,y=.ref p/\(SqL K H p xs\/SqT K H p xs)/\flatV x=true/\xs.all flatV=true/\Q (.bl (if neg then !inV x xs else inV x xs)) H
theorem op_notIn_seq:OpR X (compareOp .NotIn) (rIn X.K true):=by
  intro pins s σ H x y v u Q I rx ry h
  obtain ⟨p,xs,rfl,hq,fx,fs,q⟩:=h
  cases ry
  rcases hq with hq | hq
  · obtain ⟨its,r,pl,hz⟩:=I.list hq
    refine SeqAt.notIn_listAt (eqU x) pl.isList (fun w hw=>mem_eqAt rx fx r fs w (by simpa using hw)) ⟨.bl _,H,I,rfl,?_⟩
    rw [show its.toArray.any (eqU x)=its.any (eqU x) by simp,any_eqU r fs]
    exact q
  · obtain ⟨its,r,pl,hz⟩:=I.tuple hq
    refine SeqAt.notIn_tupleAt (eqU x) pl (fun w hw=>mem_eqAt rx fx r fs w (by simpa using hw)) ⟨.bl _,H,I,rfl,?_⟩
    rw [show its.toArray.any (eqU x)=its.any (eqU x) by simp,any_eqU r fs]
    exact q
theorem call_len_seq:CallR X (.builtin "len") (fun xs H Q=>∃ p ys,xs=[.ref p]/\(SqL X.K H p ys\/SqT X.K H p ys)/\Q (.int ys.length) H):=by
  intro pins s σ H xs us Q I r h
  obtain ⟨p,ys,rfl,hq,q⟩:=h
  obtain ⟨u,rfl,rx⟩:=vals1 r
  cases rx
  have hn:=line63
  rcases hq with hq | hq
  · obtain ⟨its,r',pl,hz⟩:=I.list hq
    have hlen:=r'.length
    exact Calls.call_len_list pl.isList (by simp only [List.size_toArray] <;> omega) ⟨.int ys.length,H,I.tok _,⟨s.toks+1,by rw [List.size_toArray,hlen]⟩,q⟩
  · obtain ⟨its,r',pl,hz⟩:=I.tuple hq
    have hlen:=r'.length
    exact len_tuple pl (by simp only [List.size_toArray] <;> omega) ⟨.int ys.length,H,I.tok _,⟨s.toks+1,by rw [List.size_toArray,hlen]⟩,q⟩
theorem call_tuple_of:CallR X (.type "tuple") (fun xs H Q=>∃ p ys,xs=[.ref p]/\((SqL X.K H p ys/\∀ l,H l=none->Q (.ref l) (upd H l (.tup ys)))\/(SqT X.K H p ys/\Q (.ref p) H))):=by
  intro pins s σ H xs us Q I r h
  obtain ⟨p,ys,rfl,h⟩:=h
  obtain ⟨u,rfl,rx⟩:=vals1 r
  cases rx
  rcases h with ⟨hq,q⟩ | ⟨hq,q⟩
  · obtain ⟨its,r',pl,hz⟩:=I.list hq
    have hlen:=r'.length
    refine call_tuple_list pl.isList (fun h' kp=>?_) (by simp only [List.size_toArray] <;> omega)
    have I1:Inv X pins σ H { s with heap:=h' }:=I.kept (t':=s.toks) kp
    have I2:Inv X pins σ (upd H h'.objs.size (.tup ys)) { s with heap:=h'.push { cls:=.type "tuple",data:=.seq its.toArray } }:=
      I1.laid (t':=s.toks) (fun b o e=>Heap.get?_push_of_some _ e) (Nat.le_refl _) (show ObjOk X.prog X.w _ _ _ (.tup ys) from ⟨hz,its,r',IsTup.new _ _⟩)
    exact ⟨.ref h'.objs.size,_,I2,rfl,q _ (I1.hok.fresh (Nat.le_refl _))⟩
  · obtain ⟨its,r',pl,hz⟩:=I.tuple hq
    exact call_tuple_same pl ⟨.ref p,H,I,rfl,q⟩
def tyV (K:PySem.W.Frag) (T:String) (x:V) (H:Hp):Prop:=match x with
  | .str _=>T="str"
  | .int _=>T="int"
  | .ref p=>(T="list"/\∃ xs,SqL K H p xs)\/(T="tuple"/\∃ o,K.lookup p=some o/\o.cls=.type "tuple"/\o.dict=none) ∨
      (T="dict"/\((∃ kvs,H p=some (.dK kvs))\/∃ kvs,H p=some (.dT kvs)))\/(T="set"/\∃ S n,H p=some (.set S n))
  | _=>False
theorem tyV_is {pins:List (Addr × Obj)} {σ:St} {H:Hp} {s:Shared} {T:String} {x:V} {v:Value} (I:Inv X pins σ H s) (r:RelV x v) (ty:tyV X.K T x H):
    s.TypeIs v T/\∀ a,v=.ref a->∃ ob,s.heap.get? a=some ob/\ob.dict=none:=by
  cases x with
  | str z=>
    obtain ⟨t,rfl⟩:=r
    cases (show T="str" from ty)
    exact ⟨typeIs_str s z t,fun _ e=>nomatch e⟩
  | int i=>
    obtain ⟨t,rfl⟩:=r
    cases (show T="int" from ty)
    exact ⟨typeIs_int s i t,fun _ e=>nomatch e⟩
  | ref p=>
    cases r
    rcases ty with ⟨rfl,xs,hq⟩ | ⟨rfl,o,hk,hc,hd⟩ | ⟨rfl,hk⟩ | ⟨rfl,S,n,hk⟩
    · obtain ⟨its,_,pl,_⟩:=I.list hq
      refine ⟨pl.isList.typeIs,fun a e=>?_⟩
      cases e
      obtain ⟨o,n,e,c,hd,_⟩:=pl
      exact ⟨o,e,hd⟩
    · refine ⟨⟨o,I.kIn p o hk,hc⟩,fun a e=>?_⟩
      cases e
      exact ⟨o,I.kIn _ o hk,hd⟩
    · have z:∃ o,s.heap.get? p=some o/\o.ExactDict:=by
        rcases hk with ⟨kvs,hk⟩ | ⟨kvs,hk⟩
        · obtain ⟨_,_,_,_,o,_,_,e,ex,_⟩:=I.hok p _ hk
          exact ⟨o,e,ex⟩
        · obtain ⟨_,_,_,_,o,_,_,e,ex,_⟩:=I.hok p _ hk
          exact ⟨o,e,ex⟩
      obtain ⟨o,e,ex⟩:=z
      refine ⟨⟨o,e,ex.1⟩,fun a e2=>?_⟩
      cases e2
      exact ⟨o,e,ex.2.1⟩
    · obtain ⟨o,_,_,_,e,ex,_⟩:=I.hok p _ hk
      refine ⟨⟨o,e,ex.1⟩,fun a e2=>?_⟩
      cases e2
      exact ⟨o,e,ex.2.1⟩
  | _=>exact False.elim ty
def tBM (K:PySem.W.Frag) (T:String) (r:V->List V->Hp->VK->Prop) (to:TE) (t:TA):TE:=fun σ H Q=>to σ H fun x H1=>tyV K T x H1/\t σ H1 fun xs H2=>r x xs H2 Q
variable {o e:Expr} {es:List Expr} {to:TE} {t:TA} {name:Str} {apos cpos:Pos} {T id:String} {r:V->List V->Hp->VK->Prop}
theorem pe_bm (pa:PlainAttrs T) (slot:Slot T name id) (hty:typeOf (.builtin id)=pure (.type "method_descriptor")) (hm:MtR X id r) (ho:PE X o to) (ha:PA X (e::es) t)
    (hbase:attributeBase o name X.env (eval o X.env)=eval o X.env:=by rfl)
    (hfew:((backTo cpos (starEach (e::es) X.env)).all (fun x=>!x.1) && (backToKw cpos (keywordEach [] X.env)).all (fun x=>x.1.isSome)
      && decide ((e::es).length+([]:List Keyword).length+(if ([]:List Keyword).isEmpty then 0 else 1) < 30))=true:=by rfl)
    (hline:(apos.endLine == cpos.line)=true:=by rfl) (hs:starEach (e::es) X.env=(false,eval e X.env)::starEach es X.env:=by rfl) (hplain:(backTo cpos (starEach es X.env)).any (·.1)=false:=by rfl):
    PE X (.Call (.Attribute o name apos) (e::es) [] cpos) (tBM X.K T r to t):=by
  intro pins s σ H Q I h
  refine wpAny_Call_method_late hbase hfew hline rfl (thn (ho pins s σ H _ I h) fun v s1 ⟨x,H1,I1,r1,ty,q1⟩=>?_)
  obtain ⟨h1,h2⟩:=tyV_is I1 r1 ty
  refine ⟨T,id,pa,slot,hty,h1,h2,?_⟩
  have hA:=ha cpos pins s1 σ H1 _ I1 q1
  rw [hs] at hA ⊢
  refine Calls.callWith_builtin (by show (false || (backTo cpos (starEach es X.env)).any (·.1))=false;rw [hplain] <;> rfl) (Calls.evalArgs_plain ?_)
  exact thn hA fun us s2 ⟨vs,H2,I2,r2,q2⟩=>hm pins s2 σ H2 x vs v us Q I2 r1 r2 q2
end
end L2
namespace L2
open PySem PySem.Spec PyProof.Rows
def MtM (X:Cx) (id:String) (r:V->List V->Hp->VK->Prop):Prop:=
  ∀ (pins:List (Addr × Obj)) (s:Shared) (σ:St) (H:Hp) (x:V) (xs:List V) (v:Value) (us:List Value) (Q:VK),Inv X pins σ H s->RelV x v->Vals xs us->r x xs H Q->
    wpAny (model X.prog X.w) X.A (call (.builtin id) (v::us)) (EP X pins σ Q) X.xe s
theorem Vals.one:∀ {x:V} {us:List Value},Vals [x] us->∃ u,us=[u]/\RelV x u
  | _,_,.cons r .nil=>⟨_,rfl,r⟩
section
variable {X:Cx} {pins:List (Addr × Obj)} {σ:St} {H:Hp} {s:Shared} {l b:Addr} {xs ys zs:List V}
theorem Inv.lset {its its':List Value} {n:Nat} {f:Array Value->Array Value} {t':Nat} (I:Inv X pins σ H s) (hH:H l=some (.lst xs))
    (e:s.heap.get? l=some { cls:=.type "list",data:=.seq its.toArray n }) (hf:f its.toArray=its'.toArray) (hv:Vals ys its') (hz:ys.length<=sizeLine):
    Inv X pins σ (upd H l (.lst ys)) { s with heap:=s.heap.update l (Obj.mapSeq f),toks:=t' }:=by
  have q:=PySem.IsL.update e f
  rw [hf] at q
  refine I.write (x:=l) (e:=l) (by rw [hH];exact trivial) (.inl rfl) (fun b' u hb hu=>(Heap.get?_update_other s.heap (Obj.mapSeq f) (Ne.symm hb)).trans hu) ⟨_,q⟩ ?_
  exact ⟨hz,its',_,hv,q⟩
theorem Inv.lstM (I:Inv X pins σ H s) (hH:H l=some (.lst xs)):xs.length<=sizeLine/\∃ (its:List Value) (n:Nat),Vals xs its/\xs.length=its.length/\s.heap.get? l=some { cls:=.type "list",data:=.seq its.toArray n }:=by
  obtain ⟨z,its,n,r,e⟩:=I.hok l _ hH
  exact ⟨z,its,n,r,r.length,e⟩
end
section
variable {X:Cx}
def rAppend:V->List V->Hp->VK->Prop:=fun x vs H Q=>∃ l xs y,x=.ref l/\vs=[y]/\H l=some (.lst xs)/\xs.length < sizeLine/\Q .non (upd H l (.lst (xs++[y])))
theorem mt_append:MtM X "list.append" rAppend:=by
  intro pins s σ H x vs v us Q I rx rv h
  obtain ⟨l,xs,y,rfl,rfl,hH,hz,q⟩:=h
  cases rx
  obtain ⟨u,rfl,ru⟩:=rv.one
  obtain ⟨z,its,n,r,hl,e⟩:=I.lstM hH
  refine call_meets F.slot_list_append ⟨_,e,rfl⟩ F.entry_list_append (F.args_list_append_2 _ _) (PySem.list_append l its.toArray n u (by rw [List.size_toArray];omega)) ⟨e,?_⟩
  refine ⟨.non,_,I.lset (its':=its++[u]) hH e (by simp) (r.append (.cons ru .nil)) ?_,rfl,q⟩
  rw [List.length_append,List.length_singleton]
  omega
end
section
variable {prog:Program} {w:World} {A:Around} {E:Value->Shared->Prop} {s:Shared}
end
section
variable {X:Cx}
end
end L2
namespace L2
open PySem PySem.Spec PyProof.Rows
theorem Vals.ints:∀ {ns:List Int} {us:List Value},Vals (ns.map V.int) us->IntsAre us ns
  | [],us,h=>by
    rw [List.map_nil] at h
    cases h
    exact IntsAre.nil
  | n::ns,us,h=>by
    rw [List.map_cons] at h
    cases h with
    | cons r t=>
      obtain ⟨k,rfl⟩:=r
      exact IntsAre.cons n k (Vals.ints t)
theorem Vals.ref1 {a:Addr} {us:List Value} (r:Vals [V.ref a] us):us=[Value.ref a]:=by
  cases r with
  | cons r t=>
    cases t
    cases r
    rfl
section
variable {prog:Program} {w:World} {A:Around} {E:Value->Shared->Prop} {s:Shared} {l:Addr} {its:List Value} {ns:List Int} {Q:Value->Shared->Prop}
theorem sum_raw (hh:A.handled=none) (hl:s.heap.IsList l its.toArray) (hi:IntsAre its ns)
    (h:∀ h' tk t',(∀ b o,s.heap.get? b=some o->h'.get? b=some o)->Q (.int ns.sum t') { s with heap:=h',toks:=tk }):wpAny (model prog w) A (call (.builtin "sum") [.ref l]) Q E s:=by
  obtain ⟨xs,e⟩:=hi.allInts.items
  have hn:numsOf (intItems xs).toList=ns:=by rw [<- e];exact hi.numsOf
  rw [nums_intItems] at hn
  rw [e] at hl
  refine PySem.sum_intListG hh hl fun h' tk t' hk=>?_
  have:=h h' tk t' hk
  rw [preSum_eq,List.take_of_length_le (by simp),hn];exact this
end
section
variable {X:Cx}
def rSum (K:PySem.W.Frag):List V->Hp->VK->Prop:=fun vs H Q=>∃ (a:Addr) (ns:List Int),vs=[V.ref a]/\SqL K H a (ns.map V.int)/\Q (.int ns.sum) H
theorem cr_sum (hc:X.calm=true):CallR X (.builtin "sum") (rSum X.K):=by
  intro pins s σ H vs us Q I r h
  obtain ⟨a,ns,rfl,hs,q⟩:=h
  obtain ⟨its,rv,hl,_⟩:=I.list hs
  rw [Vals.ref1 r]
  exact sum_raw (I.ok.hd hc) hl.isList rv.ints fun h' tk t' hk=>⟨.int _,H,I.kept hk,⟨_,rfl⟩,q⟩
end
section
variable {X:Cx}
end
section
variable {X:Cx}
end
section
variable {X:Cx}
end
mutual
inductive Dp (K:PySem.W.Frag) (H:Hp):V->PyData->Prop
  | non:Dp K H .non .none
  | bl (b:Bool):Dp K H (.bl b) (.bool b)
  | int (i:Int):Dp K H (.int i) (.int i)
  | str (x:Str):Dp K H (.str x) (.str x)
  | lst {a:Addr} {xs:List V} {ds:List PyData}:SqL K H a xs->DpAll K H xs ds->Dp K H (.ref a) (.list ds)
  | tup {a:Addr} {xs:List V} {ds:List PyData}:SqT K H a xs->DpAll K H xs ds->Dp K H (.ref a) (.tuple ds)
inductive DpAll (K:PySem.W.Frag) (H:Hp):List V->List PyData->Prop
  | nil:DpAll K H [] []
  | cons {v:V} {vs:List V} {d:PyData} {ds:List PyData}:Dp K H v d->DpAll K H vs ds->DpAll K H (v::vs) (d::ds)
end
section
variable {X:Cx} {pins:List (Addr × Obj)} {σ:St} {H:Hp} {s:Shared}
end
section
variable {X:Cx}
end
end L2
namespace L2
open PySem PySem.Spec PyProof.Rows
abbrev CellAt (h:Heap) (c:Addr) (v:Option Value):Prop:=h.IsCell c v
def relS (scope sc:Scope):Scope:=
  { scope with names:=scope.names.map fun (n,k)=>if (k == .free && sc.kind == .function && sc.names.lookup n == some .cell) then (n,.cell) else (n,k) }
def cloFrom (cells:List (Str × Addr)):List (Str × NameKind)->List (Str × Addr)->List (Str × Addr)
  | [],acc=>acc
  | (n,k)::r,acc=>if k == .free then cloFrom cells r ((n,(cells.lookup n).getD 0)::acc) else cloFrom cells r acc
theorem closure_loop (env:Env) (f:Str × NameKind->List (Str × Addr)->Sem (ForInStep (List (Str × Addr))))
    (hf:∀ n k c,f (n,k) c=if k == .free then (do let a ← cellOf env n;pure (.yield ((n,a)::c))) else pure (.yield c)):
    ∀ (names:List (Str × NameKind)) (acc:List (Str × Addr)),(∀ y ∈ names,y.2=.free->∃ c,env.cells.lookup y.1=some c)->forIn names acc f=pure (cloFrom env.cells names acc)
  | [],acc,_=>by rw [List.forIn_nil];rfl
  | (n,k)::r,acc,h=>by
    rw [List.forIn_cons,hf]
    have ih:=fun acc=>closure_loop env f hf r acc fun y hy=>h y (List.mem_cons_of_mem _ hy)
    unfold cloFrom
    by_cases hk:(k == NameKind.free)=true
    · rw [if_pos hk,if_pos hk]
      obtain ⟨c,hc⟩:=h (n,k) List.mem_cons_self (by simpa using hk)
      have e:cellOf env n=pure c:=by unfold cellOf;rw [hc]
      rw [e]
      have e2:(env.cells.lookup n).getD 0=c:=by rw [hc];rfl
      rw [e2]
      exact ih _
    · rw [if_neg hk,if_neg hk]
      exact ih _
theorem closure_ok {scope:Scope} {env:Env} (h:∀ y ∈ scope.names,y.2=.free->∃ c,env.cells.lookup y.1=some c):closureFor scope env=pure (cloFrom env.cells scope.names []):=by
  simp only [closureFor]
  rw [closure_loop env _ (fun n k c=>rfl) scope.names [] h]
  rfl
theorem mem_lookup {α:Type}:∀ {l:List (Str × α)} {n:Str} {c:α},(n,c) ∈ l->∃ c',l.lookup n=some c'
  | (k,v)::r,n,c,h=>by
    rw [List.lookup_cons]
    cases hb:n == k with
    | true=>exact ⟨_,rfl⟩
    | false=>
      rcases List.mem_cons.mp h with e | h
      · cases e;simp at hb
      · exact mem_lookup h
theorem cloFrom_mem {cells:List (Str × Addr)}:∀ {names:List (Str × NameKind)} {acc:List (Str × Addr)} {n:Str} {c:Addr},(n,c) ∈ cloFrom cells names acc->(n,c) ∈ acc\/((n,.free) ∈ names/\c=(cells.lookup n).getD 0)
  | [],_,_,_,h=>.inl h
  | (m,k)::r,acc,n,c,h=>by
    unfold cloFrom at h
    split at h
    · rename_i hk
      have hk:k=.free:=by simpa using hk
      rcases cloFrom_mem h with h | ⟨h1,h2⟩
      · rcases List.mem_cons.mp h with e | h
        · cases e;exact .inr ⟨hk ▸ List.mem_cons_self,rfl⟩
        · exact .inl h
      · exact .inr ⟨List.mem_cons_of_mem _ h1,h2⟩
    · rcases cloFrom_mem h with h | ⟨h1,h2⟩
      · exact .inl h
      · exact .inr ⟨List.mem_cons_of_mem _ h1,h2⟩
theorem cloFrom_acc {cells:List (Str × Addr)}:∀ {names:List (Str × NameKind)} {acc:List (Str × Addr)} {p:Str × Addr},p ∈ acc->p ∈ cloFrom cells names acc
  | [],_,_,h=>h
  | (m,k)::r,acc,p,h=>by
    unfold cloFrom
    split
    · exact cloFrom_acc (List.mem_cons_of_mem _ h)
    · exact cloFrom_acc h
theorem cloFrom_has {cells:List (Str × Addr)}:∀ {names:List (Str × NameKind)} {acc:List (Str × Addr)} {n:Str},(n,.free) ∈ names->(n,(cells.lookup n).getD 0) ∈ cloFrom cells names acc
  | (m,k)::r,acc,n,h=>by
    unfold cloFrom
    rcases List.mem_cons.mp h with e | h
    · cases e
      exact cloFrom_acc List.mem_cons_self
    · split
      · exact cloFrom_has h
      · exact cloFrom_has h
theorem cells_mem:∀ {names:List (Str × NameKind)} {h:Heap} {acc:List (Str × Addr)} {x:Str} {c:Addr},(x,c) ∈ cellsFrom h.objs.size names acc->
    (x,c) ∈ acc\/((x,.cell) ∈ names/\h.objs.size<=c/\CellAt (pushCells h names) c none)
  | [],_,_,_,_,h=>.inl h
  | (n,k)::r,h,acc,x,c,hm=>by
    unfold cellsFrom at hm
    unfold pushCells
    split at hm
    · rename_i hk
      rw [if_pos hk]
      have hk:k=.cell:=by simpa using hk
      rw [<- Heap.size_push h { cls:=.type "cell",data:=.cell none }] at hm
      rcases cells_mem hm with hm | ⟨h1,h2,h3⟩
      · rcases List.mem_cons.mp hm with e | hm
        · cases e
          exact .inr ⟨hk ▸ List.mem_cons_self,Nat.le_refl _,_,pushCells_keeps r _ _ _ (Heap.get?_push_size _ rfl),rfl⟩
        · exact .inl hm
      · rw [Heap.size_push] at h2
        exact .inr ⟨List.mem_cons_of_mem _ h1,Nat.le_of_succ_le h2,h3⟩
    · rename_i hk
      rw [if_neg hk]
      rcases cells_mem hm with hm | ⟨h1,h2,h3⟩
      · exact .inl hm
      · exact .inr ⟨List.mem_cons_of_mem _ h1,h2,h3⟩
theorem cells_acc:∀ {names:List (Str × NameKind)} {n:Nat} {acc:List (Str × Addr)} {p:Str × Addr},p ∈ acc->p ∈ cellsFrom n names acc
  | [],_,_,_,h=>h
  | (m,k)::r,n,acc,p,h=>by
    unfold cellsFrom
    split
    · exact cells_acc (List.mem_cons_of_mem _ h)
    · exact cells_acc h
theorem cells_has:∀ {names:List (Str × NameKind)} {n:Nat} {acc:List (Str × Addr)} {x:Str},(x,.cell) ∈ names->∃ c,(x,c) ∈ cellsFrom n names acc
  | (m,k)::r,n,acc,x,h=>by
    unfold cellsFrom
    rcases List.mem_cons.mp h with e | h
    · cases e
      exact ⟨n,cells_acc List.mem_cons_self⟩
    · split
      · exact cells_has h
      · exact cells_has h
theorem cells_inj:∀ {names:List (Str × NameKind)} {h:Heap} {acc:List (Str × Addr)} {x y:Str} {c:Addr},(∀ p ∈ acc,p.2 < h.objs.size)->(∀ x y c,(x,c) ∈ acc->(y,c) ∈ acc->x=y)->
    (x,c) ∈ cellsFrom h.objs.size names acc->(y,c) ∈ cellsFrom h.objs.size names acc->x=y
  | [],_,_,_,_,_,_,hi,h1,h2=>hi _ _ _ h1 h2
  | (n,k)::r,h,acc,x,y,c,hl,hi,h1,h2=>by
    unfold cellsFrom at h1 h2
    split at h1
    · rename_i hk
      rw [if_pos hk] at h2
      rw [<- Heap.size_push h { cls:=.type "cell",data:=.cell none }] at h1 h2
      refine cells_inj (h:=h.push _) (fun p hp=>?_) (fun x y c a b=>?_) h1 h2
      · rw [Heap.size_push]
        rcases List.mem_cons.mp hp with rfl | hp
        · exact Nat.lt_succ_self _
        · exact Nat.lt_succ_of_lt (hl p hp)
      · rcases List.mem_cons.mp a with e | a <;> rcases List.mem_cons.mp b with e' | b
        · cases e;cases e';rfl
        · cases e;exact absurd (hl _ b) (Nat.lt_irrefl _)
        · cases e';exact absurd (hl _ a) (Nat.lt_irrefl _)
        · exact hi _ _ _ a b
    · rename_i hk
      rw [if_neg hk] at h2
      exact cells_inj hl hi h1 h2
theorem newEnv_comp {M:Model} {A:Around} {E:Value->Shared->Prop} {s:Shared} {scope:Scope} {globals:Addr} {closure:List (Str × Addr)} {qual:Str} {func:Option Addr} {code:Value} {around:Env} {builtins:Addr} {Q:Env->Shared->Prop}
    (h:Q (newEnv scope s.heap.objs.size globals (cellsFrom (s.heap.objs.size+1) scope.names closure) qual func code (some around) builtins)
      { s with heap:=pushCells (s.heap.push { cls:=.type "dict",data:=.dict #[] }) scope.names }):
    wpAny M A (newFunctionEnv scope globals closure [] qual func code (some around) builtins) Q E s:=by
  simp only [newFunctionEnv,Option.isSome_some,if_true]
  refine wpAny_bind (wpAny_alloc ?_)
  refine wpAny_bind (wpAny_layCells _ (fun n k c=>rfl) scope.names closure _ _ ?_)
  rw [show ({ s with heap:=s.heap.push { cls:=.type "dict",data:=.dict #[] } }:Shared).heap.objs.size=s.heap.objs.size+1 from Heap.size_push ..]
  rw [List.forIn_nil]
  exact wpAny_bind (wpAny_pure (wpAny_pure h))
theorem lookup_relS {sc:Scope}:∀ {names:List (Str × NameKind)} {x:Str} {k:NameKind},
    (names.map fun (n,k)=>if (k == NameKind.free && sc.kind == .function && sc.names.lookup n == some .cell) then (n,NameKind.cell) else (n,k)).lookup x=some k->
    ∃ k',names.lookup x=some k'/\(k=k'\/(k'=.free/\k=.cell))
  | [],_,_,h=>by simp at h
  | (n,k₀)::r,x,k,h=>by
    have ih:=@lookup_relS sc r x k
    have h':List.lookup x ((if (k₀ == NameKind.free && sc.kind == .function && sc.names.lookup n == some .cell)=true then (n,NameKind.cell) else (n,k₀))::(r.map _))=some k:=h
    cases hx:x == n with
    | true=>
      simp only [List.lookup_cons,hx]
      by_cases hc:(k₀ == NameKind.free && sc.kind == .function && sc.names.lookup n == some .cell)=true
      · rw [if_pos hc] at h'
        simp only [List.lookup_cons,hx] at h'
        cases h'
        simp only [Bool.and_eq_true,beq_iff_eq] at hc
        exact ⟨k₀,rfl,.inr ⟨hc.1.1,rfl⟩⟩
      · rw [if_neg hc] at h'
        simp only [List.lookup_cons,hx] at h'
        cases h'
        exact ⟨_,rfl,.inl rfl⟩
    | false=>
      simp only [List.lookup_cons,hx]
      by_cases hc:(k₀ == NameKind.free && sc.kind == .function && sc.names.lookup n == some .cell)=true
      · rw [if_pos hc] at h'
        simp only [List.lookup_cons,hx] at h'
        exact ih h'
      · rw [if_neg hc] at h'
        simp only [List.lookup_cons,hx] at h'
        exact ih h'
structure BlkOk (N:List Str) (sc scope:Scope) (own:List (Str × Nat)):Prop where
  kind:scope.kind=.function
  uniq:∀ y ∈ scope.names,scope.names.lookup y.1=some y.2
  ix:∀ p ∈ own,N[p.2]?=some p.1
  free:∀ y ∈ scope.names,y.2=.free->sc.names.lookup y.1=some .cell\/sc.names.lookup y.1=some .free
  own:∀ y ∈ scope.names,y.2=.local\/y.2=.cell->y.1 ∈ own.map (·.1)\/y.1 ∉ N
def wipe (σ:St):List Nat->St
  | []=>σ
  | v::vs=>(wipe σ vs).set v none
theorem wipe_length (σ:St):∀ vs:List Nat,(wipe σ vs).length=σ.length
  | []=>rfl
  | v::vs=>by unfold wipe;rw [List.length_set,wipe_length σ vs]
theorem wipe_some {σ:St} {i:Nat} {x:V}:∀ {vs:List Nat},(wipe σ vs)[i]?=some (some x)->σ[i]?=some (some x)/\i ∉ vs
  | [],h=>⟨h,by simp⟩
  | v::vs,h=>by
    unfold wipe at h
    by_cases hi:v=i
    · subst hi
      by_cases hv:v < (wipe σ vs).length
      · rw [List.getElem?_set_self hv] at h;cases h
      · rw [List.getElem?_eq_none (by simpa using hv)] at h;cases h
    · rw [List.getElem?_set_ne hi] at h
      obtain ⟨h1,h2⟩:=wipe_some h
      exact ⟨h1,by simp only [List.mem_cons,not_or];exact ⟨fun e=>hi e.symm,h2⟩⟩
abbrev Cx.blk (X:Cx) (s:Shared) (H:Hp) (scope:Scope) (cenv:Env) (fp:List Addr):Cx:={ X with s_0:=s,H_0:=H,env:=cenv,outer:=X.stack,ex:=fp,fn:=fun x=>scope.names.lookup x == some .cell,pn:=[],xe:=fun _ _=>False }
section
variable {X:Cx} {pins:List (Addr × Obj)} {σ:St} {H:Hp} {s:Shared}
theorem block_start {scope:Scope} {own:List (Str × Nat)} {fp:List Addr} (I:Inv X pins σ H s) (ok:BlkOk X.N X.env.scope scope own) (hN:X.N.Nodup) (hfp:∀ b ∈ fp,FpOk X pins H b/\b < s.heap.objs.size):
    Inv (X.blk s H scope (compEnvC scope (cellsFrom (s.heap.objs.size+1) scope.names (cloFrom X.env.cells scope.names [])) s.heap.objs.size X.env) fp) [] (wipe σ (own.map (·.2))) H { s with heap:=pushCells (s.heap.push { cls:=.type "dict",data:=.dict #[] }) scope.names }:=by
  have hfree:∀ y ∈ scope.names,y.2=.free->∃ c,X.env.cells.lookup y.1=some c:=fun y hy e=>by
    rcases ok.free y hy e with k | k
    · exact I.ok.has _ (.inl k)
    · exact I.ok.has _ (.inr k)
  generalize hcenv:compEnvC scope (cellsFrom (s.heap.objs.size+1) scope.names (cloFrom X.env.cells scope.names [])) s.heap.objs.size X.env=cenv
  have kp:∀ b o,s.heap.get? b=some o->(pushCells (s.heap.push { cls:=.type "dict",data:=.dict #[] }) scope.names).get? b=some o:=fun b o e=>pushCells_keeps _ _ _ _ (Heap.get?_push_of_some _ e)
  have hL:cenv.locals=s.heap.objs.size:=by rw [<- hcenv];rfl
  have hcl:cenv.cells=cellsFrom (s.heap.objs.size+1) scope.names (cloFrom X.env.cells scope.names []):=by rw [<- hcenv];rfl
  have hsc:cenv.scope=relS scope X.env.scope:=by rw [<- hcenv];rfl
  rw [<- Heap.size_push s.heap { cls:=.type "dict",data:=.dict #[] }] at hcl
  have cm:∀ {y c},(y,c) ∈ cloFrom X.env.cells scope.names []->X.env.cells.lookup y=some c/\c < s.heap.objs.size:=fun {y c} hm=>by
    rcases cloFrom_mem hm with hm | ⟨h1,rfl⟩
    · cases hm
    · obtain ⟨c,hc⟩:=hfree _ h1 rfl
      rw [hc]
      obtain ⟨w,z⟩:=I.cell _ _ hc
      exact ⟨rfl,z.lt⟩
  have mem:∀ {y c},cenv.cells.lookup y=some c->(X.env.cells.lookup y=some c/\c < s.heap.objs.size)\/(s.heap.objs.size+1<=c/\CellAt (pushCells (s.heap.push { cls:=.type "dict",data:=.dict #[] }) scope.names) c none):=fun {y c} e=>by
    rw [hcl] at e
    rcases cells_mem (PySem.mem_of_lookup e) with hm | ⟨_,h2,h3⟩
    · exact .inl (cm hm)
    · rw [Heap.size_push] at h2;exact .inr ⟨h2,h3⟩
  have look:∀ {y},scope.names.lookup y=some .free->∃ c,cenv.cells.lookup y=some c/\X.env.cells.lookup y=some c:=fun {y} hl=>by
    have hy:(y,NameKind.free) ∈ scope.names:=PySem.mem_of_lookup hl
    obtain ⟨c',e'⟩:=mem_lookup (cells_acc (names:=scope.names) (n:=(s.heap.push { cls:=.type "dict",data:=.dict #[] }).objs.size) (cloFrom_has (cells:=X.env.cells) (acc:=[]) hy))
    rw [<- hcl] at e'
    refine ⟨c',e',?_⟩
    rw [hcl] at e'
    rcases cells_mem (PySem.mem_of_lookup e') with hm | ⟨h1,_,_⟩
    · exact (cm hm).1
    · have:=ok.uniq _ h1
      rw [hl] at this;cases this
  have okB:(X.blk s H scope cenv fp).Ok:=by
    refine ⟨I.ok.mod,by show cenv.scope.kind=_;rw [hsc];exact ok.kind,by show cenv.globals=_;rw [<- hcenv];exact I.ok.glob,by show cenv.builtins=_;rw [<- hcenv];exact I.ok.blt,by show s.heap.objs.size<=cenv.locals;rw [hL];exact Nat.le_refl _,
      fun y z c e1 e2=>?_,fun y hy=>?_,fun y c z e=>?_,I.ok.hd,I.ok.frames,.inl rfl,fun b hb=>⟨?_,fun y c e z=>?_⟩,I.bs,Nat.le_trans I.ok.bsz I.sz,fun b o e hb=>?_,fun b hb z=>?_,I.stack,I.stkFree⟩
    · have e1:cenv.cells.lookup y=some c:=e1
      have e2:cenv.cells.lookup z=some c:=e2
      rw [hcl] at e1 e2
      refine cells_inj (fun p hp=>?_) (fun y z c a b=>I.ok.inj y z c (cm a).1 (cm b).1) (PySem.mem_of_lookup e1) (PySem.mem_of_lookup e2)
      rw [Heap.size_push]
      exact Nat.lt_succ_of_lt (cm (y:=p.1) (c:=p.2) hp).2
    · show ∃ c,cenv.cells.lookup y=some c
      have key:∀ k,cenv.kindOf y=some k->(k=.cell\/k=.free)->∃ c,cenv.cells.lookup y=some c:=fun k hk hk'=>by
        unfold Env.kindOf at hk
        rw [hsc] at hk
        obtain ⟨k',e,r⟩:=lookup_relS hk
        have:k'=.cell\/k'=.free:=by
          rcases r with rfl | ⟨rfl,_⟩
          · exact hk'
          · exact .inr rfl
        rcases this with rfl | rfl
        · obtain ⟨c,hm⟩:=cells_has (n:=(s.heap.push { cls:=.type "dict",data:=.dict #[] }).objs.size) (acc:=cloFrom X.env.cells scope.names []) (PySem.mem_of_lookup e)
          obtain ⟨c',e'⟩:=mem_lookup hm
          exact ⟨c',by rw [hcl];exact e'⟩
        · obtain ⟨c,h1,_⟩:=look e
          exact ⟨c,h1⟩
      rcases hy with hy | hy
      · exact key _ hy (.inl rfl)
      · exact key _ hy (.inr rfl)
    · have z:(scope.names.lookup y == some NameKind.cell)=true:=z
      have z:scope.names.lookup y=some .cell:=by simpa using z
      have e:cenv.cells.lookup y=some c:=e
      rw [hcl] at e
      rcases cells_mem (PySem.mem_of_lookup e) with hm | ⟨_,h2,_⟩
      · rcases cloFrom_mem hm with hm | ⟨h1,_⟩
        · cases hm
        · have q:=ok.uniq _ h1
          rw [z] at q;cases q
      · rw [Heap.size_push] at h2
        exact Nat.le_of_succ_le h2
    · show b ≠ cenv.locals
      rw [hL];exact Nat.ne_of_lt (hfp b hb).2
    · have e:cenv.cells.lookup y=some c:=e
      rcases mem e with ⟨h1,_⟩ | ⟨h1,_⟩
      · exact (hfp b hb).1.2.2.2.2.1 y c h1 z
      · have h2:s.heap.objs.size+1<=b:=by rw [<- z];exact h1
        exact absurd (Nat.lt_of_lt_of_le (hfp b hb).2 (Nat.le_of_succ_le h2)) (Nat.lt_irrefl _)
    · rcases (hfp b hb).1.2.2.2.1 with z | z
      · exact I.ok.noex b o e z
      · exact absurd (Nat.lt_of_lt_of_le (Heap.lt_size e) (Nat.le_trans I.ok.bsz z)) (Nat.lt_irrefl _)
    · rcases List.mem_cons.mp (I.stkSub b z) with z | z
      · exact (hfp b hb).1.2.1 z
      · exact (hfp b hb).1.2.2.1 z
  refine ⟨okB,rfl,I.bare,Un.kept kp,⟨fun _=>none,?_,fun i y av e1 e2 e3=>?_⟩,fun y c e=>?_,?_,fun y c e=>?_,fun p hp=>?_,I.hok.kept kp,by rw [wipe_length];exact I.len⟩
  · show Heap.Ns _ cenv.locals _
    rw [hL]
    exact Heap.Ns.keeps (Heap.Ns.new ..) fun b o e=>pushCells_keeps _ _ _ _ e
  · obtain ⟨e2,hne⟩:=wipe_some e2
    have hfr:scope.names.lookup y=some .free/\(cenv.kindOf y=some .cell\/cenv.kindOf y=some .free):=by
      have key:∀ k,cenv.scope.names.lookup y=some k->k=.local\/k=.cell\/k=.free->scope.names.lookup y=some .free/\(cenv.kindOf y=some .cell\/cenv.kindOf y=some .free):=fun k hk hk'=>by
        have hk0:=hk
        rw [hsc] at hk
        obtain ⟨k',e,r⟩:=lookup_relS hk
        have no:¬ (k'=.local\/k'=.cell):=fun hh=>by
          rcases ok.own _ (PySem.mem_of_lookup e) hh with e' | e'
          · obtain ⟨p,hp,hpy⟩:=List.mem_map.mp e'
            have e3:=ok.ix p hp
            have:p.1=y:=hpy
            rw [this] at e3
            exact hne (List.mem_map.mpr ⟨p,hp,nodup_ix hN e3 e1⟩)
          · exact e' (List.mem_of_getElem? e1)
        rcases r with rfl | ⟨rfl,rfl⟩
        · rcases hk' with rfl | rfl | rfl
          · exact absurd (.inl rfl) no
          · exact absurd (.inr rfl) no
          · exact ⟨e,.inr hk0⟩
        · exact ⟨e,.inl hk0⟩
      have e3:Vis cenv.scope y:=e3
      rcases e3 with e3 | e3 | e3
      · exact key _ e3 (.inl rfl)
      · exact key _ e3 (.inr (.inl rfl))
      · exact key _ e3 (.inr (.inr rfl))
    obtain ⟨m,hn,hl⟩:=I.loc
    have hvis:Vis X.env.scope y:=(ok.free _ (PySem.mem_of_lookup hfr.1) rfl).elim (fun k=>.inr (.inl k)) (fun k=>.inr (.inr k))
    obtain ⟨w,r,q⟩:=hl i y av e1 e2 hvis
    refine ⟨w,r,.inr ⟨hfr.2,?_⟩⟩
    obtain ⟨c,h1,h2⟩:=look hfr.1
    rcases q with ⟨k,_⟩ | ⟨_,c',e',z⟩
    · have k:X.env.scope.names.lookup y=some .local:=k
      rcases ok.free _ (PySem.mem_of_lookup hfr.1) rfl with k' | k' <;> rw [show X.env.scope.names.lookup y=_ from k'] at k <;> cases k
    · rw [h2] at e';cases e'
      exact ⟨c,h1,z.keeps kp⟩
  · have e:cenv.cells.lookup y=some c:=e
    rcases mem e with ⟨h1,_⟩ | ⟨_,z⟩
    · obtain ⟨w,z⟩:=I.cell y c h1
      exact ⟨w,z.keeps kp⟩
    · exact ⟨_,z⟩
  · show H cenv.locals=none
    rw [hL];exact I.hok.fresh (Nat.le_refl _)
  · have e:cenv.cells.lookup y=some c:=e
    rcases mem e with ⟨h1,_⟩ | ⟨h1,_⟩
    · exact I.freeC y c h1
    · exact I.hok.fresh (Nat.le_of_succ_le h1)
  · exact absurd (show p ∈ ([]:List (Addr × Obj))++[] from hp) (by simp)
theorem app_ok {E:Value->Shared->Prop} {D:Addr} {xs:List V} {y:V} {v:Value} {Q:Value->Shared->Prop} (I:Inv X pins σ H s) (hD:H D=some (.lst xs)) (hz:xs.length < sizeLine) (r:RelV y v)
    (h:∀ s',Inv X pins σ (upd H D (.lst (xs++[y]))) s'->Q .none s'):wpAny (model X.prog X.w) X.A (call (.builtin "list.append") [.ref D,v]) Q E s:=by
  obtain ⟨hz',its,n,ri,e⟩:=I.hok D _ hD
  have hl:=ri.length
  refine append_at (hsz:=by rw [List.size_toArray];omega) e fun h' sb ho'=>?_
  refine h { s with heap:=h' } (I.write (t':=s.toks) (by rw [hD];trivial) (.inl rfl) (fun b u hb q=>(sb.2 b hb).trans q) ⟨_,ho'⟩ ⟨by rw [List.length_append];exact hz,its++[v],n+1,ri.append (.cons r .nil),?_⟩)
  rw [ho']
  simp
def PTs (X:Cx) (ifs:List Expr) (t:TT):Prop:=
  ∀ (pins:List (Addr × Obj)) (s:Shared) (σ:St) (H:Hp) (Q:Bool->Hp->Prop),Inv X pins σ H s->t σ H Q->
    wpAny (model X.prog X.w) X.A (forIn ifs true fun c r=>if r=true then do let ok ← isTrue c X.env (eval c X.env);pure (ForInStep.yield ok) else pure (ForInStep.yield r)) (TP X pins σ Q) X.xe s
def tYes:TT:=fun _ H Q=>Q true H
theorem pts_nil:PTs X [] tYes:=fun _ _ _ H _ I h=>wpAny_tests_nil ⟨H,I,h⟩
theorem pts_one {c:Expr} {t:TT} (h:PT X c t):PTs X [c] t:=fun pins s σ H Q I hw=>wpAny_tests_one (h pins s σ H Q I hw)
end
theorem thnF {α:Type} {t:Sem α} {Q Q':α->Shared->Prop} {M:Model} {A:Around} {E:Value->Shared->Prop} {s:Shared} (h:wpAny M A t Q (fun _ _=>False) s) (hQ:∀ a s,Q a s->Q' a s):wpAny M A t Q' E s:=wpAny_mono h hQ fun _ _ z=>False.elim z
theorem compLoop_any {prog:Program} {w:World} {A:Around} {R:Result->Shared->Prop} {s:Shared} {elt target iter:Expr} {ifs:List Expr} {scope:Scope} {pos:Pos} {it acc:Value} {env:Env} (I:Nat->Shared->Prop)
    (turn:∀ n s,I n s->wpAny (model prog w) A (pyNext it) (fun r s₁=>match r with
      | none=>R (.ok .next) s₁
      | some v=>wpAny (model prog w) A (letOwnedTupleGo target it v) (fun _ s₁'=>wpAny (model prog w) A (assign target env v) (fun _ s₂=>
          wpAny (model prog w) A (forIn ifs true fun c r=>if r=true then do let ok ← isTrue c env (eval c env);pure (ForInStep.yield ok) else pure (ForInStep.yield r)) (fun ok s₃=>
            if ok=true then wpAny (model prog w) A (eval elt env) (fun x s₄=>
              wpAny (model prog w) A (call (.builtin "list.append") [acc,x]) (fun _ s₅=>∃ m,m < n/\I m s₅) (notedBy (model prog w) A env fun e s'=>R (.error e) s') s₄) (notedBy (model prog w) A env fun e s'=>R (.error e) s') s₃
            else ∃ m,m < n/\I m s₃) (notedBy (model prog w) A env fun e s'=>R (.error e) s') s₂) (notedBy (model prog w) A env fun e s'=>R (.error e) s') s₁') (notedBy (model prog w) A env fun e s'=>R (.error e) s') s₁) (notedBy (model prog w) A env fun e s'=>R (.error e) s') s)
    (n:Nat) (h:I n s):
    codeAny (model prog w) A (.compLoop (.ListComp elt [⟨target,iter,ifs,0⟩] scope pos) 0 it acc env) R s:=by
  refine codeAny_loop rfl I (fun n s hI=>?_) n h
  show wpAny _ A ((compTurn (.ListComp elt [⟨target,iter,ifs,0⟩] scope pos) 0 it acc env).onRaise (fun x=>do noteFrame x env;theTreesLotGoes x)) _ _ s
  refine wpAny_noted ?_
  rw [compTurn_list]
  refine wpAny_bind (wpAny_standAt (wpAny_bind (wpAny_mono (turn n s hI) (fun r s₁ h₁=>?_) fun _ _ h'=>h')))
  cases r with
  | none=>exact wpAny_pure h₁
  | some v=>
    refine wpAny_bind (wpAny_mono h₁ (fun _ s₁' h₁'=>?_) fun _ _ h'=>h')
    refine wpAny_bind (wpAny_mono h₁' (fun _ s₂ h₂=>wpAny_bind (wpAny_mono h₂ (fun ok s₃ h₃=>?_) fun _ _ h'=>h')) fun _ _ h'=>h')
    cases ok with
    | false=>exact wpAny_pure ⟨rfl,h₃⟩
    | true=>
      exact wpAny_bind (wpAny_bind (wpAny_mono h₃ (fun x s₄ h₄=>wpAny_bind (wpAny_mono h₄ (fun _ s₅ h₅=>wpAny_pure (wpAny_pure ⟨rfl,h₅⟩)) fun _ _ h'=>h')) fun _ _ h'=>h'))
section
variable {X:Cx}
def tLc (wi:TI) (g:TG) (tt:TT) (te:TE) (vs:List Nat):TE:=fun σ H Q=>wi σ H fun J H1=>∀ D,H1 D=none->∃ W:Nat->Nat->Hp->Prop,(∃ m,W 0 m (upd H1 D (.lst [])))/\∀ i m H,W i m H->
  (J.stop i H/\Q (.ref D) H)\/(J.go i H/\∃ Nx:Hp->Prop,(∀ H',Nx H'->∃ m',m' < m/\W (i+1) m' H')/\∀ x H',J.yld i H x H'->g x (wipe σ vs) H' fun σ2 H2=>wipe σ2 vs=wipe σ vs/\tt σ2 H2 fun b H3=>
    if b=true then te σ2 H3 fun y H4=>∃ acc,H4 D=some (.lst acc)/\acc.length < sizeLine/\Nx (upd H4 D (.lst (acc++[y]))) else Nx H3)
theorem lc_core {pins:List (Addr × Obj)} {s:Shared} {σ:St} {H:Hp} {Q:VK} {elt tg iter:Expr} {ifs:List Expr} {scope:Scope} {own:List (Str × Nat)} {pos pos':Pos} {wi:TI} {g:TG} {tt:TT} {te:TE} {use:Option (Value->Sem Unit)} {Qf:Value->Shared->Prop}
    (hc:X.calm=true) (hN:X.N.Nodup) (I:Inv X pins σ H s) (hi:PI X tg iter wi) (ok:BlkOk X.N X.env.scope scope own)
    (hg:∀ (s:Shared) (H:Hp) (C:Addr) (cl:List (Str × Addr)) (fp:List Addr),PG (X.blk s H scope (compEnvC scope cl C X.env) fp) tg g) (ht:∀ (s:Shared) (H:Hp) (C:Addr) (cl:List (Str × Addr)) (fp:List Addr),PTs (X.blk s H scope (compEnvC scope cl C X.env) fp) ifs tt)
    (he:∀ (s:Shared) (H:Hp) (C:Addr) (cl:List (Str × Addr)) (fp:List Addr),PE (X.blk s H scope (compEnvC scope cl C X.env) fp) elt te) (hs:∀ x,foldedSetIterable iter X.env x=pure x)
    (h:tLc wi g tt te (own.map (·.2)) σ H Q)
    (hRR:∀ D C s' m H',Inv X pins σ H' s'->Q (.ref D) H'->s'.heap.Ns C m->FpOk X pins H' C->compPost (model X.prog X.w) X.A X.xe use Qf (.ref D) C (.ok .next) s'):
    wpAny (model X.prog X.w) X.A (comprehension (.ListComp elt [⟨tg,iter,ifs,0⟩] scope pos) scope X.env pos' (newList []) false (eval iter X.env) use) Qf X.xe s:=by
  have hfree:∀ y ∈ scope.names,y.2=.free->∃ c,X.env.cells.lookup y.1=some c:=fun y hy e=>by
    rcases ok.free y hy e with k | k
    · exact I.ok.has _ (.inl k)
    · exact I.ok.has _ (.inr k)
  refine wpAny_comprehension_free (use:=use) rfl hs (closure_ok hfree) ok.kind (fun y hy e=>by rw [ok.uniq y hy,e])
    (thn (hi pins s σ H _ I h) fun xv s1 hx=>thn hx fun itv s2 h2=>?_)
  obtain ⟨it,fp,tn,J,H2,e,I2,T,st2,f2,q⟩:=h2
  subst e
  refine wpAny_newObj_type (newEnv_comp ?_) (by show 0<=sizeLine;decide)
  generalize hD:s2.heap.objs.size=D
  have hDn:H2 D=none:=I2.hok.fresh (Nat.le_of_eq hD)
  obtain ⟨W,⟨m0,w0⟩,turn⟩:=q D hDn
  generalize hs3:({ s2 with heap:=s2.heap.push { cls:=.type "list",data:=.seq ([]:List Value).toArray } }:Shared)=s3
  have I3:Inv X pins σ (upd H2 D (.lst [])) s3:=by
    rw [<- hs3]
    refine I2.laid (t':=s2.toks) (fun b o e=>Heap.get?_push_of_some _ e) (Nat.le_of_eq hD) ⟨Nat.zero_le _,[],0,.nil,?_⟩
    rw [<- hD]
    exact Heap.get?_push_size _ rfl
  have h3:s3.heap=s2.heap.push { cls:=.type "list",data:=.seq ([]:List Value).toArray }:=by rw [<- hs3]
  have sz:∀ b ∈ fp,b < s2.heap.objs.size:=fun b hb=>by
    obtain ⟨o,e,_⟩:=T.obj _ _ st2 b hb
    exact Heap.lt_size e
  have f3:∀ b ∈ fp,FpOk X pins (upd H2 D (.lst [])) b/\b < s3.heap.objs.size:=fun b hb=>by
    have hlt:=sz b hb
    refine ⟨⟨?_,(f2 b hb).2⟩,by rw [h3,Heap.size_push];exact Nat.lt_succ_of_lt hlt⟩
    rw [upd_ne (by rw [<- hD];exact Nat.ne_of_lt hlt)]
    exact (f2 b hb).1
  have st3:tn 0 s3.heap:=T.keep _ _ _ st2 fun b _ o e=>by rw [h3];exact Heap.get?_push_of_some _ e
  have I4:=block_start I3 ok hN f3
  have pg:=hg s3 (upd H2 D (.lst [])) s3.heap.objs.size (cellsFrom (s3.heap.objs.size+1) scope.names (cloFrom X.env.cells scope.names [])) fp
  have pt:=ht s3 (upd H2 D (.lst [])) s3.heap.objs.size (cellsFrom (s3.heap.objs.size+1) scope.names (cloFrom X.env.cells scope.names [])) fp
  have pe:=he s3 (upd H2 D (.lst [])) s3.heap.objs.size (cellsFrom (s3.heap.objs.size+1) scope.names (cloFrom X.env.cells scope.names [])) fp
  show codeAny _ _ (.compStart (.ListComp elt [⟨tg,iter,ifs,0⟩] scope pos) 0 (.ref it) (.ref D) (compEnvC scope (cellsFrom (s3.heap.objs.size+1) scope.names (cloFrom X.env.cells scope.names [])) s3.heap.objs.size X.env)) (compPost (model X.prog X.w) X.A X.xe use Qf (.ref D) s3.heap.objs.size) { s3 with heap:=pushCells (s3.heap.push { cls:=.type "dict",data:=.dict #[] }) scope.names }
  have nfp:∀ b ∈ fp,(upd H2 D (.lst [])) b=none:=fun b hb=>(f3 b hb).1.1
  generalize hce:compEnvC scope (cellsFrom (s3.heap.objs.size+1) scope.names (cloFrom X.env.cells scope.names [])) s3.heap.objs.size X.env=ce at I4 pg pt pe ⊢
  have cL:ce.locals=s3.heap.objs.size:=by subst hce;rfl
  generalize hH3:upd H2 D (.lst [])=H3 at I3 I4 pg pt pe w0 nfp f3
  generalize hs4:({ s3 with heap:=pushCells (s3.heap.push { cls:=.type "dict",data:=.dict #[] }) scope.names }:Shared)=s4 at I4 ⊢
  have st4:tn 0 s4.heap:=T.keep _ _ _ st3 fun b _ o e=>by rw [<- hs4];exact pushCells_keeps _ _ _ _ (Heap.get?_push_of_some _ e)
  have stat:∀ {σ':St} {H':Hp} {s':Shared},Inv (X.blk s3 H3 scope ce fp) [] σ' H' s'->(∀ b ∈ fp,H' b=none)->∀ b ∈ fp,FpOk (X.blk s3 H3 scope ce fp) [] H' b:=fun {σ' H' s'} I' hn b hb=>
    ⟨hn b hb,(I'.ok.exf b hb).1,I'.ok.exfs b hb,.inl hb,fun x c e=>(I'.ok.exf b hb).2 x c e,fun p hp=>absurd (show p ∈ ([]:List (Addr × Obj))++[] from hp) (by simp)⟩
  have loop:codeAny (model X.prog X.w) X.A (.compLoop (.ListComp elt [⟨tg,iter,ifs,0⟩] scope pos) 0 (.ref it) (.ref D) ce) (compPost (model X.prog X.w) X.A X.xe use Qf (.ref D) s3.heap.objs.size) s4:=by
    refine compLoop_any (fun n s'=>∃ i H',Inv (X.blk s3 H3 scope ce fp) [] (wipe σ (own.map (·.2))) H' s'/\tn i s'.heap/\(∀ b ∈ fp,H' b=none)/\W i n H') ?_ m0 ⟨0,H3,I4,st4,nfp,w0⟩
    rintro n s5 ⟨i,H5,I5,st5,n5,w5⟩
    rcases turn i n H5 w5 with ⟨stop,qq⟩ | ⟨go,Nx,hNx,step⟩
    · have td:=T.done (X.blk s3 H3 scope ce fp) rfl rfl rfl hc i [] s5 _ H5 (fun _ _=>False) I5 (stat I5 n5) st5 stop
      refine thnF td fun r s6 ⟨hr,I6⟩=>?_
      subst hr
      have I7:Inv X pins σ H5 s6:=I3.call' (ch:=fp) I6.os I6.base I6.hok I6.bare fun b hb=>⟨(f3 b hb).1.2.2.2.1,(f3 b hb).1.2.1,(f3 b hb).1.2.2.2.2.1,(f3 b hb).1.2.2.2.2.2⟩
      have nC:H5 s3.heap.objs.size=none:=by
        have z:H5 ce.locals=none:=I6.free
        rw [cL] at z
        exact z
      obtain ⟨m,hn,_⟩:=I6.loc
      have hn:s6.heap.Ns ce.locals m:=hn
      rw [cL] at hn
      exact hRR D s3.heap.objs.size s6 m H5 I7 qq hn (I3.fpOk (Nat.le_refl _) nC)
    · have ti:=T.item (X.blk s3 H3 scope ce fp) rfl rfl rfl hc i [] s5 _ H5 (fun _ _=>False) I5 (stat I5 n5) st5 go
      refine thnF ti fun r s6 ⟨u,hr,h6⟩=>?_
      subst hr
      refine thnF h6 fun _ s7 ⟨x,H7,I7,r7,y7,st7,n7⟩=>?_
      have I7':=I7.pinned (stat I7 n7) (T.obj _ _ st7)
      refine thnF (pg _ s7 _ H7 x u _ I7' r7 (step x H7 y7)) fun _ s8 ⟨σ8,H8,I8,hw8,q8⟩=>?_
      refine thnF (pt _ s8 σ8 H8 _ I8 q8) fun b s9 ⟨H9,I9,q9⟩=>?_
      have fin:∀ {s':Shared} {H':Hp},Inv (X.blk s3 H3 scope ce fp) ([]++pinsAt fp s7.heap) σ8 H' s'->Nx H'->∃ m,m < n/\∃ i H',Inv (X.blk s3 H3 scope ce fp) [] (wipe σ (own.map (·.2))) H' s'/\tn i s'.heap/\(∀ b ∈ fp,H' b=none)/\W i m H':=fun {s' H'} I' nx=>by
        obtain ⟨m',hm,w'⟩:=hNx H' nx
        have pin':∀ b ∈ fp,∀ o,s7.heap.get? b=some o->s'.heap.get? b=some o/\H' b=none:=fun b hb o e=>
          let z:=I'.pin (b,o) (List.mem_append_right _ (List.mem_append_right _ (mem_pinsAt hb e)))
          ⟨z.1,z.2.1⟩
        have hl:(wipe σ (own.map (·.2))).length=σ8.length:=by rw [<- hw8,wipe_length]
        refine ⟨m',hm,i+1,H',(I'.unpinned (pins:=[])).weak hl (fun j v e=>?_),T.keep _ _ _ st7 fun b hb o e=>(pin' b hb o e).1,fun b hb=>?_,w'⟩
        · rw [<- hw8] at e
          exact (wipe_some e).1
        · obtain ⟨o,e,_⟩:=T.obj _ _ st7 b hb
          exact (pin' b hb o e).2
      cases b with
      | false=>
        simp only [Bool.false_eq_true,if_false] at q9 ⊢
        exact fin I9 q9
      | true=>
        simp only [if_true] at q9 ⊢
        refine thnF (pe _ s9 σ8 H9 _ I9 q9) fun z s10 ⟨yv,H10,I10,r10,acc,hD10,hz10,nx⟩=>?_
        exact app_ok (X:=X.blk s3 H3 scope ce fp) I10 hD10 hz10 r10 fun s11 I11=>fin I11 nx
  exact codeAny_compStart_list loop (T.self X.A 0 _ _ _ st4 loop)
theorem pe_lc {elt tg iter:Expr} {ifs:List Expr} {scope:Scope} {own:List (Str × Nat)} {pos:Pos} {wi:TI} {g:TG} {tt:TT} {te:TE} (hc:X.calm=true) (hN:X.N.Nodup) (hi:PI X tg iter wi) (ok:BlkOk X.N X.env.scope scope own)
    (hg:∀ (s:Shared) (H:Hp) (C:Addr) (cl:List (Str × Addr)) (fp:List Addr),PG (X.blk s H scope (compEnvC scope cl C X.env) fp) tg g) (ht:∀ (s:Shared) (H:Hp) (C:Addr) (cl:List (Str × Addr)) (fp:List Addr),PTs (X.blk s H scope (compEnvC scope cl C X.env) fp) ifs tt)
    (he:∀ (s:Shared) (H:Hp) (C:Addr) (cl:List (Str × Addr)) (fp:List Addr),PE (X.blk s H scope (compEnvC scope cl C X.env) fp) elt te) (hs:∀ x,foldedSetIterable iter X.env x=pure x:=by intro _;rfl):
    PE X (.ListComp elt [⟨tg,iter,ifs,0⟩] scope pos) (tLc wi g tt te (own.map (·.2))):=by
  intro pins s σ H Q I h
  rw [eval_ListComp]
  refine lc_core hc hN I hi ok hg ht he hs h fun D C s' m H' I' q hn f=>⟨m,hn,fun h'' sb=>?_⟩
  obtain ⟨f0,f1,f2,f3,f4,f5⟩:=f
  exact ⟨.ref D,H',I'.turned (t':=s'.toks) (fun b o hb e=>(sb.2 b hb).trans e) f0 f1 f3 f4 f5,rfl,q⟩
theorem ps_setLc {i:Nat} {y:Str} {py:Pos} {elt tg iter:Expr} {ifs:List Expr} {scope:Scope} {own:List (Str × Nat)} {pos spos:Pos} {wi:TI} {g:TG} {tt:TT} {te:TE} (hc:X.calm=true) (hN:X.N.Nodup) (hy:X.N[i]?=some y) (hyl:X.env.scope.names.lookup y=some .local)
    (hsw:swapsWith (.ListComp elt [⟨tg,iter,ifs,0⟩] scope pos) (some (.Name y py)) spos.line X.env=pure true) (hi:PI X tg iter wi) (ok:BlkOk X.N X.env.scope scope own)
    (hg:∀ (s:Shared) (H:Hp) (C:Addr) (cl:List (Str × Addr)) (fp:List Addr),PG (X.blk s H scope (compEnvC scope cl C X.env) fp) tg g) (ht:∀ (s:Shared) (H:Hp) (C:Addr) (cl:List (Str × Addr)) (fp:List Addr),PTs (X.blk s H scope (compEnvC scope cl C X.env) fp) ifs tt)
    (he:∀ (s:Shared) (H:Hp) (C:Addr) (cl:List (Str × Addr)) (fp:List Addr),PE (X.blk s H scope (compEnvC scope cl C X.env) fp) elt te) (hs:∀ x,foldedSetIterable iter X.env x=pure x:=by intro _;rfl):
    PS X (.Assign [.Name y py] (.ListComp elt [⟨tg,iter,ifs,0⟩] scope pos) spos) (tAsg (tLc wi g tt te (own.map (·.2))) (gName i)):=by
  intro pins s σ H D I h
  rw [exec_Assign_Name_used _ _ _ _ hsw]
  refine wpAny_bind (wpAny_standAt (wpAny_bind ?_))
  show wpAny _ X.A (do let _ ← comprehension (.ListComp elt [⟨tg,iter,ifs,0⟩] scope pos) scope X.env (firstIterPos [⟨tg,iter,ifs,0⟩] pos) (newList []) false (eval iter X.env) (some (assign (.Name y py) X.env))) _ _ s
  have h:tLc wi g tt te (own.map (·.2)) σ H (fun x H1=>gName i x σ H1 D.nx):=h
  refine wpAny_bind (thn (lc_core (Qf:=fun _ s'=>SP X pins D .next s') hc hN I hi ok hg ht he hs h fun L C s' m H' I' q hn f=>?_) fun _ s' hq=>wpAny_pure (wpAny_pure hq))
  show wpAny _ _ (assign (.Name y py) X.env (.ref L)) _ _ _
  refine wpAny_assign_Name (store_ok2 (v:=V.ref L) I' hN hy (.inl hyl) rfl (fun s2 I2 ⟨a,sb,ha⟩=>?_) (.inr hyl))
  obtain ⟨f0,f1,f2,f3,f4,f5⟩:=f
  have haC:C ≠ a:=by
    rcases ha with z | z
    · rw [z];exact f1
    · exact fun e=>f4 y a z e.symm
  refine ⟨m,hn.sameBut sb haC,fun h3 sb3=>?_⟩
  exact ⟨_,H',I2.turned (t':=s2.toks) (fun b o hb e=>(sb3.2 b hb).trans e) f0 f1 f3 f4 f5,q⟩
end
theorem lc_list {K:PySem.W.Frag} {a:Addr} {xs:List V} {g:TG} {tt:TT} {te:TE} {vs:List Nat} {σ:St} {H1:Hp} {D:Addr} {Qd:Hp->Prop} (Pv:Nat->Hp->Prop) (h0:Pv 0 (upd H1 D (.lst []))) (hl:∀ i H,i<=xs.length->Pv i H->SqL K H a xs)
    (hs:∀ i x H,xs[i]?=some x->Pv i H->g x (wipe σ vs) H fun σ2 H2=>wipe σ2 vs=wipe σ vs/\tt σ2 H2 fun b H3=>
      if b=true then te σ2 H3 fun y H4=>∃ acc,H4 D=some (.lst acc)/\acc.length < sizeLine/\Pv (i+1) (upd H4 D (.lst (acc++[y]))) else Pv (i+1) H3) (hd:∀ H,Pv xs.length H->Qd H):
    ∃ W:Nat->Nat->Hp->Prop,(∃ m,W 0 m (upd H1 D (.lst [])))/\∀ i m H,W i m H->
      ((Itl K a).stop i H/\Qd H)\/((Itl K a).go i H/\∃ Nx:Hp->Prop,(∀ H',Nx H'->∃ m',m' < m/\W (i+1) m' H')/\∀ x H',(Itl K a).yld i H x H'->g x (wipe σ vs) H' fun σ2 H2=>wipe σ2 vs=wipe σ vs/\tt σ2 H2 fun b H3=>
        if b=true then te σ2 H3 fun y H4=>∃ acc,H4 D=some (.lst acc)/\acc.length < sizeLine/\Nx (upd H4 D (.lst (acc++[y]))) else Nx H3):=by
  refine ⟨fun i m H=>m=xs.length - i/\i<=xs.length/\Pv i H,⟨xs.length,by simp,Nat.zero_le _,h0⟩,?_⟩
  rintro i m H ⟨rfl,hi,p⟩
  have q:=hl i H hi p
  by_cases hlt:i < xs.length
  · refine .inr ⟨⟨xs,xs[i],q,by simp [hlt]⟩,Pv (i+1),fun H' p'=>⟨xs.length - (i+1),by omega,rfl,hlt,p'⟩,fun x H' y=>?_⟩
    obtain ⟨e,y⟩:=y
    subst e
    exact hs i x _ (y xs q) p
  · have e:i=xs.length:=by omega
    subst e
    exact .inl ⟨⟨xs,q,Nat.le_refl _⟩,hd H p⟩
end L2
namespace L2
open PySem PySem.Spec PyProof.Rows
section
variable {prog:Program} {w:World} {A:Around} {R:Result->Shared->Prop} {s:Shared} {elt t0 i0 t1 i1:Expr} {ifs0 ifs1:List Expr} {scope:Scope} {pos:Pos} {it acc:Value} {env:Env}
end
section
variable {X:Cx}
end
end L2
namespace L2
open PySem PySem.Spec PyProof.Rows
section
variable {κ:Type} [DecidableEq κ]
def valV (kvs:List (κ × V)) (k:κ):Option V:=(kvs.find? fun kv=>decide (kv.1=k)).map (·.2)
def putK (kvs:List (κ × V)) (k:κ) (v:V):List (κ × V):=
  if (kvs.any fun kv=>decide (kv.1=k))=true then kvs.map (fun kv=>if kv.1=k then (kv.1,v) else kv) else kvs++[(k,v)]
theorem valV_pos {p:κ × V} {r:List (κ × V)} {k:κ} (e:p.1=k):valV (p::r) k=some p.2:=by simp [valV,List.find?_cons,e]
theorem valV_neg {p:κ × V} {r:List (κ × V)} {k:κ} (e:¬ p.1=k):valV (p::r) k=valV r k:=by simp [valV,List.find?_cons,e]
theorem valV_any (k:κ):∀ kvs:List (κ × V),(kvs.any fun kv=>decide (kv.1=k))=(valV kvs k).isSome
  | []=>rfl
  | p::r=>by
    rw [List.any_cons]
    by_cases e:p.1=k
    · simp only [valV_pos e,decide_eq_true e,Bool.true_or,Option.isSome_some]
    · rw [valV_neg e,decide_eq_false e,Bool.false_or];exact valV_any k r
theorem valV_map (k j:κ) (y:V):∀ kvs:List (κ × V),valV (kvs.map fun kv=>if kv.1=k then (kv.1,y) else kv) j=(valV kvs j).map fun x=>if j=k then y else x
  | []=>rfl
  | p::r=>by
    have ih:=valV_map k j y r
    rw [List.map_cons]
    by_cases h:p.1=k
    · rw [if_pos h]
      by_cases e:p.1=j
      · rw [valV_pos (p:=(p.1,y)) e,valV_pos e,Option.map_some,if_pos (e.symm.trans h)]
      · rw [valV_neg (p:=(p.1,y)) e,valV_neg e,ih]
    · rw [if_neg h]
      by_cases e:p.1=j
      · rw [valV_pos (p:=p) e,valV_pos e,Option.map_some,if_neg (fun z=>h (e.trans z))]
      · rw [valV_neg (p:=p) e,valV_neg e,ih]
theorem valV_snoc (k j:κ) (y:V):∀ kvs:List (κ × V),valV kvs k=none->valV (kvs++[(k,y)]) j=if j=k then some y else valV kvs j
  | [],_=>by
    by_cases e:k=j
    · rw [if_pos e.symm];exact valV_pos (p:=(k,y)) e
    · rw [if_neg (fun z=>e z.symm)];exact valV_neg (p:=(k,y)) e
  | p::r,hn=>by
    rw [List.cons_append]
    have hk:¬ p.1=k:=fun z=>by rw [valV_pos z] at hn;cases hn
    rw [valV_neg hk] at hn
    have ih:=valV_snoc k j y r hn
    by_cases e:p.1=j
    · rw [valV_pos e,valV_pos e,if_neg (fun z=>hk (e.trans z))]
    · rw [valV_neg e,valV_neg e,ih]
theorem valV_put (kvs:List (κ × V)) (k j:κ) (y:V):valV (putK kvs k y) j=if j=k then some y else valV kvs j:=by
  unfold putK
  by_cases a:(kvs.any fun kv=>decide (kv.1=k))=true
  · rw [if_pos a,valV_map]
    rw [valV_any] at a
    by_cases e:j=k
    · obtain ⟨x,hx⟩:=Option.isSome_iff_exists.mp a
      rw [if_pos e,e,hx,Option.map_some,if_pos rfl]
    · rw [if_neg e]
      cases valV kvs j with
      | none=>rfl
      | some x=>rw [Option.map_some,if_neg e]
  · rw [if_neg a]
    refine valV_snoc k j y kvs ?_
    rw [valV_any] at a
    cases q:valV kvs k with
    | none=>rfl
    | some x=>rw [q] at a;exact (a rfl).elim
theorem length_putK (kvs:List (κ × V)) (k:κ) (v:V):(putK kvs k v).length<=kvs.length+1:=by
  unfold putK
  split
  · rw [List.length_map];omega
  · rw [List.length_append,List.length_cons,List.length_nil];omega
theorem RelO.isSome_eq {o:Option V} {u:Option Value} (r:RelO o u):o.isSome=u.isSome:=by
  cases o with
  | none=>cases u with
    | none=>rfl
    | some _=>exact (show False from r).elim
  | some _=>cases u with
    | none=>exact (show False from r).elim
    | some _=>rfl
theorem KV.val {kvs:List (κ × V)} {vs:List (κ × Value)} (r:KV kvs vs) (k:κ):RelO (valV kvs k) (valueAt vs k):=by
  unfold KV at r
  induction r with
  | nil=>exact True.intro
  | @cons p q ps qs h t ih=>
    obtain ⟨h1,h2⟩:=h
    by_cases e:p.1=k
    · have e':q.1=k:=h1.symm.trans e
      have b:valueAt (q::qs) k=some q.2:=by simp [valueAt,List.find?_cons,e']
      rw [valV_pos e,b];exact h2
    · have e':¬ q.1=k:=fun z=>e (h1.trans z)
      have b:valueAt (q::qs) k=valueAt qs k:=by simp [valueAt,List.find?_cons,e']
      rw [valV_neg e,b];exact ih
theorem KV.any {kvs:List (κ × V)} {vs:List (κ × Value)} (r:KV kvs vs) (k:κ):(kvs.any fun kv=>decide (kv.1=k))=vs.any fun kv=>decide (kv.1=k):=by
  unfold KV at r
  induction r with
  | nil=>rfl
  | cons h t ih=>rw [List.any_cons,List.any_cons,ih,h.1]
theorem KV.repl {kvs:List (κ × V)} {vs:List (κ × Value)} (r:KV kvs vs) (k:κ) {y:V} {u:Value} (ry:RelV y u):
    KV (kvs.map fun kv=>if kv.1=k then (kv.1,y) else kv) (vs.map fun kv=>if kv.1=k then (kv.1,u) else kv):=by
  unfold KV at r ⊢
  induction r with
  | nil=>exact .nil
  | @cons p q ps qs h t ih=>
    rw [List.map_cons,List.map_cons]
    refine .cons ?_ ih
    obtain ⟨h1,h2⟩:=h
    by_cases e:p.1=k
    · rw [if_pos e,if_pos (h1.symm.trans e)];exact ⟨h1,ry⟩
    · rw [if_neg e,if_neg (fun z=>e (h1.trans z))];exact ⟨h1,h2⟩
theorem KV.put {kvs:List (κ × V)} {vs:List (κ × Value)} (r:KV kvs vs) (k:κ) {y:V} {u:Value} (ry:RelV y u):KV (putK kvs k y) (stored vs k u):=by
  unfold putK stored
  rw [r.any k]
  by_cases e:(vs.any fun kv=>decide (kv.1=k))=true
  · rw [if_pos e,if_pos e];exact r.repl k ry
  · rw [if_neg e,if_neg e];exact Paired.snoc r ⟨rfl,ry⟩
theorem KV.length {kvs:List (κ × V)} {vs:List (κ × Value)} (r:KV kvs vs):kvs.length=vs.length:=Paired.length r
end
theorem kV_is {P:Program} {w:World} {k:Key} {u:Value} (r:RelV (kV k) u):(mixKind P w).is k u=true:=by
  cases k with
  | inl i=>obtain ⟨t,e⟩:=(show ∃ t,u=Value.int i t from r);subst e;exact mixKind_int P w i t
  | inr x=>obtain ⟨t,e⟩:=(show ∃ t,u=Value.str x t from r);subst e;exact mixKind_str P w x t
theorem items_are {P:Program} {w:World}:∀ {ks:List Key} {us:List Value},Vals (ks.map kV) us->ItemsAre (mixKind P w) ks us
  | [],_,r=>by rw [List.map_nil] at r;cases r;exact .nil
  | k::ks,_,r=>by
    rw [List.map_cons] at r
    cases r with
    | cons h t=>exact .cons (kV_is h) (items_are t)
abbrev KT (H:Hp):List (List Key × V)->List (List Key × Addr × Value)->Prop:=Paired fun p q=>p.1=q.1/\H q.2.1=some (.tup (p.1.map kV))/\RelV p.2 q.2.2
theorem KT.val {H:Hp} {kvs:List (List Key × V)} {xs:List (List Key × Addr × Value)} (r:KT H kvs xs) (k:List Key):RelO (valV kvs k) ((atKey xs k).map (·.2)):=by
  induction r with
  | nil=>exact True.intro
  | @cons p q ps qs h t ih=>
    obtain ⟨h1,_,h2⟩:=h
    by_cases e:p.1=k
    · have e':q.1=k:=h1.symm.trans e
      have b:atKey (q::qs) k=some q.2:=by simp [atKey,List.find?_cons,e']
      rw [valV_pos e,b];exact h2
    · have e':¬ q.1=k:=fun z=>e (h1.trans z)
      have b:atKey (q::qs) k=atKey qs k:=by simp [atKey,List.find?_cons,e']
      rw [valV_neg e,b];exact ih
theorem KT.repl {H:Hp} {kvs:List (List Key × V)} {xs:List (List Key × Addr × Value)} (r:KT H kvs xs) (k:List Key) {y:V} {u:Value} (ry:RelV y u):
    KT H (kvs.map fun kv=>if kv.1=k then (kv.1,y) else kv) (xs.map (putAt k u)):=by
  induction r with
  | nil=>exact .nil
  | @cons p q ps qs h t ih=>
    rw [List.map_cons,List.map_cons]
    refine .cons ?_ ih
    obtain ⟨h1,h2,h3⟩:=h
    unfold putAt
    by_cases e:p.1=k
    · rw [if_pos e,if_pos (h1.symm.trans e)];exact ⟨h1,h2,ry⟩
    · rw [if_neg e,if_neg (fun z=>e (h1.trans z))];exact ⟨h1,h2,h3⟩
theorem KT.put {H:Hp} {kvs:List (List Key × V)} {xs:List (List Key × Addr × Value)} (r:KT H kvs xs) (k:List Key) {b:Addr} {y:V} {u:Value} (hb:H b=some (.tup (k.map kV))) (ry:RelV y u):
    KT H (putK kvs k y) (storedH xs k b u):=by
  have e:(kvs.any fun kv=>decide (kv.1=k))=(atKey xs k).isSome:=by
    rw [valV_any,(r.val k).isSome_eq,Option.isSome_map]
  unfold putK storedH
  rw [e]
  by_cases q:(atKey xs k).isSome=true
  · rw [if_pos q,if_pos q];exact r.repl k ry
  · rw [if_neg q,if_neg q];exact Paired.snoc r ⟨rfl,hb,ry⟩
theorem KT.keeps {H H':Hp} {kvs:List (List Key × V)} {xs:List (List Key × Addr × Value)} (r:KT H kvs xs) (ht:∀ b ys,H b=some (.tup ys)->H' b=some (.tup ys)):KT H' kvs xs:=
  Paired.mapP r fun _ _ z=>⟨z.1,ht _ _ z.2.1,z.2.2⟩
section
variable {P:Program} {w:World} {H:Hp} {h:Heap} {a:Addr}
theorem rd_of {u:HO} (ok:HOk P w H h) (e:Rd H a u):ObjOk P w H h a u:=e.ok ok
theorem dk_rd {kvs:List (Key × V)} (ok:HOk P w H h) (e:Rd H a (.dK kvs)):kvs.length<=sizeLine/\(a == sysModules)=false/\∃ vs,KV kvs vs/\h.DictOf (mixKind P w) a vs:=
  show ObjOk P w H h a (.dK kvs) from rd_of ok e
theorem dk_of {kvs:List (Key × V)} (ok:HOk P w H h) (e:H a=some (.dK kvs)):kvs.length<=sizeLine/\(a == sysModules)=false/\∃ vs,KV kvs vs/\h.DictOf (mixKind P w) a vs:=dk_rd ok (.inl e)
theorem key_of {ks:List Key} (ok:HOk P w H h) (e:H a=some (.tup (ks.map kV))):(tupleKind (mixKind P w)).is h ks a:=by
  obtain ⟨_,its,r,o,h1,h2,n,h3⟩:=(show ObjOk P w H h a (.tup (ks.map kV)) from ok a _ e)
  exact ⟨o,its.toArray,n,h1,h2,h3,by simpa using items_are r⟩
theorem dt_rd {kvs:List (List Key × V)} (ok:HOk P w H h) (e:Rd H a (.dT kvs)):kvs.length<=sizeLine/\(a == sysModules)=false ∧
    ∃ xs,KT H kvs xs/\h.DictOfH (tupleKind (mixKind P w)) a xs:=by
  obtain ⟨z,y,xs,r,o,es,ep,h1,h2,h3,h4,h5⟩:=(show ObjOk P w H h a (.dT kvs) from rd_of ok e)
  refine ⟨z,y,xs,r,o,es,ep,h1,h2,h3,h4,fun x hx=>?_,h5⟩
  have all:∀ {l:List (List Key × V)} {m:List (List Key × Addr × Value)},KT H l m->∀ x ∈ m,(tupleKind (mixKind P w)).is h x.1 x.2.1:=by
    intro l m q
    induction q with
    | nil=>intro x hx;exact nomatch hx
    | @cons p q ps qs hq t ih=>
      intro x hx
      rcases List.mem_cons.mp hx with e | hx
      · subst e
        exact key_of ok (by rw [<- hq.1];exact hq.2.1)
      · exact ih x hx
  exact all r x hx
theorem dt_of {kvs:List (List Key × V)} (ok:HOk P w H h) (e:H a=some (.dT kvs)):kvs.length<=sizeLine/\(a == sysModules)=false ∧
    ∃ xs,KT H kvs xs/\h.DictOfH (tupleKind (mixKind P w)) a xs:=dt_rd ok (.inl e)
end
def DGet (H:Hp) (a:Addr) (y:V) (r:Option V):Prop:=
  (∃ kvs k,Rd H a (.dK kvs)/\y=kV k/\r=valV kvs k)\/∃ kvs k b,Rd H a (.dT kvs)/\y=.ref b/\H b=some (.tup (k.map kV))/\r=valV kvs k
def DPut (H:Hp) (a:Addr) (y v:V) (H':Hp):Prop:=
  (∃ kvs k,H a=some (.dK kvs)/\y=kV k/\kvs.length < sizeLine/\H'=upd H a (.dK (putK kvs k v))) ∨
  ∃ kvs k b,H a=some (.dT kvs)/\y=.ref b/\H b=some (.tup (k.map kV))/\kvs.length < sizeLine/\H'=upd H a (.dT (putK kvs k v))
theorem DGet.t {H:Hp} {a b:Addr} {kvs:List (List Key × V)} {k:List Key} (e:H a=some (.dT kvs)) (eb:H b=some (.tup (k.map kV))):DGet H a (.ref b) (valV kvs k):=.inr ⟨kvs,k,b,.inl e,rfl,eb,rfl⟩
theorem DPut.t {H:Hp} {a b:Addr} {kvs:List (List Key × V)} {k:List Key} {v:V} (e:H a=some (.dT kvs)) (eb:H b=some (.tup (k.map kV))) (hl:kvs.length < sizeLine):
    DPut H a (.ref b) v (upd H a (.dT (putK kvs k v))):=.inr ⟨kvs,k,b,e,rfl,eb,hl,rfl⟩
section
variable {X:Cx} {pins:List (Addr × Obj)} {σ:St} {H:Hp} {s:Shared} {a:Addr} {y v:V} {u r:Value} {o:Option V} {A:Around} {E:Value->Shared->Prop}
theorem Inv.big (I:Inv X pins σ H s):sysModules < s.heap.objs.size:=by
  have h:mainGlobals < s.heap.objs.size:=(I.mod.glob.keeps I.bk).lt
  exact Nat.lt_trans (by decide) h
theorem d_getItem {Q:Value->Shared->Prop} (hu:A.units+1 < cLine) (I:Inv X pins σ H s) (g:DGet H a y (some v)) (ry:RelV y u) (h:∀ w' s',Inv X pins σ H s'->RelV v w'->Q w' s'):
    wpAny (model X.prog X.w) A (getItem (.ref a) u) Q E s:=by
  rcases g with ⟨kvs,k,e,ey,l⟩ | ⟨kvs,k,b,e,ey,eb,l⟩
  · subst ey
    obtain ⟨z,hd,vs,rel,dd⟩:=dk_rd I.hok e
    obtain ⟨w',hw,rw'⟩:=RelO.some_of (v:=v) (o:=valueAt vs k) (by rw [l];exact rel.val k)
    exact wpAny_getItem_of (kV_is ry) dd.mapOf hw (h w' _ (I.tok _) rw')
  · subst ey
    cases (show u=Value.ref b from ry)
    obtain ⟨z,hd,xs,rel,dd⟩:=dt_rd I.hok e
    obtain ⟨w',hw,rw'⟩:=RelO.some_of (v:=v) (o:=(atKey xs k).map (·.2)) (by rw [l];exact rel.val k)
    obtain ⟨p,hp,hp2⟩:=Option.map_eq_some_iff.mp hw
    refine wpAny_getItem_heap (tupleKind_room_in1 hu) (key_of I.hok eb) dd hp ?_
    rw [hp2]
    exact h w' _ (I.tok _) rw'
theorem d_in {Q:Value->Shared->Prop} (hu:A.units+1 < cLine) (I:Inv X pins σ H s) (g:DGet H a y o) (ry:RelV y u) (h:∀ s',Inv X pins σ H s'->Q (.bool o.isSome) s'):
    wpAny (model X.prog X.w) A (compareOp .In u (.ref a)) Q E s:=by
  rcases g with ⟨kvs,k,e,ey,l⟩ | ⟨kvs,k,b,e,ey,eb,l⟩
  · subst ey
    obtain ⟨z,hd,vs,rel,dd⟩:=dk_rd I.hok e
    refine wpAny_in_of (kV_is ry) hd dd.mapOf ?_
    rw [<- (rel.val k).isSome_eq,<- l]
    exact h _ (I.tok _)
  · subst ey
    cases (show u=Value.ref b from ry)
    obtain ⟨z,hd,xs,rel,dd⟩:=dt_rd I.hok e
    refine wpAny_in_heap (tupleKind_room_in1 hu) (key_of I.hok eb) hd dd ?_
    have q:=(rel.val k).isSome_eq
    rw [Option.isSome_map] at q
    rw [<- q,<- l]
    exact h _ (I.tok _)
theorem d_notIn {Q:Value->Shared->Prop} (hu:A.units+1 < cLine) (I:Inv X pins σ H s) (g:DGet H a y o) (ry:RelV y u) (h:∀ s',Inv X pins σ H s'->Q (.bool (!o.isSome)) s'):
    wpAny (model X.prog X.w) A (compareOp .NotIn u (.ref a)) Q E s:=by
  rcases g with ⟨kvs,k,e,ey,l⟩ | ⟨kvs,k,b,e,ey,eb,l⟩
  · subst ey
    obtain ⟨z,hd,vs,rel,dd⟩:=dk_rd I.hok e
    refine wpAny_notIn_of (kV_is ry) hd dd.mapOf ?_
    rw [<- (rel.val k).isSome_eq,<- l]
    exact h _ (I.tok _)
  · subst ey
    cases (show u=Value.ref b from ry)
    obtain ⟨z,hd,xs,rel,dd⟩:=dt_rd I.hok e
    refine wpAny_notIn_heap (tupleKind_room_in1 hu) (key_of I.hok eb) hd dd ?_
    have q:=(rel.val k).isSome_eq
    rw [Option.isSome_map] at q
    rw [<- q,<- l]
    exact h _ (I.tok _)
theorem d_write {h':Heap} {t':Nat} {ob:HO} (I:Inv X pins σ H s) (mu:Mut (H a)) (hs:Heap.SameBut a s.heap h') (he:∃ q,h'.get? a=some q) (new:ObjOk X.prog X.w (upd H a ob) h' a ob):
    Inv X pins σ (upd H a ob) { s with heap:=h',toks:=t' }:=
  I.write (x:=a) (e:=a) mu (.inl rfl) (fun b q hb z=>(hs.2 b hb).trans z) he new
theorem dk_new {P:Program} {w:World} {H':Hp} {h':Heap} {kvs:List (Key × V)} {vs:List (Key × Value)} (z:kvs.length<=sizeLine) (hd:(a == sysModules)=false) (rel:KV kvs vs) (dd:h'.DictOf (mixKind P w) a vs):
    ObjOk P w H' h' a (.dK kvs):=⟨z,hd,vs,rel,dd⟩
theorem d_setItem {H':Hp} {Q:Unit->Shared->Prop} (hu:A.units+1 < cLine) (I:Inv X pins σ H s) (g:DPut H a y v H') (ry:RelV y u) (rv:RelV v r) (h:∀ s',Inv X pins σ H' s'->Q () s'):
    wpAny (model X.prog X.w) A (setItem (.ref a) u r) Q E s:=by
  rcases g with ⟨kvs,k,e,ey,l,eH⟩ | ⟨kvs,k,b,e,ey,eb,l,eH⟩
  · subst ey eH
    obtain ⟨z,hd,vs,rel,dd⟩:=dk_of I.hok e
    have hz:vs.length<=sizeLine:=by rw [<- rel.length];exact z
    have hl:(putK kvs k v).length<=sizeLine:=by have:=length_putK kvs k v;omega
    refine wpAny_setItem_pairs (hsz:=hz) (kV_is ry) dd fun h' dd' hs=>h _ ?_
    have he:∃ q,h'.get? a=some q:=let ⟨q,_,_,hq,_⟩:=dd';⟨q,hq⟩
    exact d_write I (by rw [e];exact True.intro) hs he (dk_new hl hd (rel.put k rv) dd')
  · subst ey eH
    cases (show u=Value.ref b from ry)
    obtain ⟨z,hd,xs,rel,dd⟩:=dt_of I.hok e
    have hz:xs.length<=sizeLine:=by rw [<- Paired.length rel];exact z
    have hl:(putK kvs k v).length<=sizeLine:=by have:=length_putK kvs k v;omega
    refine wpAny_setItem_heap (hsz:=hz) (tupleKind_room_in1 hu) (key_of I.hok eb) dd fun h' dd' hs=>h _ ?_
    obtain ⟨q,es,ep,hq,h2,h3,h4,_,h5⟩:=dd'
    refine d_write I (by rw [e];exact True.intro) hs ⟨q,hq⟩ ⟨hl,hd,_,(rel.put k eb rv).keeps fun c ys ec=>?_,q,es,ep,hq,h2,h3,h4,h5⟩
    rw [upd_ne (ne_of ec e (fun z=>nomatch z))]
    exact ec
end
section
variable {X:Cx} {pins:List (Addr × Obj)} {σ:St} {H:Hp} {s:Shared} {a:Addr} {kvs:List (Key × V)} {k:Key} {u:Value} {A:Around} {E:Value->Shared->Prop}
end
def NoSl (i:Expr):Prop:=∀ ov iv,subscripted i false ov iv=operate [ov,iv] (getItem ov iv)
theorem subD_of {prog:Program} {w:World} {A:Around} {E:Value->Shared->Prop} {s:Shared} {env:Env} {value slice:Expr} {pos:Pos} {T id:String} {Q:Value->Shared->Prop}
    (hl:typeLookup (.type T) "__getitem__"=pure (some (.builtin id))) (hs:NoSl slice)
    (h:wpAny (model prog w) A (eval value env) (fun o s₁=>wpAny (model prog w) A (eval slice env) (fun i s₂=>s₂.TypeIs o T/\wpAny (model prog w) A (getItem o i) Q E s₂) E s₁) E s):
    wpAny (model prog w) A (eval (.Subscript value slice pos) env) Q E s:=by
  refine Subscript_ (wpAny_mono h (fun o s₁ h₁=>wpAny_mono h₁ (fun i s₂ h₂=>?_) fun _ _ x=>x) fun _ _ x=>x)
  obtain ⟨hT,h₂⟩:=h₂
  unfold subscriptTail
  refine wpAny_bind ?_
  rw [getitemInPython_of_ne hT.not_modules]
  refine wpAny_bind (wpAny_specialOf hT hl ?_)
  have fin:wpAny (model prog w) A (subscripted slice false o i) (fun r s₃=>wpAny (model prog w) A (letTemporaryGo value o r >>= fun _=>pure r) Q E s₃) E s₂:=by
    rw [hs o i]
    exact wpAny_operating (wpAny_mono h₂ (fun r s₃ h₃=>wpAny_bind (wpAny_letTemporaryGo (wpAny_pure h₃))) fun _ _ x=>x)
  first
    | exact wpAny_pure (wpAny_bind fin)
    | exact wpAny_bind (wpAny_pure (wpAny_bind fin))
    | exact wpAny_bind fin
theorem dict_typeIs {X:Cx} {pins:List (Addr × Obj)} {σ:St} {H:Hp} {s:Shared} {a:Addr} {y:V} {o:Option V} (I:Inv X pins σ H s) (g:DGet H a y o):s.TypeIs (.ref a) "dict":=by
  rcases g with ⟨kvs,k,e,_,_⟩ | ⟨kvs,k,b,e,_,_,_⟩
  · obtain ⟨_,_,vs,_,dd⟩:=dk_rd I.hok e
    exact dd.typeIs
  · obtain ⟨_,_,xs,_,dd⟩:=dt_rd I.hok e
    exact dd.typeIs
def tDGet (td ty:TE):TE:=fun σ H Q=>td σ H fun x H1=>ty σ H1 fun y H2=>∃ a v,x=.ref a/\DGet H2 a y (some v)/\Q v H2
def tDIn (ty td:TE):TE:=fun σ H Q=>ty σ H fun y H1=>td σ H1 fun x H2=>∃ a o,x=.ref a/\DGet H2 a y o/\Q (.bl o.isSome) H2
def tDNotIn (ty td:TE):TE:=fun σ H Q=>ty σ H fun y H1=>td σ H1 fun x H2=>∃ a o,x=.ref a/\DGet H2 a y o/\Q (.bl (!o.isSome)) H2
def sDPut (td ty tv:TE):TS:=fun D σ H=>tv σ H fun v H1=>td σ H1 fun x H2=>ty σ H2 fun y H3=>∃ a H4,x=.ref a/\DPut H3 a y v H4/\D.nx σ H4
section
variable {X:Cx} {o i e value:Expr} {pos pos' tpos:Pos} {td ty tv:TE}
theorem pe_dget (hu:X.A.units+1 < cLine) (ho:PE X o td) (hi:PE X i ty) (hs:NoSl i):PE X (.Subscript o i pos) (tDGet td ty):=by
  intro pins s σ H Q I h
  refine subD_of PySem.F.slot_dict_getitem.lookup hs (thn (ho pins s σ H _ I h) fun u s1 ⟨x,H1,I1,rx,q1⟩=>thn (hi pins s1 σ H1 _ I1 q1) fun iv s2 ⟨y,H2,I2,ry,a,v,ex,g,q2⟩=>?_)
  subst ex
  obtain rfl:u=Value.ref a:=rx
  exact ⟨dict_typeIs I2 g,d_getItem hu I2 g ry fun w' s3 I3 rw'=>⟨v,H2,I3,rw',q2⟩⟩
theorem pc_din (hu:X.A.units+1 < cLine) (hi:PE X i ty) (ho:PE X o td):PC X .In i o (tDIn ty td):=by
  intro pins s σ H Q I h
  refine thn (hi pins s σ H _ I h) fun iv s1 ⟨y,H1,I1,ry,q1⟩=>thn (ho pins s1 σ H1 _ I1 q1) fun u s2 ⟨x,H2,I2,rx,a,ov,ex,g,q2⟩=>?_
  subst ex
  obtain rfl:u=Value.ref a:=rx
  exact d_in hu I2 g ry fun s3 I3=>⟨.bl ov.isSome,H2,I3,rfl,q2⟩
theorem pc_dnotin (hu:X.A.units+1 < cLine) (hi:PE X i ty) (ho:PE X o td):PC X .NotIn i o (tDNotIn ty td):=by
  intro pins s σ H Q I h
  refine thn (hi pins s σ H _ I h) fun iv s1 ⟨y,H1,I1,ry,q1⟩=>thn (ho pins s1 σ H1 _ I1 q1) fun u s2 ⟨x,H2,I2,rx,a,ov,ex,g,q2⟩=>?_
  subst ex
  obtain rfl:u=Value.ref a:=rx
  exact d_notIn hu I2 g ry fun s3 I3=>⟨.bl (!ov.isSome),H2,I3,rfl,q2⟩
theorem ps_dput (hu:X.A.units+1 < cLine) (ho:PE X o td) (hi:PE X i ty) (hv:PE X value tv) (hs:swapsWith value (some (.Subscript o i pos')) pos.line X.env=pure false):
    PS X (.Assign [.Subscript o i pos'] value pos) (sDPut td ty tv):=by
  intro pins s σ H D I h
  refine wpAny_Assign_Subscript (thn (hv pins s σ H _ I h) fun r s1 ⟨v,H1,I1,rv,q1⟩=>thn (ho pins s1 σ H1 _ I1 q1) fun u s2 ⟨x,H2,I2,rx,q2⟩=>thn (hi pins s2 σ H2 _ I2 q2) fun iv s3 ⟨y,H3,I3,ry,a,H4,ex,g,q3⟩=>?_) hs
  subst ex
  obtain rfl:u=Value.ref a:=rx
  exact d_setItem hu I3 g ry rv fun s4 I4=>⟨σ,H4,I4,q3⟩
end
theorem dt_empty {P:Program} {w:World} {H:Hp} (h:Heap) (hb:sysModules < h.objs.size):ObjOk P w H (h.push { cls:=.type "dict",data:=.dict #[] }) h.objs.size (.dT []):=
  ⟨Nat.zero_le _,beq_eq_false_iff_ne.mpr (Ne.symm (Nat.ne_of_lt hb)),[],.nil,_,#[],0,Heap.get?_push_size _ rfl,⟨rfl,rfl,rfl⟩,rfl,rfl,List.nodup_nil⟩
def tDNewT:TE:=fun _ H Q=>∀ p,H p=none->Q (.ref p) (upd H p (.dT []))
section
variable {X:Cx} {pos:Pos}
theorem pe_dnewT:PE X (.Dict [] [] pos) tDNewT:=fun pins s σ H Q I h=>
  wpAny_Dict_empty ⟨.ref s.heap.objs.size,_,I.laid (a:=s.heap.objs.size) (o:=.dT []) (t':=s.toks) (fun _ _ q=>Heap.get?_push_of_some _ q) (Nat.le_refl _) (dt_empty s.heap I.big),rfl,h _ (I.hok.fresh (Nat.le_refl _))⟩
end
structure M1 (X:Cx) (o:Expr) (m:Str) (apos:Pos) (e:Expr) (cpos:Pos):Prop where
  base:attributeBase o m X.env (eval o X.env)=eval o X.env
  few:((backTo cpos (starEach [e] X.env)).all (fun x=>!x.1) && (backToKw cpos (keywordEach [] X.env)).all (fun x=>x.1.isSome)
    && decide (([e]:List Expr).length+([]:List Keyword).length+(if ([]:List Keyword).isEmpty then 0 else 1) < 30))=true
  line:(apos.endLine == cpos.line)=true
  trees:backTo cpos (starEach [e] X.env)=[(false,eval e X.env)]
structure M2 (X:Cx) (o:Expr) (m:Str) (apos:Pos) (e f:Expr) (cpos:Pos):Prop where
  base:attributeBase o m X.env (eval o X.env)=eval o X.env
  few:((backTo cpos (starEach [e,f] X.env)).all (fun x=>!x.1) && (backToKw cpos (keywordEach [] X.env)).all (fun x=>x.1.isSome)
    && decide (([e,f]:List Expr).length+([]:List Keyword).length+(if ([]:List Keyword).isEmpty then 0 else 1) < 30))=true
  line:(apos.endLine == cpos.line)=true
  trees:backTo cpos (starEach [e,f] X.env)=[(false,eval e X.env),(false,eval f X.env)]
section
variable {X:Cx} {pins:List (Addr × Obj)} {σ:St} {H:Hp} {s:Shared} {a:Addr} {y d:V} {u r:Value} {o:Option V} {A:Around} {E:Value->Shared->Prop}
end
section
variable {X:Cx} {o e f:Expr} {apos cpos:Pos} {td ty tx:TE}
end
section
variable {X:Cx} {pins:List (Addr × Obj)} {σ:St} {H:Hp} {s:Shared} {a:Addr} {kvs:List (Key × V)} {A:Around} {E:Value->Shared->Prop}
end
section
variable {X:Cx} {pins:List (Addr × Obj)} {σ:St} {H:Hp} {s:Shared} {a:Addr} {y:V} {u:Value} {A:Around} {E:Value->Shared->Prop}
end
end L2
namespace L2
open PySem PySem.Spec PyProof.Rows
section
variable {prog:Program} {w:World} {A:Around} {E:Value->Shared->Prop}
end
section
variable {X:Cx}
end
end L2
namespace L2
open PySem PySem.Spec PyProof.Rows
section
variable {X:Cx} {pins:List (Addr × Obj)} {σ:St} {H:Hp} {s:Shared} {h':Heap}
theorem Inv.turnedL {t':Nat} {ch:List Addr} (I:Inv X pins σ H s) (k:∀ b o,b ∉ ch->s.heap.get? b=some o->h'.get? b=some o) (hf:∀ b ∈ ch,FpOk X pins H b):Inv X pins σ H { s with heap:=h',toks:=t' }:=by
  have nit:∀ b u,H b=some u->b ∉ ch:=fun b u e z=>by
    have q:=(hf b z).1
    rw [q] at e;cases e
  refine I.step (g':=s.gens) (d':=s.drawn) (ch:=ch) (fun b hb=>⟨(hf b hb).2.2.2.1,(hf b hb).2.1,(hf b hb).2.2.2.2.1,(hf b hb).2.2.2.2.2⟩) (fun b o _ _ hc e _=>k b o hc e) (fun b o _ _ hc e _=>⟨o.slots,k b o hc e⟩)
    (fun _ _ _ _ n=>n) (fun b o hc e=>⟨o,k b o hc e⟩) (fun _ _ e=>e) (fun _ _ _ e=>e) (fun b ps e=>⟨#[],by rw [e];simp⟩) (fun m hm=>?_) (fun b u e=>?_) I.bare
  · obtain ⟨o,es,ep,ho,r⟩:=hm
    exact ⟨o,es,ep,k _ o (fun z=>(hf _ z).2.1 rfl) ho,r⟩
  · refine (I.hok b u e).stay (fun c v hc q=>k c v ?_ q) (fun _ q=>q) fun _ _ q=>q
    rcases hc with z | z
    · rw [z];exact nit b u e
    · exact nit c _ z
theorem Inv.turnedNew {t':Nat} {ch:List Addr} {T:Addr} {ob:HO} (I:Inv X pins σ H s) (k:∀ b o,b ∉ ch->s.heap.get? b=some o->h'.get? b=some o) (hf:∀ b ∈ ch,FpOk X pins H b) (hT:s.heap.objs.size<=T)
    (new:ObjOk X.prog X.w (upd H T ob) h' T ob):Inv X pins σ (upd H T ob) { s with heap:=h',toks:=t' }:=by
  have hn:H T=none:=I.hok.fresh hT
  have nit:∀ b u,H b=some u->b ∉ ch:=fun b u e z=>by
    have q:=(hf b z).1
    rw [q] at e;cases e
  refine I.step (g':=s.gens) (d':=s.drawn) (ch:=ch) (fun b hb=>⟨(hf b hb).2.2.2.1,(hf b hb).2.1,(hf b hb).2.2.2.2.1,(hf b hb).2.2.2.2.2⟩) (fun b o _ _ hc e _=>k b o hc e) (fun b o _ _ hc e _=>⟨o.slots,k b o hc e⟩)
    (fun b o _ e n=>?_) (fun b o hc e=>⟨o,k b o hc e⟩) (fun b xs e=>?_) (fun b o u e=>?_) (fun b ps e=>⟨#[],?_⟩) (fun m hm=>?_) (fun b u e=>?_) I.bare
  · rw [upd_ne (Nat.ne_of_lt (Nat.lt_of_lt_of_le (Heap.lt_size e) hT))];exact n
  · rw [upd_ne (ne_of_none e hn)];exact e
  · rw [upd_ne (ne_of_none e hn)];exact e
  · rw [upd_ne (ne_of_none e hn),e];simp
  · obtain ⟨o,es,ep,ho,r⟩:=hm
    exact ⟨o,es,ep,k _ o (fun z=>(hf _ z).2.1 rfl) ho,r⟩
  · by_cases hb:b=T
    · subst hb
      rw [upd_same] at e
      cases e
      exact new
    · rw [upd_ne hb] at e
      refine (I.hok b u e).stay (fun c v hc q=>k c v ?_ q) (fun c q=>by rw [upd_ne (ne_of_none q hn)];exact q) fun c xs q=>by rw [upd_ne (ne_of_none q hn)];exact q
      rcases hc with z | z
      · rw [z];exact nit b u e
      · exact nit c _ z
end
section
variable {X:Cx}
theorem pi_one {tg:Expr} {pins:List (Addr × Obj)} {σ:St} {H:Hp} {s:Shared} {R:It->Hp->Prop} {J:It} {tn:Nat->Heap->Prop} {tk:Nat} (I:Inv X pins σ H s) (o:Obj)
    (T:Turn X.prog X.w X.K tg J [s.heap.objs.size] s.heap.objs.size tn) (st:tn 0 (s.heap.push o)) (q:R J H):PIE X pins σ tg R (.ref s.heap.objs.size) { s with heap:=s.heap.push o,toks:=tk }:=by
  refine ⟨s.heap.objs.size,[s.heap.objs.size],tn,J,H,rfl,I.kept fun b ob e=>Heap.get?_push_of_some _ e,T,st,fun b hb=>?_,q⟩
  have e:b=s.heap.objs.size:=by simpa using hb
  subst e
  exact I.fpOk (Nat.le_refl _) (I.hok.fresh (Nat.le_refl _))
end
section
variable {X:Cx} {tg:Expr}
end
section
variable {X:Cx} {tg:Expr}
end
def Its (x:Str):It:=⟨fun i _=>i < x.cps.size,fun i H v H'=>H'=H/\∃ c,x.cps[i]?=some c/\v=.str ⟨#[c]⟩,fun i _=>x.cps.size<=i⟩
theorem turn_str {P:Program} {w:World} {K:PySem.W.Frag} {tg:Expr} (it:Addr) (x:Str) (t:Tok) (ty:String) (hty:ty="str_ascii_iterator"\/ty="str_iterator"):
    Turn P w K tg (Its x) [it] it (fun i h=>h.IsStrIter it ty x t i) where
  mem:=by simp
  obj:=fun i h st b hb=>by
    have e:b=it:=by simpa using hb
    subst e
    obtain ⟨o,e,c,d⟩:=st
    exact ⟨o,e,fun v z=>by rw [d] at z;cases z⟩
  keep:=fun i h h' st k=>let ⟨o,ho,r⟩:=st;⟨o,k it (by simp) o ho,r⟩
  item:=by
    intro X hP hw hK hc i pins s σ H E I hf st hg
    subst hP hw hK
    obtain ⟨f0,f1,f2,f3,f4,f5⟩:=hf it (by simp)
    have W:Walks X.prog X.w X.A it [it] [it] x.cps.size (SignAt x) (fun i h=>h.IsStrIter it ty x t i):=by
      rcases hty with e | e
      · rw [e];exact Walks.strAscii (I.ok.hd hc) it x t
      · rw [e];exact Walks.strWide (I.ok.hd hc) it x t
    have hno:["enumerate","zip","dict_itemiterator","dict_reverseitemiterator","odict_iterator","itertools.zip_longest","itertools.pairwise"].contains ty=false:=by
      rcases hty with e | e
      · rw [e];decide
      · rw [e];decide
    refine W.item i s _ _ hg st fun v h' tk hv st' kk=>?_
    obtain ⟨c,u,hcx,rfl⟩:=hv
    have I1:Inv X pins σ H { s with heap:=h',toks:=tk }:=I.turned (fun b o hb e=>kk b o (by simpa using hb) e) f0 f1 f3 f4 f5
    obtain ⟨oi,e,cc,dd⟩:=id st'
    exact ⟨_,rfl,go_of (s:={ s with heap:=h',toks:=tk }) e cc dd hno ⟨.str ⟨#[c]⟩,H,I1,⟨u,rfl⟩,⟨rfl,c,hcx,rfl⟩,st',fun b hb=>(hf b hb).1⟩⟩
  done:=by
    intro X hP hw hK hc i pins s σ H E I hf st hg
    subst hP hw hK
    obtain ⟨f0,f1,f2,f3,f4,f5⟩:=hf it (by simp)
    have hx:x.cps[i]?=none:=Array.getElem?_eq_none hg
    rcases hty with e | e
    · rw [e] at st
      exact wpAny_pyNext_ascii_end (I.ok.hd hc) st hx fun h' eb=>⟨rfl,I.turned (t':=s.toks) (fun b o hb e=>eb b o hb e) f0 f1 f3 f4 f5⟩
    · rw [e] at st
      exact wpAny_pyNext_wide_end (I.ok.hd hc) st hx fun h' eb=>⟨rfl,I.turned (t':=s.toks) (fun b o hb e=>eb b o hb e) f0 f1 f3 f4 f5⟩
  self:=fun A i s Q E st h=>by
    rcases hty with e | e
    · rw [e] at st;exact wpAny_pyIter_striter_ascii st h
    · rw [e] at st;exact wpAny_pyIter_striter_wide st h
def iStr (te:TE):TI:=fun σ H R=>te σ H fun v H1=>∃ x,v=.str x/\R (Its x) H1
theorem pi_str {X:Cx} {tg e:Expr} {te:TE} (he:PE X e te):PI X tg e (iStr te):=by
  intro pins s σ H R I h
  refine thn (he pins s σ H _ I h) fun v s1 ⟨y,H1,I1,r1,x,ex,q⟩=>?_
  subst ex
  obtain ⟨t,rfl⟩:=r1
  cases ha:x.cps.all (· < 128)
  · exact wpAny_pyIter_wide ha (pi_one (tk:=s1.toks) I1 _ (turn_str _ x t "str_iterator" (.inr rfl)) ⟨_,Heap.get?_push_size _ rfl,rfl,rfl⟩ q)
  · exact wpAny_pyIter_ascii ha (pi_one (tk:=s1.toks) I1 _ (turn_str _ x t "str_ascii_iterator" (.inl rfl)) ⟨_,Heap.get?_push_size _ rfl,rfl,rfl⟩ q)
section
variable {prog:Program} {w:World} {A:Around} {E:Value->Shared->Prop} {s:Shared}
end
section
variable {X:Cx} {pins:List (Addr × Obj)} {σ:St} {H:Hp} {s:Shared} {d:Addr} {o:Obj}
end
section
variable {P:Program} {w:World} {K:PySem.W.Frag} {tg:Expr} {d:Addr} {o:Obj} {es:Array DictEntry} {ep:Nat}
end
section
variable {X:Cx} {tg e:Expr} {td:TE} {apos cpos:Pos}
end
def Ite (K:PySem.W.Frag) (a:Addr):It:=
  ⟨fun i H=>∃ (xs:List V) (x:V),SqL K H a xs/\xs[i]?=some x,fun i H v H'=>∃ T x,v=.ref T/\H T=none/\H'=upd H T (.tup [.int (i:Nat),x])/\∀ xs,SqL K H a xs->xs[i]?=some x,fun i H=>∃ xs:List V,SqL K H a xs/\xs.length<=i⟩
theorem turn_enum {P:Program} {w:World} {K:PySem.W.Frag} {elts:List Expr} {kk:Nat} {tpos:Pos} (a e it:Addr):
    Turn P w K (.Tuple elts kk tpos) (Ite K a) [e,it] e (fun i h=>(∃ old,IsEnum h e it ((i:Nat):Int) old)/\h.IsListIter it a i/\e ≠ it) where
  mem:=by simp
  obj:=fun i h st b hb=>by
    obtain ⟨⟨old,he⟩,⟨o,ho,hc,hd⟩,_⟩:=st
    have e':b=e\/b=it:=by simpa using hb
    rcases e' with z | z
    · rw [z];exact ⟨_,he,fun v q=>nomatch q⟩
    · rw [z];exact ⟨o,ho,fun v q=>by rw [hd] at q;cases q⟩
  keep:=fun i h h' st k=>let ⟨⟨old,he⟩,hi,hne⟩:=st;⟨⟨old,k e (by simp) _ he⟩,hi.at fun o q=>k it (by simp) o q,hne⟩
  item:=by
    intro X hP hw hK hc i pins s σ H E I hf st hg
    subst hP hw hK
    obtain ⟨⟨old,he⟩,hit,hne⟩:=st
    obtain ⟨xs,x,hq,hx⟩:=hg
    obtain ⟨its,rv,p,hz⟩:=I.list hq
    obtain ⟨u,hu,ru⟩:=rv.get hx
    have hel:e < s.heap.objs.size:=Heap.lt_size he
    have hil:it < s.heap.objs.size:=by obtain ⟨_,q,_⟩:=hit;exact Heap.lt_size q
    refine wpAny_pyNext_enum_item he hit p.isList (x:=u) (by simpa using hu) hne fun h' ho hit' hT hsz hk=>?_
    refine ⟨_,rfl,wpAny_letOwnedTupleGo_enum (s:={ s with heap:=h',toks:=s.toks+1 }) ho fun h'' he' sb=>?_⟩
    have hT2:h''.get? s.heap.objs.size=some { cls:=.type "tuple",data:=.seq #[.int i s.toks,u] }:=(sb.2 _ (Nat.ne_of_gt hel)).trans hT
    have new:ObjOk X.prog X.w (upd H s.heap.objs.size (.tup [.int (i:Nat),x])) h'' s.heap.objs.size (.tup [.int (i:Nat),x]):=
      ⟨by show 2<=sizeLine;decide,[.int i s.toks,u],.cons ⟨_,rfl⟩ (.cons ru .nil),⟨_,hT2,rfl,_,rfl⟩⟩
    have I1:Inv X pins σ (upd H s.heap.objs.size (.tup [.int (i:Nat),x])) { s with heap:=h'',toks:=s.toks+1 }:=
      I.turnedNew (ch:=[e,it]) (fun b ob hb q=>(sb.2 b (fun z=>hb (by simp [z]))).trans (hk b ob (fun z=>hb (by simp [z])) (fun z=>hb (by simp [z])) q)) hf (Nat.le_refl _) new
    refine ⟨.ref s.heap.objs.size,_,I1,rfl,⟨_,x,rfl,I.hok.fresh (Nat.le_refl _),rfl,fun ys hy=>by rw [I.list_inj hy hq];exact hx⟩,⟨⟨u,?_⟩,hit'.at fun o q=>(sb.2 it (Ne.symm hne)).trans q,hne⟩,fun b hb=>?_⟩
    · have e1:((i+1:Nat):Int)=(i:Int)+1:=by omega
      rw [e1];exact he'
    · have hb':b < s.heap.objs.size:=by
        have e':b=e\/b=it:=by simpa using hb
        rcases e' with z | z
        · rw [z];exact hel
        · rw [z];exact hil
      rw [upd_ne (Nat.ne_of_lt hb')]
      exact (hf b hb).1
  done:=by
    intro X hP hw hK hc i pins s σ H E I hf st hg
    subst hP hw hK
    obtain ⟨⟨old,he⟩,hit,hne⟩:=st
    obtain ⟨xs,hq,hx⟩:=hg
    obtain ⟨its,rv,p,hz⟩:=I.list hq
    obtain ⟨f0,f1,f2,f3,f4,f5⟩:=hf it (by simp)
    have hl:=rv.length
    exact wpAny_pyNext_enum_end (I.ok.hd hc) he hit p.isList (by simp;omega) fun h' eb=>⟨rfl,I.turned (t':=s.toks) (fun b o hb q=>eb b o hb q) f0 f1 f3 f4 f5⟩
  self:=fun A i s Q E st h=>let ⟨⟨_,he⟩,_⟩:=st;wpAny_pyIter_enum he h
def iEnum (K:PySem.W.Frag) (ta:TA):TI:=fun σ H R=>ta σ H fun vs H1=>∃ a xs,vs=[.ref a]/\SqL K H1 a xs/\R (Ite K a) H1
theorem pi_enum {X:Cx} {e:Expr} {ta:TA} {p pos tpos:Pos} {elts:List Expr} {kk:Nat} (hg:Gl X "enumerate") (hm:X.mg "enumerate"=none) (ha:PA X [e] ta) (hs:starEach [e] X.env=[(false,eval e X.env)]:=by rfl):
    PI X (.Tuple elts kk tpos) (.Call (.Name "enumerate" p) [e] [] pos) (iEnum X.K ta):=by
  intro pins s σ H R I h
  refine Call_ (ld_blt I hg hm boot_enumerate (PyProof.Rows.callWith_type1 (thn (ha pos pins s σ H _ I h) fun us s1 ⟨vs,H1,I1,r1,q1⟩=>?_) hs rfl))
  obtain ⟨a,xs,ex,hq,q⟩:=q1
  subst ex
  cases r1 with
  | cons r rr=>
    cases rr
    cases r
    obtain ⟨its,rv,p',hz⟩:=I1.list hq
    refine call_enumerate_list p'.isList fun h' he hit hsz hk=>wpAny_pyIter_enum he ?_
    have I2:Inv X pins σ H1 { s1 with heap:=h' }:=I1.kept (t':=s1.toks) hk
    refine ⟨s1.heap.objs.size+1,[s1.heap.objs.size+1,s1.heap.objs.size],_,_,H1,rfl,I2,turn_enum a (s1.heap.objs.size+1) s1.heap.objs.size,⟨⟨.none,he⟩,hit,Nat.succ_ne_self _⟩,fun b hb=>?_,q⟩
    have e':b=s1.heap.objs.size+1\/b=s1.heap.objs.size:=by simpa using hb
    have hle:s1.heap.objs.size<=b:=by
      rcases e' with z | z
      · rw [z];exact Nat.le_add_right _ _
      · rw [z];exact Nat.le_refl _
    exact I1.fpOk hle (I1.hok.fresh hle)
theorem boot_zip5:bootBuiltins "zip"=some (.type "zip"):=by decide +kernel
end L2
section
namespace Bits
open PySem PyProof.Rows
end Bits
end
section
namespace TL
open PySem PySem.Builtin PySem.Builtin.Str PySem.StrLaws
end TL
end
namespace L2
open PySem PySem.Spec PyProof.Rows
section
variable {X:Cx} {pins:List (Addr × Obj)} {σ:St} {H:Hp} {s:Shared} {Q:VK}
end
section
variable {X:Cx}
end
section
variable {X:Cx} {o e:Expr} {to te:TE}
end
end L2
namespace L2
open PySem PySem.Spec PyProof.Rows
section
variable {X:Cx}
end
end L2
namespace Att
open PySem PySem.W PySem.Calls PyProof.Rows
section
variable {prog:Program} {w:World} {A:Around} {E:Value->Shared->Prop} {s:Shared} {K:Frag}
end
end Att
namespace L2
open PySem PySem.Spec PyProof.Rows
end L2
namespace L2
open PySem PySem.Spec PyProof.Rows
end L2
namespace L2
open PySem PySem.Spec PyProof.Rows
def inClass (s:Stmt) (j:Nat):Stmt:=match s with
  | .ClassDef _ _ _ body _ _ _ _ _ _ _=>body.getD j (.Pass ⟨0,0,0,0⟩)
  | _=>.Pass ⟨0,0,0,0⟩
def defArgs (s:Stmt):Arguments:=match s with
  | .FunctionDef _ a _ _ _ _ _ _ _ _=>a
  | _=>{ posonlyargs:=[],args:=[],vararg:=none,kwonlyargs:=[],kw_defaults:=[],kwarg:=none,defaults:=[] }
def defBody (s:Stmt):List Stmt:=match s with
  | .FunctionDef _ _ b _ _ _ _ _ _ _=>b
  | _=>[]
def defScope (s:Stmt):Scope:=match s with
  | .FunctionDef _ _ _ _ _ _ sc _ _ _=>sc
  | _=>{ kind:=.function,names:=[],isGenerator:=false,isCoroutine:=false }
abbrev CX0:CXT:=fun _ _ _ _ _ _=>False
abbrev E0:XK:=fun _ _ _=>False
theorem pass0 {X:Cx}:Passes CX0 X E0:=fun _ _ _ _ _ _ _ h=>h.elim
structure Fun (K:PySem.W.Frag) (x qual:Str) (st:Stmt) (f:Addr) (fd:FuncData):Prop where
  ex:∃ (oc:Value) (od:Option Addr) (kV doc pm:Value) (an:Option Addr) (cdv ct:Value) (osl:Array (Option Value)),
    fd=PySem.W.fnOf x qual (defArgs st) (defBody st) (defScope st) .none kV doc pm an cdv ct/\K.lookup f=some ⟨oc,od,.func fd,osl⟩/\PySem.W.codeIn K cdv qual=true
  kp:PySem.W.keepIn K (.ref f)=true
section
variable {P:Program} {w:World} {K:PySem.W.Frag} {mg:Str->Option Value} {base:Heap}
theorem Fun.ok {x qual:Str} {st:Stmt} {f:Addr} {fd:FuncData} {N ps:List Str} {k:Nat} {sp:Sp} (F:Fun K x qual st f fd) (S:FnScope N ps (defScope st)) (len:∀ vs H Q E,sp vs H Q E->vs.length=ps.length)
    (hbody:∀ (cdv:Value) (A:Around) (outer:List Env) (s:Shared) (H:Hp) (vs:List V) (Q:VK) (E:XK),Room k (A.deeper (envOfC qual (defScope st) s.heap.objs.size f cdv))->sp vs H Q E->
      ∃ t,PSs (cxOf CX0 P w K mg base N qual (defScope st) f cdv A outer s H E).nox (defBody st) t/\t { nx:=fun _ H'=>Q .non H',rt:=Q } (start N vs) H):FnOk P w K mg base CX0 (k+1) f fd ps sp:=by
  obtain ⟨oc,od,kV,doc,pm,an,cdv,ct,osl,rfl,lk,hcd⟩:=F.ex
  refine fn_of lk hcd S len fun A outer s H vs Q E hr hsp=>?_
  obtain ⟨t,h,q⟩:=hbody cdv A outer s H vs Q E hr hsp
  exact ⟨t,h.nox,q⟩
theorem Fun.binds {x qual:Str} {st:Stmt} {f:Addr} {fd:FuncData} {ps:List Str} (F:Fun K x qual st f fd)
    (h:∀ (kV doc pm:Value) (an:Option Addr) (cdv ct:Value) (us:List Value),us.length=ps.length->bindArgs (PySem.W.fnOf x qual (defArgs st) (defBody st) (defScope st) .none kV doc pm an cdv ct) ⟨us,[]⟩=pure (ps.zip us)):Binds K fd ps []:=by
  obtain ⟨oc,od,kV,doc,pm,an,cdv,ct,osl,rfl,lk,hcd⟩:=F.ex
  exact .all (h kV doc pm an cdv ct)
theorem fun_mk {x qual:Str} {st:Stmt} {f:Addr} {oc:Value} {od an:Option Addr} {osl:Array (Option Value)} {kV doc pm cdv ct:Value} (l:K.lookup f=some ⟨oc,od,.func (PySem.W.fnOf x qual (defArgs st) (defBody st) (defScope st) .none kV doc pm an cdv ct),osl⟩)
    (c:PySem.W.codeIn K cdv qual=true) (k:PySem.W.keepIn K (.ref f)=true):Fun K x qual st f (PySem.W.fnOf x qual (defArgs st) (defBody st) (defScope st) .none kV doc pm an cdv ct):=⟨⟨oc,od,kV,doc,pm,an,cdv,ct,osl,rfl,l,c⟩,k⟩
end
theorem hu_of {A:Around} {k:Nat} (hr:Room k A):A.units+1 < cLine:=Nat.lt_of_le_of_lt (Nat.add_le_add_left (by decide:1<=64) _) hr.units
theorem small1000 {n:Nat} (h:n<=1000):n < sizeLine:=Nat.lt_of_le_of_lt h (by decide)
section
variable {X:Cx}
theorem pv (i:Nat) {x:Str} {pos:Pos} (hN:X.N[i]?=some x:=by rfl) (hv:Vis X.env.scope x:=by first | exact Or.inl rfl | exact Or.inr (Or.inl rfl) | exact Or.inr (Or.inr rfl)) (hd:(x == ("__debug__":Str))=false:=by decide)
    (hcd:(x == ("__classdict__":Str))=false:=by decide):PE X (.Name x pos) (tVar i):=pe_var hN hv hd hcd
end
theorem iteF {A B:Prop} (h:B):if false=true then A else B:=by
  rw [if_neg Bool.false_ne_true]
  exact h
theorem iteT {A B:Prop} (h:A):if true=true then A else B:=by
  rw [if_pos rfl]
  exact h
theorem ite2 {c A B:Prop} [Decidable c] (h1:c->A) (h2:¬ c->B):if c then A else B:=by
  by_cases h:c
  · rw [if_pos h]
    exact h1 h
  · rw [if_neg h]
    exact h2 h
def Same (H H':Hp):Prop:=∀ b o,H b=some o->H' b=some o
theorem Same.trans {H H1 H2:Hp} (a:Same H H1) (b:Same H1 H2):Same H H2:=fun c o h=>b c o (a c o h)
theorem Same.free {H H':Hp} (e:Same H H') {l:Addr} (h:H' l=Option.none):H l=Option.none:=by
  cases q:H l with
  | none=>rfl
  | some o=>
    rw [e l o q] at h
    cases h
theorem Same.seq {K:PySem.W.Frag} {H H':Hp} {a:Addr} {xs:List V} (e:Same H H') (h:SqL K H a xs):SqL K H' a xs:=by
  rcases h with (h | ⟨o,h⟩) | h
  · exact .inl (.inl (e _ _ h))
  · exact .inl (.inr ⟨o,e _ _ h⟩)
  · exact .inr h
section
variable {κ:Type} [DecidableEq κ]
end
theorem at_of {xs:List V} {z:Int} {j:Nat} {v:V} (e:z=(j:Int)) (h:xs[j]?=some v):atI xs z=some v:=by
  rw [e]
  exact atI_nat h
theorem Same.made {H H1:Hp} {x dx C:Addr} (nx:H x=Option.none) (nd:H dx=Option.none) (k:∀ b o,(upd (upd H dx (.own x)) x (.ins C dx [])) b=some o->b ≠ x->H1 b=some o):Same H H1:=fun b o e=>
  k b o (by rw [upd_ne (ne_of_none e nx),upd_ne (ne_of_none e nd)];exact e) (ne_of_none e nx)
end L2
namespace LuW
theorem absmul {k x K B:Int} (hk:-K<=k/\k<=K) (hx:-B<=x/\x<=B):-(K * B)<=k * x/\k * x<=K * B:=by
  have e:(k * x).natAbs<=(K * B).natAbs:=by
    rw [Int.natAbs_mul,Int.natAbs_mul]
    exact Nat.mul_le_mul (by omega) (by omega)
  have hK:0<=K:=by omega
  have hB:0<=B:=by omega
  have hKB:0<=K * B:=Int.mul_nonneg hK hB
  omega
theorem tz {D al y0 y1 y2 y3 b0 b1 b2 b3 l0 l1 l2 l3 a b c e A B0 B1 B2 B3 s1:Int}
    (ha:-4752<=a/\a<=4752) (hb:-4752<=b/\b<=4752) (hc:-4752<=c/\c<=4752) (he:-4752<=e/\e<=4752)
    (hs:-s1<=a * l0+b * l1+c * l2+e * l3/\a * l0+b * l1+c * l2+e * l3<=s1)
    (h0:D * y0=al * l0+b0) (h1:D * y1=al * l1+b1) (h2:D * y2=al * l2+b2) (h3:D * y3=al * l3+b3)
    (k:-A<=al/\al<=A) (k0:-B0<=b0/\b0<=B0) (k1:-B1<=b1/\b1<=B1) (k2:-B2<=b2/\b2<=B2) (k3:-B3<=b3/\b3<=B3)
    (hD:A * s1+B0 * 4752+B1 * 4752+B2 * 4752+B3 * 4752 < D):y0 * a+y1 * b+y2 * c+y3 * e=0:=by
  have p:=absmul k hs
  have p0:=absmul k0 ha
  have p1:=absmul k1 hb
  have p2:=absmul k2 hc
  have p3:=absmul k3 he
  have id:D * (y0 * a+y1 * b+y2 * c+y3 * e)=al * (a * l0+b * l1+c * l2+e * l3)+b0 * a+b1 * b+b2 * c+b3 * e:=by
    have e0:D * y0 * a=(al * l0+b0) * a:=by rw [h0]
    have e1:D * y1 * b=(al * l1+b1) * b:=by rw [h1]
    have e2:D * y2 * c=(al * l2+b2) * c:=by rw [h2]
    have e3:D * y3 * e=(al * l3+b3) * e:=by rw [h3]
    clear p p0 p1 p2 p3 ha hb hc he hs h0 h1 h2 h3 k k0 k1 k2 k3 hD
    grind
  generalize y0 * a+y1 * b+y2 * c+y3 * e=t at *
  have lo:-D < D * t:=by rw [id];omega
  have hi:D * t < D:=by rw [id];omega
  have hD0:0 < D:=by omega
  have u:t < 1:=by
    have:D * t < D * 1:=by rw [Int.mul_one];exact hi
    exact Int.lt_of_mul_lt_mul_left this (Int.le_of_lt hD0)
  have v:-1 < t:=by
    have:D * (-1) < D * t:=by rw [Int.mul_neg,Int.mul_one];exact lo
    exact Int.lt_of_mul_lt_mul_left this (Int.le_of_lt hD0)
  omega
theorem comb {x0 x1 x2 x3 p0 p1 p2 p3 q0 q1 q2 q3 r0 r1 r2 r3 w0 w1 w2 w3 a b c e dd:Int}
    (hp:p0 * a+p1 * b+p2 * c+p3 * e=0) (hq:q0 * a+q1 * b+q2 * c+q3 * e=0) (hr:r0 * a+r1 * b+r2 * c+r3 * e=0) (hw:w0 * a+w1 * b+w2 * c+w3 * e=0)
    (h0:x0 * p0+x1 * q0+x2 * r0+x3 * w0=dd) (h1:x0 * p1+x1 * q1+x2 * r1+x3 * w1=0) (h2:x0 * p2+x1 * q2+x2 * r2+x3 * w2=0) (h3:x0 * p3+x1 * q3+x2 * r3+x3 * w3=0)
    (hd:dd ≠ 0):a=0:=by
  have e:dd * a=x0 * (p0 * a+p1 * b+p2 * c+p3 * e)+x1 * (q0 * a+q1 * b+q2 * c+q3 * e)+x2 * (r0 * a+r1 * b+r2 * c+r3 * e)+x3 * (w0 * a+w1 * b+w2 * c+w3 * e)
      - (x0 * p1+x1 * q1+x2 * r1+x3 * w1) * b - (x0 * p2+x1 * q2+x2 * r2+x3 * w2) * c - (x0 * p3+x1 * q3+x2 * r3+x3 * w3) * e:=by
    rw [<- h0]
    clear hp hq hr hw h0 h1 h2 h3 hd
    grind
  rw [hp,hq,hr,hw,h1,h2,h3] at e
  have e':dd * a=0:=by rw [e];simp
  exact (Int.mul_eq_zero.mp e').resolve_left hd
theorem lat {a b c e:Int} (ha:-4752<=a/\a<=4752) (hb:-4752<=b/\b<=4752) (hc:-4752<=c/\c<=4752) (he:-4752<=e/\e<=4752) (hs:-38020<=a * 6931471805599453094172321214581765680755+b * 10986122886681096913952452369225257046474+c * 16094379124341003746007593332261876395256+e * 19459101490553133051053527434431797296370/\a * 6931471805599453094172321214581765680755+b * 10986122886681096913952452369225257046474+c * 16094379124341003746007593332261876395256+e * 19459101490553133051053527434431797296370<=38020):a=0/\b=0/\c=0/\e=0:=by
  have t0:=tz (D:=10000000000000000000000000000000000000000) (al:=(-63720680927057970)) (y0:=(-44167810327950114)) (y1:=(-70004323108765522)) (y2:=(-102554479690123575)) (y3:=(-123994719720677434)) (b0:=27963565186960156477604416398367350) (b1:=69495056669622111772152552382097780) (b2:=99652831387781173891733456944990320) (b3:=(-232812029760957949491963375739431100)) (A:=63720680927057970) (B0:=27963565186960156477604416398367350) (B1:=69495056669622111772152552382097780) (B2:=99652831387781173891733456944990320) (B3:=232812029760957949491963375739431100) ha hb hc he hs (by decide) (by decide) (by decide) (by decide) (by decide) (by decide) (by decide) (by decide) (by decide) (by decide)
  have t1:=tz (D:=10000000000000000000000000000000000000000) (al:=112691812246240216) (y0:=78112011930672123) (y1:=123804609765998875) (y2:=181370475050004441) (y3:=219288141165394680) (b0:=(-4857308120713823690808950498243080)) (b1:=193233459727462139337681332720201616) (b2:=(-3078445427829277751056005138815296)) (b3:=(-35957545990050761047925966364815920)) (A:=112691812246240216) (B0:=4857308120713823690808950498243080) (B1:=193233459727462139337681332720201616) (B2:=3078445427829277751056005138815296) (B3:=35957545990050761047925966364815920) ha hb hc he hs (by decide) (by decide) (by decide) (by decide) (by decide) (by decide) (by decide) (by decide) (by decide) (by decide)
  have t2:=tz (D:=10000000000000000000000000000000000000000) (al:=(-27754744355070134)) (y0:=(-19238122796878921)) (y1:=(-30491703217321898)) (y2:=(-44669537814966208)) (y3:=(-54008238724966640)) (b0:=180427670966686289931045942279071170) (b1:=264240184124220028511468331967407516) (b2:=44636782453449813704069218984884304) (b3:=230270797036146737015959162933613580) (A:=27754744355070134) (B0:=180427670966686289931045942279071170) (B1:=264240184124220028511468331967407516) (B2:=44636782453449813704069218984884304) (B3:=230270797036146737015959162933613580) ha hb hc he hs (by decide) (by decide) (by decide) (by decide) (by decide) (by decide) (by decide) (by decide) (by decide) (by decide)
  have t3:=tz (D:=10000000000000000000000000000000000000000) (al:=(-121789898821833505)) (y0:=(-84418324989034899)) (y1:=(-133799879481312023)) (y2:=(-196013280515372017)) (y3:=(-236992200169825562)) (b0:=(-491442386116827315358388506407303725)) (b1:=227644936029728659796852681675311370) (b2:=(-119377038795779665756620321996147720)) (b3:=243622858314674734319725785280876850) (A:=121789898821833505) (B0:=491442386116827315358388506407303725) (B1:=227644936029728659796852681675311370) (B2:=119377038795779665756620321996147720) (B3:=243622858314674734319725785280876850) ha hb hc he hs (by decide) (by decide) (by decide) (by decide) (by decide) (by decide) (by decide) (by decide) (by decide) (by decide)
  clear ha hb hc he hs
  have u00:(-44167810327950114) * a+(-70004323108765522) * b+(-102554479690123575) * c+(-123994719720677434) * e=0:=Eq.trans (by ac_rfl) t0
  have u01:78112011930672123 * a+123804609765998875 * b+181370475050004441 * c+219288141165394680 * e=0:=Eq.trans (by ac_rfl) t1
  have u02:(-19238122796878921) * a+(-30491703217321898) * b+(-44669537814966208) * c+(-54008238724966640) * e=0:=Eq.trans (by ac_rfl) t2
  have u03:(-84418324989034899) * a+(-133799879481312023) * b+(-196013280515372017) * c+(-236992200169825562) * e=0:=Eq.trans (by ac_rfl) t3
  have r0:=comb (dd:=16754) (x0:=(-21670836)) (x1:=(-150473160)) (x2:=422236642) (x3:=(-224117788)) u00 u01 u02 u03 (by decide) (by decide) (by decide) (by decide) (by decide)
  have u10:(-70004323108765522) * b+(-44167810327950114) * a+(-102554479690123575) * c+(-123994719720677434) * e=0:=Eq.trans (by ac_rfl) t0
  have u11:123804609765998875 * b+78112011930672123 * a+181370475050004441 * c+219288141165394680 * e=0:=Eq.trans (by ac_rfl) t1
  have u12:(-30491703217321898) * b+(-19238122796878921) * a+(-44669537814966208) * c+(-54008238724966640) * e=0:=Eq.trans (by ac_rfl) t2
  have u13:(-133799879481312023) * b+(-84418324989034899) * a+(-196013280515372017) * c+(-236992200169825562) * e=0:=Eq.trans (by ac_rfl) t3
  have r1:=comb (dd:=16754) (x0:=238219554) (x1:=322200716) (x2:=309937014) (x3:=102862782) u10 u11 u12 u13 (by decide) (by decide) (by decide) (by decide) (by decide)
  have u20:(-102554479690123575) * c+(-44167810327950114) * a+(-70004323108765522) * b+(-123994719720677434) * e=0:=Eq.trans (by ac_rfl) t0
  have u21:181370475050004441 * c+78112011930672123 * a+123804609765998875 * b+219288141165394680 * e=0:=Eq.trans (by ac_rfl) t1
  have u22:(-44669537814966208) * c+(-19238122796878921) * a+(-30491703217321898) * b+(-54008238724966640) * e=0:=Eq.trans (by ac_rfl) t2
  have u23:(-196013280515372017) * c+(-84418324989034899) * a+(-133799879481312023) * b+(-236992200169825562) * e=0:=Eq.trans (by ac_rfl) t3
  have r2:=comb (dd:=16754) (x0:=303988918) (x1:=27508014) (x2:=(-483007656)) (x3:=(-23521646)) u20 u21 u22 u23 (by decide) (by decide) (by decide) (by decide) (by decide)
  have u30:(-123994719720677434) * e+(-44167810327950114) * a+(-70004323108765522) * b+(-102554479690123575) * c=0:=Eq.trans (by ac_rfl) t0
  have u31:219288141165394680 * e+78112011930672123 * a+123804609765998875 * b+181370475050004441 * c=0:=Eq.trans (by ac_rfl) t1
  have u32:(-54008238724966640) * e+(-19238122796878921) * a+(-30491703217321898) * b+(-44669537814966208) * c=0:=Eq.trans (by ac_rfl) t2
  have u33:(-236992200169825562) * e+(-84418324989034899) * a+(-133799879481312023) * b+(-196013280515372017) * c=0:=Eq.trans (by ac_rfl) t3
  have r3:=comb (dd:=16754) (x0:=(-378198932)) (x1:=(-151058393)) (x2:=74103156) (x3:=41213067) u30 u31 u32 u33 (by decide) (by decide) (by decide) (by decide) (by decide)
  exact ⟨r0,r1,r2,r3⟩
end LuW
namespace LuW
def upS (R M B:Nat) (b:Bool):Nat:=if b then (B * B / R+1) * (M+1) / M+1 else B * B / R+1
def dnS (R M B:Nat) (b:Bool):Nat:=if b then (B * B / R) * (M+1) / M else B * B / R
def nS (n:Nat) (b:Bool):Nat:=if b then 2 * n+1 else 2 * n
theorem pow_dbl (x n:Nat):x ^ (2 * n)=x ^ n * x ^ n:=by rw [Nat.two_mul,Nat.pow_add]
theorem up_step {R M B n:Nat} (hR:0 < R) (hM:0 < M) (b:Bool) (h:R * (M+1) ^ n<=B * M ^ n):R * (M+1) ^ (nS n b)<=upS R M B b * M ^ (nS n b):=by
  have sq:R * (M+1) ^ (2 * n)<=(B * B / R+1) * M ^ (2 * n):=by
    rw [pow_dbl,pow_dbl]
    have h2:=Nat.mul_le_mul h h
    have h3:B * B<=R * (B * B / R+1):=by
      have:=Nat.lt_mul_div_succ (B * B) hR
      omega
    refine Nat.le_of_mul_le_mul_left ?_ hR
    generalize (M+1) ^ n=x at *
    generalize M ^ n=y at *
    calc R * (R * (x * x))=R * x * (R * x):=by ac_rfl
      _<=B * y * (B * y):=h2
      _=B * B * (y * y):=by ac_rfl
      _<=R * (B * B / R+1) * (y * y):=Nat.mul_le_mul_right _ h3
      _=R * ((B * B / R+1) * (y * y)):=by ac_rfl
  cases b with
  | false=>exact sq
  | true=>
    show R * (M+1) ^ (2 * n+1)<=((B * B / R+1) * (M+1) / M+1) * M ^ (2 * n+1)
    generalize B * B / R+1=q at *
    have h3:q * (M+1)<=M * (q * (M+1) / M+1):=by
      have:=Nat.lt_mul_div_succ (q * (M+1)) hM
      omega
    rw [Nat.pow_succ,Nat.pow_succ]
    generalize (M+1) ^ (2 * n)=x at *
    generalize M ^ (2 * n)=y at *
    calc R * (x * (M+1))=R * x * (M+1):=by ac_rfl
      _<=q * y * (M+1):=Nat.mul_le_mul_right _ sq
      _=q * (M+1) * y:=by ac_rfl
      _<=M * (q * (M+1) / M+1) * y:=Nat.mul_le_mul_right _ h3
      _=(q * (M+1) / M+1) * (y * M):=by ac_rfl
theorem dn_step {R M B n:Nat} (hR:0 < R) (b:Bool) (h:B * M ^ n<=R * (M+1) ^ n):dnS R M B b * M ^ (nS n b)<=R * (M+1) ^ (nS n b):=by
  have sq:B * B / R * M ^ (2 * n)<=R * (M+1) ^ (2 * n):=by
    rw [pow_dbl,pow_dbl]
    have h2:=Nat.mul_le_mul h h
    have h3:R * (B * B / R)<=B * B:=Nat.mul_div_le _ _
    refine Nat.le_of_mul_le_mul_left ?_ hR
    generalize (M+1) ^ n=x at *
    generalize M ^ n=y at *
    calc R * (B * B / R * (y * y))=R * (B * B / R) * (y * y):=by ac_rfl
      _<=B * B * (y * y):=Nat.mul_le_mul_right _ h3
      _=B * y * (B * y):=by ac_rfl
      _<=R * x * (R * x):=h2
      _=R * (R * (x * x)):=by ac_rfl
  cases b with
  | false=>exact sq
  | true=>
    show B * B / R * (M+1) / M * M ^ (2 * n+1)<=R * (M+1) ^ (2 * n+1)
    generalize B * B / R=q at *
    have h3:M * (q * (M+1) / M)<=q * (M+1):=Nat.mul_div_le _ _
    rw [Nat.pow_succ,Nat.pow_succ]
    generalize (M+1) ^ (2 * n)=x at *
    generalize M ^ (2 * n)=y at *
    calc q * (M+1) / M * (y * M)=M * (q * (M+1) / M) * y:=by ac_rfl
      _<=q * (M+1) * y:=Nat.mul_le_mul_right _ h3
      _=q * y * (M+1):=by ac_rfl
      _<=R * x * (M+1):=Nat.mul_le_mul_right _ sq
      _=R * (x * (M+1)):=by ac_rfl
theorem up_all {R M:Nat} (hR:0 < R) (hM:0 < M):∀ (bs:List Bool) {B n:Nat},R * (M+1) ^ n<=B * M ^ n->R * (M+1) ^ (bs.foldl nS n)<=bs.foldl (upS R M) B * M ^ (bs.foldl nS n)
  | [],_,_,h=>h
  | b::r,_,_,h=>up_all hR hM r (up_step hR hM b h)
theorem dn_all {R M:Nat} (hR:0 < R):∀ (bs:List Bool) {B n:Nat},B * M ^ n<=R * (M+1) ^ n->bs.foldl (dnS R M) B * M ^ (bs.foldl nS n)<=R * (M+1) ^ (bs.foldl nS n)
  | [],_,_,h=>h
  | b::r,_,_,h=>dn_all hR r (dn_step hR b h)
theorem up_cert {R M p n:Nat} (hR:0 < R) (hM:0 < M) (bs:List Bool) (hn:bs.foldl nS 0=n) (h:bs.foldl (upS R M) R<=p * R):(M+1) ^ n<=p * M ^ n:=by
  have q:=up_all hR hM bs (B:=R) (n:=0) (by simp)
  rw [hn] at q
  refine Nat.le_of_mul_le_mul_left ?_ hR
  calc R * (M+1) ^ n<=bs.foldl (upS R M) R * M ^ n:=q
    _<=p * R * M ^ n:=Nat.mul_le_mul_right _ h
    _=R * (p * M ^ n):=by ac_rfl
theorem dn_cert {R M p n:Nat} (hR:0 < R) (bs:List Bool) (hn:bs.foldl nS 0=n) (h:p * R<=bs.foldl (dnS R M) R):p * M ^ n<=(M+1) ^ n:=by
  have q:=dn_all (M:=M) hR bs (B:=R) (n:=0) (by simp)
  rw [hn] at q
  refine Nat.le_of_mul_le_mul_left ?_ hR
  calc R * (p * M ^ n)=p * R * M ^ n:=by ac_rfl
    _<=bs.foldl (dnS R M) R * M ^ n:=Nat.mul_le_mul_right _ h
    _<=R * (M+1) ^ n:=q
def MM:Nat:=10 ^ 40
def RR:Nat:=10 ^ 100
theorem MM_pos:0 < MM:=by decide +kernel
theorem RR_pos:0 < RR:=by decide +kernel
def bits:Nat->Nat->List Bool->List Bool
  | 0,_,acc=>acc
  | f+1,n,acc=>if n=0 then acc else bits f (n / 2) ((n % 2 == 1)::acc)
def n2:Nat:=6931471805599453094172321214581765680755
theorem lo2:(MM+1) ^ n2<=2 * MM ^ n2:=up_cert RR_pos MM_pos (bits 200 n2 []) (by decide +kernel) (by decide +kernel)
theorem hi2:2 * MM ^ (n2+2)<=(MM+1) ^ (n2+2):=dn_cert RR_pos (bits 200 (n2+2) []) (by decide +kernel) (by decide +kernel)
def n3:Nat:=10986122886681096913952452369225257046474
theorem lo3:(MM+1) ^ n3<=3 * MM ^ n3:=up_cert RR_pos MM_pos (bits 200 n3 []) (by decide +kernel) (by decide +kernel)
theorem hi3:3 * MM ^ (n3+2)<=(MM+1) ^ (n3+2):=dn_cert RR_pos (bits 200 (n3+2) []) (by decide +kernel) (by decide +kernel)
def n5:Nat:=16094379124341003746007593332261876395256
theorem lo5:(MM+1) ^ n5<=5 * MM ^ n5:=up_cert RR_pos MM_pos (bits 200 n5 []) (by decide +kernel) (by decide +kernel)
theorem hi5:5 * MM ^ (n5+2)<=(MM+1) ^ (n5+2):=dn_cert RR_pos (bits 200 (n5+2) []) (by decide +kernel) (by decide +kernel)
def n7:Nat:=19459101490553133051053527434431797296370
theorem lo7:(MM+1) ^ n7<=7 * MM ^ n7:=up_cert RR_pos MM_pos (bits 200 n7 []) (by decide +kernel) (by decide +kernel)
theorem hi7:7 * MM ^ (n7+2)<=(MM+1) ^ (n7+2):=dn_cert RR_pos (bits 200 (n7+2) []) (by decide +kernel) (by decide +kernel)
def lin (x y z t:Nat):Nat:=n2 * x+n3 * y+n5 * z+n7 * t
def prd (x y z t:Nat):Nat:=2 ^ x * 3 ^ y * 5 ^ z * 7 ^ t
theorem lo_pow {M p n:Nat} (h:(M+1) ^ n<=p * M ^ n) (x:Nat):(M+1) ^ (n * x)<=p ^ x * M ^ (n * x):=by
  rw [Nat.pow_mul,Nat.pow_mul,<- Nat.mul_pow]
  exact Nat.pow_le_pow_left h x
theorem hi_pow {M p n:Nat} (h:p * M ^ n<=(M+1) ^ n) (x:Nat):p ^ x * M ^ (n * x)<=(M+1) ^ (n * x):=by
  rw [Nat.pow_mul,Nat.pow_mul,<- Nat.mul_pow]
  exact Nat.pow_le_pow_left h x
theorem lo_mul {a b u v w z:Nat} (h:a<=u * w) (k:b<=v * z):a * b<=(u * v) * (w * z):=by
  refine Nat.le_trans (Nat.mul_le_mul h k) (Nat.le_of_eq ?_)
  ac_rfl
theorem hi_mul {a b u v w z:Nat} (h:u * w<=a) (k:v * z<=b):(u * v) * (w * z)<=a * b:=by
  refine Nat.le_trans (Nat.le_of_eq ?_) (Nat.mul_le_mul h k)
  ac_rfl
theorem prd_lo (x y z t:Nat):(MM+1) ^ lin x y z t<=prd x y z t * MM ^ lin x y z t:=by
  unfold lin prd
  rw [Nat.pow_add,Nat.pow_add,Nat.pow_add,Nat.pow_add,Nat.pow_add,Nat.pow_add]
  exact lo_mul (lo_mul (lo_mul (lo_pow lo2 x) (lo_pow lo3 y)) (lo_pow lo5 z)) (lo_pow lo7 t)
theorem prd_hi (x y z t:Nat):prd x y z t * MM ^ (lin x y z t+2 * (x+y+z+t))<=(MM+1) ^ (lin x y z t+2 * (x+y+z+t)):=by
  have e:lin x y z t+2 * (x+y+z+t)=(n2+2) * x+(n3+2) * y+(n5+2) * z+(n7+2) * t:=by
    unfold lin
    simp only [Nat.add_mul,Nat.mul_add]
    omega
  rw [e]
  unfold prd
  rw [Nat.pow_add,Nat.pow_add,Nat.pow_add,Nat.pow_add,Nat.pow_add,Nat.pow_add]
  exact hi_mul (hi_mul (hi_mul (hi_pow hi2 x) (hi_pow hi3 y)) (hi_pow hi5 z)) (hi_pow hi7 t)
theorem beat {M A B U V:Nat} (hM:0 < M) (hA:(M+1) ^ U<=A * M ^ U) (hB:B * M ^ V<=(M+1) ^ V) (h:V < U):B < A:=by
  obtain ⟨k,rfl⟩:∃ k,U=V+(k+1):=⟨U - V - 1,by omega⟩
  have p1:M ^ (k+1) < (M+1) ^ (k+1):=Nat.pow_lt_pow_left (by omega) (by omega)
  have p2:0 < (M+1) ^ V:=Nat.pow_pos (by omega)
  have p3:B * M ^ V * M ^ (k+1)<=(M+1) ^ V * M ^ (k+1):=Nat.mul_le_mul_right _ hB
  have p4:(M+1) ^ V * M ^ (k+1) < (M+1) ^ V * (M+1) ^ (k+1):=Nat.mul_lt_mul_of_pos_left p1 p2
  rw [<- Nat.pow_add] at p4
  have p5:=Nat.lt_of_lt_of_le (Nat.lt_of_le_of_lt p3 p4) hA
  rw [Nat.mul_assoc,<- Nat.pow_add] at p5
  exact Nat.lt_of_mul_lt_mul_right p5
theorem prd_lt {x y z t x' y' z' t':Nat} (h:lin x y z t+2 * (x+y+z+t) < lin x' y' z' t'):prd x y z t < prd x' y' z' t':=beat MM_pos (prd_lo x' y' z' t') (prd_hi x y z t) h
def dot (a b c e:Int):Int:=a * 6931471805599453094172321214581765680755+b * 10986122886681096913952452369225257046474+c * 16094379124341003746007593332261876395256+e * 19459101490553133051053527434431797296370
theorem dot_lin (a b c e:Int):dot a b c e=(lin a.toNat b.toNat c.toNat e.toNat:Int) - (lin (-a).toNat (-b).toNat (-c).toNat (-e).toNat:Int):=by
  have h:∀ (n:Nat) (z:Int),z * (n:Int)=((n * z.toNat:Nat):Int) - ((n * (-z).toNat:Nat):Int):=by
    intro n z
    rw [Int.natCast_mul,Int.natCast_mul,<- Int.mul_sub,Int.mul_comm]
    congr 1
    omega
  have h2:=h n2 a
  have h3:=h n3 b
  have h5:=h n5 c
  have h7:=h n7 e
  unfold dot lin
  have e2:(6931471805599453094172321214581765680755:Int)=(n2:Int):=by decide +kernel
  have e3:(10986122886681096913952452369225257046474:Int)=(n3:Int):=by decide +kernel
  have e5:(16094379124341003746007593332261876395256:Int)=(n5:Int):=by decide +kernel
  have e7:(19459101490553133051053527434431797296370:Int)=(n7:Int):=by decide +kernel
  rw [e2,e3,e5,e7,h2,h3,h5,h7]
  simp only [Int.natCast_add]
  omega
theorem sign_core {a b c e:Int} (ha:-4752<=a/\a<=4752) (hb:-4752<=b/\b<=4752) (hc:-4752<=c/\c<=4752) (he:-4752<=e/\e<=4752):
    prd a.toNat b.toNat c.toNat e.toNat < prd (-a).toNat (-b).toNat (-c).toNat (-e).toNat ↔ dot a b c e < 0:=by
  have hd:=dot_lin a b c e
  by_cases hs:-38020<=dot a b c e/\dot a b c e<=38020
  · obtain ⟨r1,r2,r3,r4⟩:=lat ha hb hc he hs
    subst r1 r2 r3 r4
    constructor
    · intro h
      exact absurd h (Nat.lt_irrefl _)
    · intro h
      exact absurd h (by decide +kernel)
  · constructor
    · intro h
      by_cases hn:dot a b c e < 0
      · exact hn
      · have:=prd_lt (x:=(-a).toNat) (y:=(-b).toNat) (z:=(-c).toNat) (t:=(-e).toNat) (x':=a.toNat) (y':=b.toNat) (z':=c.toNat) (t':=e.toNat) (by omega)
        omega
    · intro h
      exact prd_lt (by omega)
end LuW
namespace LuW
open Lute
theorem ok_parts {x:Iv} (h:x.ok=true):(-99<=x.a/\x.a<=99)/\(-99<=x.b/\x.b<=99)/\(-99<=x.c/\x.c<=99)/\(-99<=x.e/\x.e<=99)/\1<=x.d/\x.d<=24/\x.common=1:=by
  unfold Iv.ok within MOST PARTS at h
  simp only [Bool.and_eq_true,decide_eq_true_eq,beq_iff_eq] at h
  omega
def width (x:Iv):Int:=dot x.a x.b x.c x.e * (5354228880 / (x.d:Int))
theorem dot_scale (g a b c e:Int):dot (g * a) (g * b) (g * c) (g * e)=g * dot a b c e:=by
  unfold dot
  simp only [Int.mul_add,Int.mul_assoc]
theorem dot_sub (q p a b c e a' b' c' e':Int):dot (a * q+-a' * p) (b * q+-b' * p) (c * q+-c' * p) (e * q+-e' * p)=q * dot a b c e - p * dot a' b' c' e':=by
  unfold dot
  grind
theorem div_bd {z g B:Int} (hg:0 < g) (hz:-B<=z/\z<=B) (hd:g ∣ z):-B<=z / g/\z / g<=B:=by
  obtain ⟨k,rfl⟩:=hd
  rw [Int.mul_ediv_cancel_left _ (Int.ne_of_gt hg)]
  have e:(g * k).natAbs=g.natAbs * k.natAbs:=Int.natAbs_mul g k
  have:k.natAbs<=g.natAbs * k.natAbs:=Nat.le_mul_of_pos_left _ (by omega)
  omega
theorem lt_iff_dot {x y:Iv} (hx:x.ok=true) (hy:y.ok=true):x.lt y=true ↔ (y.d:Int) * dot x.a x.b x.c x.e - (x.d:Int) * dot y.a y.b y.c y.e < 0:=by
  obtain ⟨xa,xb,xc,xe,x1,x2,_⟩:=ok_parts hx
  obtain ⟨ya,yb,yc,ye,y1,y2,_⟩:=ok_parts hy
  have bd:∀ {u v:Int},(-99<=u/\u<=99)->(-99<=v/\v<=99)->-4752<=u * (y.d:Int)+-v * (x.d:Int)/\u * (y.d:Int)+-v * (x.d:Int)<=4752:=by
    intro u v hu hv
    have p:=absmul (k:=u) (x:=(y.d:Int)) (K:=99) (B:=24) hu (by omega)
    have q:=absmul (k:=-v) (x:=(x.d:Int)) (K:=99) (B:=24) (by omega) (by omega)
    omega
  have ba:=bd xa ya
  have bb:=bd xb yb
  have bc:=bd xc yc
  have be:=bd xe ye
  rw [<- dot_sub]
  unfold Iv.lt Iv.less Iv.plus Iv.back Iv.low Iv.down Iv.above Iv.below Iv.back Iv.common
  rw [decide_eq_true_iff]
  dsimp only
  generalize x.a * (y.d:Int)+-y.a * (x.d:Int)=a at *
  generalize x.b * (y.d:Int)+-y.b * (x.d:Int)=b at *
  generalize x.c * (y.d:Int)+-y.c * (x.d:Int)=c at *
  generalize x.e * (y.d:Int)+-y.e * (x.d:Int)=e at *
  have hg0:0 < Nat.gcd (x.d * y.d) (Nat.gcd a.natAbs (Nat.gcd b.natAbs (Nat.gcd c.natAbs e.natAbs))):=Nat.gcd_pos_of_pos_left _ (Nat.mul_pos x1 y1)
  generalize hg:Nat.gcd (x.d * y.d) (Nat.gcd a.natAbs (Nat.gcd b.natAbs (Nat.gcd c.natAbs e.natAbs)))=g at *
  have d1:g ∣ Nat.gcd a.natAbs (Nat.gcd b.natAbs (Nat.gcd c.natAbs e.natAbs)):=hg ▸ Nat.gcd_dvd_right _ _
  have da:g ∣ a.natAbs:=Nat.dvd_trans d1 (Nat.gcd_dvd_left _ _)
  have d2:=Nat.dvd_trans d1 (Nat.gcd_dvd_right _ _)
  have db:g ∣ b.natAbs:=Nat.dvd_trans d2 (Nat.gcd_dvd_left _ _)
  have d3:=Nat.dvd_trans d2 (Nat.gcd_dvd_right _ _)
  have dc:g ∣ c.natAbs:=Nat.dvd_trans d3 (Nat.gcd_dvd_left _ _)
  have de:g ∣ e.natAbs:=Nat.dvd_trans d3 (Nat.gcd_dvd_right _ _)
  have gz:(0:Int) < (g:Int):=by omega
  have za:(g:Int) ∣ a:=Int.natAbs_dvd_natAbs.mp (by rw [Int.natAbs_natCast];exact da)
  have zb:(g:Int) ∣ b:=Int.natAbs_dvd_natAbs.mp (by rw [Int.natAbs_natCast];exact db)
  have zc:(g:Int) ∣ c:=Int.natAbs_dvd_natAbs.mp (by rw [Int.natAbs_natCast];exact dc)
  have ze:(g:Int) ∣ e:=Int.natAbs_dvd_natAbs.mp (by rw [Int.natAbs_natCast];exact de)
  have core:=sign_core (div_bd gz ba za) (div_bd gz bb zb) (div_bd gz bc zc) (div_bd gz be ze)
  refine Iff.trans core ?_
  have ea:=Int.mul_ediv_cancel' za
  have eb:=Int.mul_ediv_cancel' zb
  have ec:=Int.mul_ediv_cancel' zc
  have ee:=Int.mul_ediv_cancel' ze
  have sc:=dot_scale (g:Int) (a / g) (b / g) (c / g) (e / g)
  rw [ea,eb,ec,ee] at sc
  rw [sc]
  constructor
  · intro h
    exact Int.mul_neg_of_pos_of_neg gz h
  · intro h
    exact Int.lt_of_mul_lt_mul_left (by rw [Int.mul_zero];exact h) (Int.le_of_lt gz)
theorem parts_dvd {d:Nat} (h1:1<=d) (h2:d<=24):(d:Int) * (5354228880 / (d:Int))=5354228880:=by
  have:∀ n:Fin 25,n.val=0\/(n.val:Int) * (5354228880 / (n.val:Int))=5354228880:=by decide +kernel
  rcases this ⟨d,by omega⟩ with h | h
  · simp at h;omega
  · exact h
theorem lt_width {x y:Iv} (hx:x.ok=true) (hy:y.ok=true):x.lt y=decide (width x < width y):=by
  obtain ⟨_,_,_,_,x1,x2,_⟩:=ok_parts hx
  obtain ⟨_,_,_,_,y1,y2,_⟩:=ok_parts hy
  have key:=lt_iff_dot hx hy
  have ex:=parts_dvd x1 x2
  have ey:=parts_dvd y1 y2
  have goal:x.lt y=true ↔ width x < width y:=by
    rw [key]
    unfold width
    generalize dot x.a x.b x.c x.e=u at *
    generalize dot y.a y.b y.c y.e=v at *
    generalize 5354228880 / (x.d:Int)=cx at *
    generalize 5354228880 / (y.d:Int)=cy at *
    have px:(0:Int) < (x.d:Int):=by omega
    have py:(0:Int) < (y.d:Int):=by omega
    generalize (x.d:Int)=p at *
    generalize (y.d:Int)=q at *
    have e1:p * q * (u * cx)=5354228880 * (q * u):=by rw [<- ex];ac_rfl
    have e2:p * q * (v * cy)=5354228880 * (p * v):=by rw [<- ey];ac_rfl
    have pq:0 < p * q:=Int.mul_pos px py
    constructor
    · intro h
      have h':5354228880 * (q * u) < 5354228880 * (p * v):=by omega
      rw [<- e1,<- e2] at h'
      exact Int.lt_of_mul_lt_mul_left h' (Int.le_of_lt pq)
    · intro h
      have h':=Int.mul_lt_mul_of_pos_left h pq
      rw [e1,e2] at h'
      omega
  by_cases h:width x < width y
  · rw [decide_eq_true h]
    exact goal.mpr h
  · rw [decide_eq_false h]
    cases q:x.lt y with
    | false=>rfl
    | true=>exact absurd (goal.mp q) h
end LuW
namespace LuW
open Lute
theorem common_dvd (x:Iv):x.common ∣ x.d/\x.common ∣ x.a.natAbs/\x.common ∣ x.b.natAbs/\x.common ∣ x.c.natAbs/\x.common ∣ x.e.natAbs:=by
  unfold Iv.common
  have d1:=Nat.gcd_dvd_right x.d (Nat.gcd x.a.natAbs (Nat.gcd x.b.natAbs (Nat.gcd x.c.natAbs x.e.natAbs)))
  have d2:=Nat.dvd_trans d1 (Nat.gcd_dvd_right _ _)
  have d3:=Nat.dvd_trans d2 (Nat.gcd_dvd_right _ _)
  exact ⟨Nat.gcd_dvd_left _ _,Nat.dvd_trans d1 (Nat.gcd_dvd_left _ _),Nat.dvd_trans d2 (Nat.gcd_dvd_left _ _),Nat.dvd_trans d3 (Nat.gcd_dvd_left _ _),Nat.dvd_trans d3 (Nat.gcd_dvd_right _ _)⟩
theorem common_scale (h:Nat) (a b c e:Int) (d:Nat):(⟨h * a,h * b,h * c,h * e,h * d⟩:Iv).common=h * (⟨a,b,c,e,d⟩:Iv).common:=by
  unfold Iv.common
  simp only [Int.natAbs_mul,Int.natAbs_natCast,Nat.gcd_mul_left]
theorem low_scale {h:Nat} {a b c e:Int} {d:Nat} (hh:0 < h) (h1:(⟨a,b,c,e,d⟩:Iv).common=1):(⟨h * a,h * b,h * c,h * e,h * d⟩:Iv).low=⟨a,b,c,e,d⟩:=by
  unfold Iv.low
  rw [common_scale,h1,Nat.mul_one]
  have hz:(h:Int) ≠ 0:=by omega
  simp only [Int.mul_ediv_cancel_left _ hz,Nat.mul_div_cancel_left _ hh]
theorem common_join {h u v d:Nat} {a b c e A B C E n:Int} (hc:(⟨a,b,c,e,h * u⟩:Iv).common=1) (hd:d=h * v) (hn:Nat.gcd n.natAbs d=1) (huv:Nat.gcd u v=1)
    (hA:A=a * v\/A=n * u/\a=0) (hB:B=b * v\/B=n * u/\b=0) (hC:C=c * v\/C=n * u/\c=0) (hE:E=e * v\/E=n * u/\e=0)
    (hk:A=n * u\/B=n * u\/C=n * u\/E=n * u):(⟨A,B,C,E,h * u * v⟩:Iv).common=1:=by
  generalize hg:(⟨A,B,C,E,h * u * v⟩:Iv).common=g
  obtain ⟨gd,ga,gb,gc,ge⟩:=common_dvd ⟨A,B,C,E,h * u * v⟩
  rw [hg] at gd ga gb gc ge
  dsimp only at gd ga gb gc ge
  have toV:∀ {z Z:Int},(Z=z * v\/Z=n * u/\z=0)->g ∣ Z.natAbs->g ∣ v * z.natAbs:=by
    intro z Z hz gz
    rcases hz with e | ⟨_,e⟩
    · rw [e,Int.natAbs_mul,Int.natAbs_natCast,Nat.mul_comm] at gz
      exact gz
    · rw [e]
      exact Nat.dvd_zero _
  have gv:g ∣ v:=by
    have q:g ∣ v * (⟨a,b,c,e,h * u⟩:Iv).common:=by
      unfold Iv.common
      rw [<- Nat.gcd_mul_left,<- Nat.gcd_mul_left,<- Nat.gcd_mul_left,<- Nat.gcd_mul_left]
      refine Nat.dvd_gcd ?_ (Nat.dvd_gcd (toV hA ga) (Nat.dvd_gcd (toV hB gb) (Nat.dvd_gcd (toV hC gc) (toV hE ge))))
      rw [Nat.mul_comm]
      exact gd
    rw [hc,Nat.mul_one] at q
    exact q
  have gn:g ∣ u * n.natAbs:=by
    have nn:(n * (u:Int)).natAbs=u * n.natAbs:=by rw [Int.natAbs_mul,Int.natAbs_natCast,Nat.mul_comm]
    rw [<- nn]
    rcases hk with q | q | q | q
    · rw [<- q];exact ga
    · rw [<- q];exact gb
    · rw [<- q];exact gc
    · rw [<- q];exact ge
  have gu:g ∣ u:=by
    have q:g ∣ u * Nat.gcd n.natAbs d:=by
      rw [<- Nat.gcd_mul_left]
      refine Nat.dvd_gcd gn ?_
      rw [hd]
      have:u * (h * v)=h * u * v:=by ac_rfl
      rw [this]
      exact gd
    rw [hn,Nat.mul_one] at q
    exact q
  have q:=Nat.dvd_gcd gu gv
  rw [huv] at q
  exact Nat.dvd_one.mp q
structure Added (x:Iv) (k:Nat) (n:Int) (d:Nat) (y:Iv):Prop where
  pd:y.d=Nat.lcm x.d d
  pa:y.a=if k=0 then n * ((Nat.lcm x.d d / d:Nat):Int) else x.a * ((Nat.lcm x.d d / x.d:Nat):Int)
  pb:y.b=if k=1 then n * ((Nat.lcm x.d d / d:Nat):Int) else x.b * ((Nat.lcm x.d d / x.d:Nat):Int)
  pc:y.c=if k=2 then n * ((Nat.lcm x.d d / d:Nat):Int) else x.c * ((Nat.lcm x.d d / x.d:Nat):Int)
  pe:y.e=if k=3 then n * ((Nat.lcm x.d d / d:Nat):Int) else x.e * ((Nat.lcm x.d d / x.d:Nat):Int)
  plow:y.common=1
theorem added {x:Iv} {k:Nat} {n:Int} {d:Nat} (hx:x.common=1) (hx0:1<=x.d) (hd0:1<=d) (hn:Nat.gcd n.natAbs d=1) (hk:k < 4)
    (h0:k=0->x.a=0) (h1:k=1->x.b=0) (h2:k=2->x.c=0) (h3:k=3->x.e=0):Added x k n d (x.plus (powerOf k n d)):=by
  obtain ⟨a,b,c,e,D⟩:=x
  dsimp only at *
  have hg0:0 < Nat.gcd D d:=Nat.gcd_pos_of_pos_left _ hx0
  obtain ⟨u,hu⟩:Nat.gcd D d ∣ D:=Nat.gcd_dvd_left _ _
  obtain ⟨v,hv⟩:Nat.gcd D d ∣ d:=Nat.gcd_dvd_right _ _
  generalize hh:Nat.gcd D d=h at *
  have huv:Nat.gcd u v=1:=by
    have q:h * Nat.gcd u v=h * 1:=by
      rw [<- Nat.gcd_mul_left,<- hu,<- hv,hh,Nat.mul_one]
    exact Nat.eq_of_mul_eq_mul_left hg0 q
  have hu0:0 < u:=Nat.pos_of_ne_zero fun z=>by rw [z,Nat.mul_zero] at hu;omega
  have hv0:0 < v:=Nat.pos_of_ne_zero fun z=>by rw [z,Nat.mul_zero] at hv;omega
  have hl:Nat.lcm D d=h * u * v:=by
    unfold Nat.lcm
    rw [hh]
    conv=>lhs;lhs;rw [hu,hv]
    have:h * u * (h * v)=h * (h * u * v):=by ac_rfl
    rw [this,Nat.mul_div_cancel_left _ hg0]
  have l1:Nat.lcm D d / d=u:=by
    rw [hl]
    have:h * u * v=d * u:=by rw [hv];ac_rfl
    rw [this,Nat.mul_div_cancel_left _ hd0]
  have l2:Nat.lcm D d / D=v:=by
    rw [hl]
    have:h * u * v=D * v:=by rw [hu]
    rw [this,Nat.mul_div_cancel_left _ hx0]
  have main:∀ {A B C E:Int},(A=a * v\/A=n * u/\a=0)->(B=b * v\/B=n * u/\b=0)->(C=c * v\/C=n * u/\c=0)->(E=e * v\/E=n * u/\e=0)->
      (A=n * u\/B=n * u\/C=n * u\/E=n * u)->(⟨h * A,h * B,h * C,h * E,h * (h * u * v)⟩:Iv).low=⟨A,B,C,E,h * u * v⟩/\(⟨A,B,C,E,h * u * v⟩:Iv).common=1:=by
    intro A B C E hA hB hC hE hk'
    have q:=common_join (h:=h) (u:=u) (v:=v) (d:=d) (a:=a) (b:=b) (c:=c) (e:=e) (by rw [<- hu];exact hx) hv hn huv hA hB hC hE hk'
    exact ⟨low_scale hg0 q,q⟩
  have dd:D * d=h * (h * u * v):=by
    conv=>lhs;rw [hu,hv]
    ac_rfl
  have zd:(d:Int)=(h:Int) * (v:Int):=by rw [<- Int.natCast_mul,<- hv]
  have zD:(D:Int)=(h:Int) * (u:Int):=by rw [<- Int.natCast_mul,<- hu]
  have eo:∀ z:Int,z * (d:Int)+0 * (D:Int)=(h:Int) * (z * (v:Int)):=by
    intro z
    rw [zd]
    simp only [Int.zero_mul,Int.add_zero]
    ac_rfl
  have ek:∀ z:Int,z=0->z * (d:Int)+n * (D:Int)=(h:Int) * (n * (u:Int)):=by
    intro z hz
    rw [hz,zD]
    simp only [Int.zero_mul,Int.zero_add]
    ac_rfl
  unfold Iv.plus powerOf
  have hk4:k=0\/k=1\/k=2\/k=3:=by omega
  rcases hk4 with rfl | rfl | rfl | rfl
  · obtain ⟨m1,m2⟩:=main (A:=n * u) (B:=b * v) (C:=c * v) (E:=e * v) (.inr ⟨rfl,h0 rfl⟩) (.inl rfl) (.inl rfl) (.inl rfl) (.inl rfl)
    show Added _ _ _ _ (Iv.low ⟨a * (d:Int)+n * (D:Int),b * (d:Int)+0 * (D:Int),c * (d:Int)+0 * (D:Int),e * (d:Int)+0 * (D:Int),D * d⟩)
    rw [eo,eo,eo,ek _ (h0 rfl),dd,m1]
    exact ⟨hl.symm,by rw [l1];rfl,by rw [l2];rfl,by rw [l2];rfl,by rw [l2];rfl,m2⟩
  · obtain ⟨m1,m2⟩:=main (A:=a * v) (B:=n * u) (C:=c * v) (E:=e * v) (.inl rfl) (.inr ⟨rfl,h1 rfl⟩) (.inl rfl) (.inl rfl) (.inr (.inl rfl))
    show Added _ _ _ _ (Iv.low ⟨a * (d:Int)+0 * (D:Int),b * (d:Int)+n * (D:Int),c * (d:Int)+0 * (D:Int),e * (d:Int)+0 * (D:Int),D * d⟩)
    rw [eo,eo,eo,ek _ (h1 rfl),dd,m1]
    exact ⟨hl.symm,by rw [l2];rfl,by rw [l1];rfl,by rw [l2];rfl,by rw [l2];rfl,m2⟩
  · obtain ⟨m1,m2⟩:=main (A:=a * v) (B:=b * v) (C:=n * u) (E:=e * v) (.inl rfl) (.inl rfl) (.inr ⟨rfl,h2 rfl⟩) (.inl rfl) (.inr (.inr (.inl rfl)))
    show Added _ _ _ _ (Iv.low ⟨a * (d:Int)+0 * (D:Int),b * (d:Int)+0 * (D:Int),c * (d:Int)+n * (D:Int),e * (d:Int)+0 * (D:Int),D * d⟩)
    rw [eo,eo,eo,ek _ (h2 rfl),dd,m1]
    exact ⟨hl.symm,by rw [l2];rfl,by rw [l2];rfl,by rw [l1];rfl,by rw [l2];rfl,m2⟩
  · obtain ⟨m1,m2⟩:=main (A:=a * v) (B:=b * v) (C:=c * v) (E:=n * u) (.inl rfl) (.inl rfl) (.inl rfl) (.inr ⟨rfl,h3 rfl⟩) (.inr (.inr (.inr rfl)))
    show Added _ _ _ _ (Iv.low ⟨a * (d:Int)+0 * (D:Int),b * (d:Int)+0 * (D:Int),c * (d:Int)+0 * (D:Int),e * (d:Int)+n * (D:Int),D * d⟩)
    rw [eo,eo,eo,ek _ (h3 rfl),dd,m1]
    exact ⟨hl.symm,by rw [l2];rfl,by rw [l2];rfl,by rw [l2];rfl,by rw [l1];rfl,m2⟩
end LuW
namespace LuW
open Lute
abbrev Pows:=Nat->Int × Nat
def comD (P:Pows):Nat:=Nat.lcm (Nat.lcm (Nat.lcm (Nat.lcm 1 (P 0).2) (P 1).2) (P 2).2) (P 3).2
def com (P:Pows):Iv:=⟨(P 0).1 * ((comD P / (P 0).2:Nat):Int),(P 1).1 * ((comD P / (P 1).2:Nat):Int),(P 2).1 * ((comD P / (P 2).2:Nat):Int),(P 3).1 * ((comD P / (P 3).2:Nat):Int),comD P⟩
def setP (P:Pows) (k:Nat) (v:Int × Nat):Pows:=fun j=>if j=k then v else P j
def noP:Pows:=fun _=>(0,1)
structure PowsOk (P:Pows) (least:Nat):Prop where
  pos:∀ j,1<=(P j).2
  zero:∀ j,least<=j->P j=(0,1)
  low:(com P).common=1
theorem comD_pos {P:Pows} (h:∀ j,1<=(P j).2):1<=comD P:=
  Nat.lcm_pos (Nat.lcm_pos (Nat.lcm_pos (Nat.lcm_pos (by decide) (h 0)) (h 1)) (h 2)) (h 3)
theorem noP_ok:PowsOk noP 0:=⟨fun _=>Nat.le_refl 1,fun _ _=>rfl,by decide +kernel⟩
theorem com_noP:com noP=unison:=by decide +kernel
theorem div_chain {d D D':Nat} (h1:d ∣ D) (h2:D ∣ D') (hd:1<=d) (hD:1<=D):D / d * (D' / D)=D' / d:=by
  obtain ⟨u,rfl⟩:=h1
  obtain ⟨v,rfl⟩:=h2
  rw [Nat.mul_div_cancel_left _ hd,Nat.mul_div_cancel_left _ hD,Nat.mul_assoc,Nat.mul_div_cancel_left _ hd]
theorem com_step {P:Pows} {least k:Nat} {n:Int} {d:Nat} (h:PowsOk P least) (hk:least<=k) (hk4:k < 4) (hd:1<=d) (hn:Nat.gcd n.natAbs d=1):
    (com P).plus (powerOf k n d)=com (setP P k (n,d))/\PowsOk (setP P k (n,d)) (k+1):=by
  have hD:=comD_pos h.pos
  have zk:=h.zero k hk
  have A:=added (x:=com P) (k:=k) (n:=n) (d:=d) h.low hD hd hn hk4 (fun e=>by subst e;unfold com;rw [zk];simp) (fun e=>by subst e;unfold com;rw [zk];simp) (fun e=>by subst e;unfold com;rw [zk];simp) (fun e=>by subst e;unfold com;rw [zk];simp)
  have eD:comD (setP P k (n,d))=Nat.lcm (comD P) d:=by
    have z:=fun j (hj:k<=j)=>congrArg Prod.snd (h.zero j (Nat.le_trans hk hj))
    dsimp only at z
    have c:k=0\/k=1\/k=2\/k=3:=by omega
    unfold comD setP
    rcases c with rfl | rfl | rfl | rfl
    · simp [z 0 (by omega),z 1 (by omega),z 2 (by omega),z 3 (by omega),Nat.lcm_one_left,Nat.lcm_one_right]
    · simp [z 1 (by omega),z 2 (by omega),z 3 (by omega),Nat.lcm_one_left,Nat.lcm_one_right]
    · simp [z 2 (by omega),z 3 (by omega),Nat.lcm_one_left,Nat.lcm_one_right]
    · simp [z 3 (by omega),Nat.lcm_one_left,Nat.lcm_one_right]
  have dv:∀ j,j < 4->(P j).2 ∣ comD P:=by
    intro j hj
    have c:j=0\/j=1\/j=2\/j=3:=by omega
    unfold comD
    rcases c with rfl | rfl | rfl | rfl
    · exact Nat.dvd_trans (Nat.dvd_lcm_right 1 _) (Nat.dvd_trans (Nat.dvd_lcm_left _ _) (Nat.dvd_trans (Nat.dvd_lcm_left _ _) (Nat.dvd_lcm_left _ _)))
    · exact Nat.dvd_trans (Nat.dvd_lcm_right _ _) (Nat.dvd_trans (Nat.dvd_lcm_left _ _) (Nat.dvd_lcm_left _ _))
    · exact Nat.dvd_trans (Nat.dvd_lcm_right _ _) (Nat.dvd_lcm_left _ _)
    · exact Nat.dvd_lcm_right _ _
  have comp:∀ j,j < 4->(setP P k (n,d) j).1 * ((comD (setP P k (n,d)) / (setP P k (n,d) j).2:Nat):Int)=
      if k=j then n * ((Nat.lcm (com P).d d / d:Nat):Int) else (P j).1 * ((comD P / (P j).2:Nat):Int) * ((Nat.lcm (com P).d d / (com P).d:Nat):Int):=by
    intro j hj
    rw [eD]
    by_cases e:k=j
    · rw [if_pos e]
      unfold setP
      rw [if_pos e.symm]
      rfl
    · rw [if_neg e]
      unfold setP
      rw [if_neg (Ne.symm e),Int.mul_assoc,<- Int.natCast_mul]
      have q:=div_chain (dv j hj) (Nat.dvd_lcm_left (comD P) d) (h.pos j) hD
      show _=_ * ((comD P / (P j).2 * (Nat.lcm (comD P) d / comD P):Nat):Int)
      rw [q]
  have eq:(com P).plus (powerOf k n d)=com (setP P k (n,d)):=by
    have ea:=A.pa.trans (comp 0 (by decide)).symm
    have eb:=A.pb.trans (comp 1 (by decide)).symm
    have ec:=A.pc.trans (comp 2 (by decide)).symm
    have ee:=A.pe.trans (comp 3 (by decide)).symm
    have ed:=A.pd.trans eD.symm
    generalize (com P).plus (powerOf k n d)=y at *
    obtain ⟨a,b,c,e,dd⟩:=y
    dsimp only at ea eb ec ee ed
    unfold com
    rw [ea,eb,ec,ee,ed]
  refine ⟨eq,fun j=>?_,fun j hj=>?_,?_⟩
  · unfold setP
    split
    · exact hd
    · exact h.pos j
  · unfold setP
    rw [if_neg (by omega)]
    exact h.zero j (by omega)
  · rw [<- eq]
    exact A.plow
end LuW
namespace LuR
open Lute
def Front {α:Type} (p:Nat) (t:Bytes) (r:Rd α):Prop:=∀ v q u,r=.ok (v,q,u)->p<=q/\q - p<=t.length/\u=t.drop (q - p)
theorem digit_eq (c:UInt8):digit c=if 48<=c.toNat/\c.toNat<=57 then some (c.toNat - 48) else none:=by
  unfold digit
  simp only [UInt8.le_iff_toNat_le]
  rfl
theorem front_more:∀ (f n p:Nat) (t:Bytes),Front p t (moreDigits f n p t)
  | f,n,p,[]=>by
    intro v q u h
    unfold moreDigits at h
    cases h
    simp
  | f,n,p,c::r=>by
    intro v q u h
    unfold moreDigits at h
    cases hd:digit c with
    | none=>
      rw [hd] at h
      dsimp only at h
      cases h
      simp
    | some x=>
      rw [hd] at h
      dsimp only at h
      cases f with
      | zero=>cases h
      | succ f'=>
        dsimp only at h
        obtain ⟨h1,h2,h3⟩:=front_more f' _ _ r v q u h
        refine ⟨by omega,by simp only [List.length_cons];omega,?_⟩
        obtain ⟨k,hk⟩:∃ k,q - p=k+1:=⟨q - p - 1,by omega⟩
        have:q - (p+1)=k:=by omega
        rw [h3,this,hk,List.drop_succ_cons]
theorem front_number (p:Nat) (t:Bytes):Front p t (number p t):=by
  intro v q u h
  cases t with
  | nil=>cases h
  | cons c r=>
    unfold number at h
    dsimp only at h
    cases hd:digit c with
    | none=>rw [hd] at h;cases h
    | some x=>
      rw [hd] at h
      have step:∀ {w:Rd Nat},Front (p+1) r w->w=.ok (v,q,u)->p<=q/\q - p<=(c::r).length/\u=(c::r).drop (q - p):=by
        intro w hw e
        obtain ⟨h1,h2,h3⟩:=hw v q u e
        refine ⟨by omega,by simp only [List.length_cons];omega,?_⟩
        obtain ⟨k,hk⟩:∃ k,q - p=k+1:=⟨q - p - 1,by omega⟩
        have:q - (p+1)=k:=by omega
        rw [h3,this,hk,List.drop_succ_cons]
      cases x with
      | zero=>
        cases r with
        | nil=>
          have h':(Except.ok (0,p+1,[]):Rd Nat)=.ok (v,q,u):=h
          cases h'
          simp
        | cons x r'=>
          have h':(if (digit x).isSome=true then Except.error (p+1) else Except.ok (0,p+1,x::r'):Rd Nat)=.ok (v,q,u):=h
          split at h'
          · cases h'
          · cases h'
            simp
      | succ m=>exact step (front_more _ _ _ _) h
theorem front_signed (p:Nat) (t:Bytes):Front p t (signed p t):=by
  intro v q u h
  cases t with
  | nil=>cases h
  | cons c r=>
    unfold signed at h
    dsimp only at h
    split at h
    · split at h
      · cases h
      · have fr:=front_number (p+1) r
        cases hn:number (p+1) r with
        | error e=>rw [hn] at h;cases h
        | ok z=>
          obtain ⟨n,q',u'⟩:=z
          rw [hn] at h
          cases h
          obtain ⟨h1,h2,h3⟩:=fr _ _ _ hn
          refine ⟨by omega,by simp only [List.length_cons];omega,?_⟩
          obtain ⟨k,hk⟩:∃ k,q - p=k+1:=⟨q - p - 1,by omega⟩
          have:q - (p+1)=k:=by omega
          rw [h3,this,hk,List.drop_succ_cons]
    · have fr:=front_number p (c::r)
      cases hn:number p (c::r) with
      | error e=>rw [hn] at h;cases h
      | ok z=>
        obtain ⟨n,q',u'⟩:=z
        rw [hn] at h
        cases h
        exact fr _ _ _ hn
theorem Front.then {p q p':Nat} {t u:Bytes} {k:Nat} (h1:p'=p+k) (h2:k<=t.length) (h3:u=t.drop k) (hq:p'<=q/\q - p'<=u.length):p<=q/\q - p<=t.length/\u.drop (q - p')=t.drop (q - p):=by
  subst h1 h3
  rw [List.length_drop] at hq
  refine ⟨by omega,by omega,?_⟩
  rw [List.drop_drop]
  congr 1
  omega
theorem front_factor (p:Nat) (t:Bytes):∀ v q u,factorAt p t=.ok (v,q,u)->p < q/\q - p<=t.length/\u=t.drop (q - p)/\v.1 < 4/\∀ n d,v.2=some (n,d)->1<=d/\Nat.gcd n.natAbs d=1:=by
  intro v q u h
  cases t with
  | nil=>cases h
  | cons c r=>
    unfold factorAt at h
    dsimp only at h
    cases hi:([(50:UInt8),51,53,55].idxOf? c) with
    | none=>rw [hi] at h;cases h
    | some k=>
      have hk:k < 4:=by
        have:=List.of_findIdx?_eq_some (xs:=[(50:UInt8),51,53,55]) (p:=fun x=>x == c) (i:=k) hi
        cases q:([(50:UInt8),51,53,55]:List UInt8)[k]? with
        | none=>rw [q] at this;cases this
        | some x=>
          have:=(List.getElem?_eq_some_iff.mp q).1
          simpa using this
      rw [hi] at h
      dsimp only at h
      split at h
      · rename_i u0
        have fs:=front_signed (p+1+1) u0
        cases hs:signed (p+1+1) u0 with
        | error e=>rw [hs] at h;cases h
        | ok z=>
          obtain ⟨n,q',v'⟩:=z
          rw [hs] at h
          dsimp only at h
          obtain ⟨a1,a2,a3⟩:=fs _ _ _ hs
          have b:=Front.then (p:=p) (p':=p+1+1) (k:=2) (t:=c::94::u0) (u:=u0) rfl (by simp) rfl ⟨a1,a2⟩
          rw [<- a3] at b
          split at h
          · rename_i w
            have fn:=front_number (q'+1) w
            cases hn:number (q'+1) w with
            | error e=>rw [hn] at h;cases h
            | ok y=>
              obtain ⟨d,z',t'⟩:=y
              rw [hn] at h
              cases h
              obtain ⟨c1,c2,c3⟩:=fn _ _ _ hn
              have lw:(47::w).length<=(c::94::u0).length - (q' - p):=by rw [b.2.2,List.length_drop];omega
              have b2:=Front.then (p:=p) (p':=q'+1) (k:=q'+1 - p) (t:=c::94::u0) (u:=w) (by omega) (by simp only [List.length_cons] at lw ⊢;omega) (by
                have e:q'+1 - p=(q' - p)+1:=by omega
                rw [e,<- List.drop_drop,<- b.2.2]
                rfl) ⟨c1,c2⟩
              refine ⟨by omega,b2.2.1,by rw [<- b2.2.2];exact c3,hk,?_⟩
              intro n1 d1 hnd
              dsimp only at hnd
              split at hnd
              · rename_i hc
                cases hnd
                exact ⟨by omega,hc.2⟩
              · cases hnd
          · cases h
            refine ⟨by omega,b.2.1,b.2.2,hk,?_⟩
            intro n1 d1 hnd
            dsimp only at hnd
            split at hnd
            · cases hnd
            · cases hnd
              exact ⟨Nat.le_refl _,by simp⟩
      · cases h
        refine ⟨by omega,by simp,by simp,hk,?_⟩
        intro n1 d1 hnd
        cases hnd
        exact ⟨Nat.le_refl _,by decide⟩
end LuR
namespace LuR
open Lute
def sh {α:Type} (s:Nat):Rd α->Rd α
  | .error e=>.error (e+s)
  | .ok (v,q,u)=>.ok (v,q+s,u)
def shE {α:Type} (s:Nat):Except Nat α->Except Nat α
  | .error e=>.error (e+s)
  | .ok v=>.ok v
theorem sh_more (s:Nat):∀ (f n p:Nat) (t:Bytes),moreDigits f n (p+s) t=sh s (moreDigits f n p t)
  | f,n,p,[]=>by unfold moreDigits;rfl
  | f,n,p,c::r=>by
    unfold moreDigits
    cases digit c with
    | none=>rfl
    | some x=>
      cases f with
      | zero=>rfl
      | succ f'=>
        have:=sh_more s f' (10 * n+x) (p+1) r
        rw [Nat.add_right_comm] at this
        exact this
theorem sh_number (s p:Nat) (t:Bytes):number (p+s) t=sh s (number p t):=by
  cases t with
  | nil=>rfl
  | cons c r=>
    unfold number
    dsimp only
    cases digit c with
    | none=>rfl
    | some x=>
      cases x with
      | zero=>
        cases r with
        | nil=>
          show (Except.ok (0,p+s+1,[]):Rd Nat)=Except.ok (0,p+1+s,[])
          rw [Nat.add_right_comm]
        | cons y r'=>
          show (if (digit y).isSome=true then Except.error (p+s+1) else Except.ok (0,p+s+1,y::r'):Rd Nat)=sh s (if (digit y).isSome=true then Except.error (p+1) else Except.ok (0,p+1,y::r'))
          rw [Nat.add_right_comm p s 1]
          split <;> rfl
      | succ m=>
        have:=sh_more s 3 (m+1) (p+1) r
        rw [Nat.add_right_comm] at this
        exact this
theorem sh_signed (s p:Nat) (t:Bytes):signed (p+s) t=sh s (signed p t):=by
  cases t with
  | nil=>rfl
  | cons c r=>
    unfold signed
    dsimp only
    have e1:=sh_number s (p+1) r
    have e2:=sh_number s p (c::r)
    rw [Nat.add_right_comm] at e1
    rw [Nat.add_right_comm p s 1]
    split
    · split
      · rfl
      · rw [show p+1+s=p+s+1 by omega,e1]
        cases number (p+1) r with
        | error e=>rfl
        | ok z=>rfl
    · rw [e2]
      cases number p (c::r) with
      | error e=>rfl
      | ok z=>rfl
theorem sh_factor (s p:Nat) (t:Bytes):factorAt (p+s) t=sh s (factorAt p t):=by
  cases t with
  | nil=>rfl
  | cons c r=>
    unfold factorAt
    dsimp only
    cases ([(50:UInt8),51,53,55].idxOf? c) with
    | none=>rfl
    | some k=>
      dsimp only
      split
      · rename_i u0
        have e1:=sh_signed s (p+1+1) u0
        rw [show p+1+1+s=p+s+1+1 by omega] at e1
        rw [e1]
        cases signed (p+1+1) u0 with
        | error e=>rfl
        | ok z=>
          obtain ⟨n,q,v⟩:=z
          dsimp only [sh]
          split
          · rename_i w
            have e2:=sh_number s (q+1) w
            rw [show q+1+s=q+s+1 by omega] at e2
            rw [e2]
            cases number (q+1) w with
            | error e=>rfl
            | ok y=>rfl
          · rfl
      · show (Except.ok _:Rd (Nat × Option (Int × Nat)))=Except.ok _
        rw [Nat.add_right_comm]
theorem sh_factors (s:Nat):∀ (f least:Nat) (x:Iv) (p:Nat) (t:Bytes),factorsAt f least x (p+s) t=shE s (factorsAt f least x p t)
  | 0,_,_,_,_=>by unfold factorsAt;rfl
  | f+1,least,x,p,t=>by
    unfold factorsAt
    rw [sh_factor]
    cases factorAt p t with
    | error e=>rfl
    | ok z=>
      obtain ⟨⟨k,w⟩,q,u⟩:=z
      dsimp only [sh]
      split
      · rfl
      · cases w with
        | none=>rfl
        | some nd=>
          obtain ⟨n,d⟩:=nd
          cases u with
          | nil=>
            dsimp only
            split <;> rfl
          | cons c v=>
            dsimp only
            split
            · have ih:=sh_factors s f (k+1) (x.plus (powerOf k n d)) (q+1) v
              rw [show q+1+s=q+s+1 by omega] at ih
              exact ih
            · rfl
theorem fuel_factors:∀ (f g least:Nat) (x:Iv) (p:Nat) (t:Bytes),t.length < f->t.length < g->factorsAt f least x p t=factorsAt g least x p t
  | 0,_,_,_,_,_,h,_=>absurd h (Nat.not_lt_zero _)
  | _,0,_,_,_,_,_,h=>absurd h (Nat.not_lt_zero _)
  | f+1,g+1,least,x,p,t,hf,hg=>by
    unfold factorsAt
    cases hfa:factorAt p t with
    | error e=>rfl
    | ok z=>
      obtain ⟨⟨k,w⟩,q,u⟩:=z
      obtain ⟨h1,h2,h3,_⟩:=front_factor p t _ _ _ hfa
      dsimp only
      split
      · rfl
      · cases w with
        | none=>rfl
        | some nd=>
          obtain ⟨n,d⟩:=nd
          cases u with
          | nil=>rfl
          | cons c v=>
            dsimp only
            split
            · have lv:v.length+1=t.length - (q - p):=by
                rw [<- List.length_drop,<- h3]
                rfl
              exact fuel_factors f g _ _ _ v (by omega) (by omega)
            · rfl
def fa (least:Nat) (x:Iv) (p:Nat) (t:Bytes):Except Nat Iv:=factorsAt (t.length+1) least x p t
theorem fa_eq (least:Nat) (x:Iv) (p:Nat) (t:Bytes):fa least x p t=match factorAt p t with
    | .error e=>.error e
    | .ok ((k,w),q,u)=>if k < least then .error p else match w with
      | none=>.error p
      | some (n,d)=>match u with
        | []=>if (x.plus (powerOf k n d)).ok=true then .ok (x.plus (powerOf k n d)) else .error q
        | c::v=>if c=32 then fa (k+1) (x.plus (powerOf k n d)) (q+1) v else .error q:=by
  unfold fa
  conv=>lhs;unfold factorsAt
  cases hfa:factorAt p t with
  | error e=>rfl
  | ok z=>
    obtain ⟨⟨k,w⟩,q,u⟩:=z
    obtain ⟨h1,h2,h3,_⟩:=front_factor p t _ _ _ hfa
    dsimp only
    split
    · rfl
    · cases w with
      | none=>rfl
      | some nd=>
        obtain ⟨n,d⟩:=nd
        cases u with
        | nil=>rfl
        | cons c v=>
          dsimp only
          split
          · have lv:v.length+1=t.length - (q - p):=by
              rw [<- List.length_drop,<- h3]
              rfl
            exact fuel_factors _ _ _ _ _ v (by omega) (by omega)
          · rfl
def readAt (s:Nat) (t:Bytes):Except Nat Iv:=shE s (Lute.read t)
theorem readAt_eq (s:Nat) (t:Bytes):readAt s t=match t with
    | []=>.error s
    | c::r=>if c=49 then (if r=[] then .ok unison else .error (s+1)) else fa 0 unison s (c::r):=by
  unfold readAt
  cases t with
  | nil=>
    show shE s (factorsAt 1 0 unison 0 [])=_
    unfold factorsAt
    show (Except.error (0+s):Except Nat Iv)=_
    rw [Nat.zero_add]
  | cons c r=>
    by_cases hc:c=49
    · subst hc
      unfold Lute.read
      dsimp only
      rw [if_pos rfl]
      cases r with
      | nil=>rfl
      | cons y r'=>
        show (Except.error (1+s):Except Nat Iv)=_
        rw [if_neg (by simp),Nat.add_comm]
    · have this:Lute.read (c::r)=factorsAt ((c::r).length+1) 0 unison 0 (c::r):=by
        unfold Lute.read
        split
        · rename_i h
          cases h
          exact absurd rfl hc
        · rfl
      rw [this]
      dsimp only
      rw [if_neg hc]
      have:=sh_factors s ((c::r).length+1) 0 unison 0 (c::r)
      rw [Nat.zero_add] at this
      exact this.symm
end LuR
namespace LuR
open Lute LuteSong
def isNote (c:UInt8):Bool:=c != 44 && c != 10
def noteOf (t:Bytes):Bytes:=t.takeWhile isNote
def lower (x:Iv) (last:Option Iv):Bool:=match last with
  | some y=>x.lt y
  | none=>false
def notesN:Nat->Nat->Option Iv->Nat->Bytes->Rd (List Iv)
  | 0,_,_,p,_=>.error p
  | f+1,many,last,p,t=>if 14<=many then .error p else
    match readAt p (noteOf t) with
    | .error e=>.error e
    | .ok x=>if lower x last=true then .error p else match t.drop (noteOf t).length with
      | []=>.ok ([x],p+(noteOf t).length,[])
      | c::r=>if c=44 then (match r with
          | []=>.error (p+(noteOf t).length+1)
          | b::u=>if b=32 then (match notesN f (many+1) (some x) (p+(noteOf t).length+2) u with
              | .error e=>.error e
              | .ok (l,q,v)=>.ok (x::l,q,v)) else .error (p+(noteOf t).length+1))
        else .ok ([x],p+(noteOf t).length,c::r)
def endAt {α:Type}:Rd α->Rd α
  | .error e=>.error e
  | .ok (_,q,[])=>.error q
  | .ok (l,q,c::r)=>if c=10 then .ok (l,q+1,r) else .error q
theorem rd_readAt (p:Nat) (b:Bytes):readAt p b=match Lute.read b with
    | .error e=>.error (p+e)
    | .ok x=>.ok x:=by
  unfold readAt shE
  cases Lute.read b with
  | error e=>
    show (Except.error (e+p):Except Nat Iv)=Except.error (p+e)
    rw [Nat.add_comm]
  | ok x=>rfl
theorem noteOf_stop {t:Bytes} {c:UInt8} {r:Bytes} (h:t.drop (noteOf t).length=c::r):isNote c=false:=by
  induction t with
  | nil=>simp [noteOf] at h
  | cons a t ih=>
    unfold noteOf at h ih
    rw [List.takeWhile_cons] at h
    cases ha:isNote a with
    | true=>
      rw [ha] at h
      exact ih (by simpa using h)
    | false=>
      rw [ha] at h
      simp at h
      rw [<- h.1]
      exact ha
theorem notesAt_eq:∀ (f many:Nat) (last:Option Iv) (p:Nat) (t:Bytes),notesAt f many last p t=endAt (notesN f many last p t)
  | 0,_,_,_,_=>by unfold notesAt notesN;rfl
  | f+1,many,last,p,t=>by
    unfold notesAt notesN
    dsimp only
    rw [show (List.takeWhile (fun (c:UInt8)=>c != 44 && c != 10) t)=noteOf t from rfl]
    show (if 14<=many then _ else _)=_
    by_cases hm:14<=many
    · rw [if_pos hm,if_pos hm]
      rfl
    · rw [if_neg hm,if_neg hm]
      rw [rd_readAt]
      cases Lute.read (noteOf t) with
      | error e=>rfl
      | ok x=>
        dsimp only
        show (if lower x last=true then _ else _)=_
        cases hl:lower x last with
        | true=>rfl
        | false=>
          rw [if_neg (by decide),if_neg (by decide)]
          cases hd:t.drop (noteOf t).length with
          | nil=>rfl
          | cons c r=>
            have hs:=noteOf_stop hd
            dsimp only
            by_cases hc:c=44
            · subst hc
              have hn:¬ ((44:UInt8)=LuteTab.END):=by decide
              rw [if_neg hn,if_pos rfl]
              cases r with
              | nil=>rfl
              | cons b u=>
                dsimp only
                by_cases hb:b=32
                · subst hb
                  rw [if_pos rfl]
                  have ih:=notesAt_eq f (many+1) (some x) (p+(noteOf t).length+2) u
                  show (match notesAt f (many+1) (some x) (p+(noteOf t).length+2) u with
                    | Except.error e=>Except.error e
                    | Except.ok (l,q,v)=>Except.ok (x::l,q,v):Rd (List Iv))=_
                  rw [ih]
                  cases notesN f (many+1) (some x) (p+(noteOf t).length+2) u with
                  | error e=>rfl
                  | ok z=>
                    obtain ⟨l,q,v⟩:=z
                    cases v with
                    | nil=>rfl
                    | cons c' r'=>
                      by_cases hc':c'=10
                      · simp only [endAt,if_pos hc']
                      · simp only [endAt,if_neg hc']
                · rw [if_neg hb]
                  split
                  · rename_i h
                    cases h
                    exact absurd rfl hb
                  · rfl
            · rw [if_neg hc]
              have hc10:c=10:=by
                unfold isNote at hs
                simp at hs
                rcases Classical.em (c=44) with q | q
                · exact absurd q hc
                · exact hs q
              subst hc10
              rfl
theorem noteOf_le (t:Bytes):(noteOf t).length<=t.length:=by
  unfold noteOf
  exact (List.takeWhile_prefix _).length_le
theorem front_notes:∀ (f many:Nat) (last:Option Iv) (p:Nat) (t:Bytes),Front p t (notesN f many last p t)
  | 0,_,_,_,_=>by intro v q u h;unfold notesN at h;cases h
  | f+1,many,last,p,t=>by
    intro v q u h
    have hle:=noteOf_le t
    unfold notesN at h
    split at h
    · cases h
    · cases hr:readAt p (noteOf t) with
      | error e=>rw [hr] at h;cases h
      | ok x=>
        rw [hr] at h
        dsimp only at h
        split at h
        · cases h
        · cases hd:t.drop (noteOf t).length with
          | nil=>
            rw [hd] at h
            cases h
            exact ⟨by omega,by omega,by rw [Nat.add_sub_cancel_left];exact hd.symm⟩
          | cons c r=>
            rw [hd] at h
            dsimp only at h
            split at h
            · cases r with
              | nil=>cases h
              | cons b w=>
                dsimp only at h
                split at h
                · have fr:=front_notes f (many+1) (some x) (p+(noteOf t).length+2) w
                  cases hn:notesN f (many+1) (some x) (p+(noteOf t).length+2) w with
                  | error e=>rw [hn] at h;cases h
                  | ok z=>
                    obtain ⟨l,q',v'⟩:=z
                    rw [hn] at h
                    cases h
                    obtain ⟨a1,a2,a3⟩:=fr _ _ _ hn
                    have e2:w=t.drop ((noteOf t).length+2):=by
                      rw [<- List.drop_drop,hd]
                      rfl
                    have ll:(c::b::w).length=t.length - (noteOf t).length:=by rw [<- hd,List.length_drop]
                    have b:=Front.then (p:=p) (p':=p+(noteOf t).length+2) (k:=(noteOf t).length+2) (t:=t) (u:=w) (by omega) (by simp only [List.length_cons] at ll;omega) e2 ⟨a1,a2⟩
                    exact ⟨b.1,b.2.1,a3.trans b.2.2⟩
                · cases h
            · cases h
              exact ⟨by omega,by omega,by rw [Nat.add_sub_cancel_left];exact hd.symm⟩
theorem fuel_notes:∀ (f g many:Nat) (last:Option Iv) (p:Nat) (t:Bytes),t.length < f->t.length < g->notesN f many last p t=notesN g many last p t
  | 0,_,_,_,_,_,h,_=>absurd h (Nat.not_lt_zero _)
  | _,0,_,_,_,_,_,h=>absurd h (Nat.not_lt_zero _)
  | f+1,g+1,many,last,p,t,hf,hg=>by
    unfold notesN
    cases hr:readAt p (noteOf t) with
    | error e=>rfl
    | ok x=>
      dsimp only
      cases hd:t.drop (noteOf t).length with
      | nil=>rfl
      | cons c r=>
        dsimp only
        cases r with
        | nil=>rfl
        | cons b u=>
          dsimp only
          have ll:(c::b::u).length=t.length - (noteOf t).length:=by rw [<- hd,List.length_drop]
          simp only [List.length_cons] at ll
          rw [fuel_notes f g (many+1) (some x) (p+(noteOf t).length+2) u (by omega) (by omega)]
def nn (many:Nat) (last:Option Iv) (p:Nat) (t:Bytes):Rd (List Iv):=notesN (t.length+1) many last p t
theorem nn_eq (many:Nat) (last:Option Iv) (p:Nat) (t:Bytes):nn many last p t=if 14<=many then .error p else
    match readAt p (noteOf t) with
    | .error e=>.error e
    | .ok x=>if lower x last=true then .error p else match t.drop (noteOf t).length with
      | []=>.ok ([x],p+(noteOf t).length,[])
      | c::r=>if c=44 then (match r with
          | []=>.error (p+(noteOf t).length+1)
          | b::u=>if b=32 then (match nn (many+1) (some x) (p+(noteOf t).length+2) u with
              | .error e=>.error e
              | .ok (l,q,v)=>.ok (x::l,q,v)) else .error (p+(noteOf t).length+1))
        else .ok ([x],p+(noteOf t).length,c::r):=by
  unfold nn
  conv=>lhs;unfold notesN
  cases hr:readAt p (noteOf t) with
  | error e=>rfl
  | ok x=>
    dsimp only
    cases hd:t.drop (noteOf t).length with
    | nil=>rfl
    | cons c r=>
      dsimp only
      cases r with
      | nil=>rfl
      | cons b u=>
        dsimp only
        have ll:(c::b::u).length=t.length - (noteOf t).length:=by rw [<- hd,List.length_drop]
        simp only [List.length_cons] at ll
        rw [fuel_notes t.length (u.length+1) (many+1) (some x) (p+(noteOf t).length+2) u (by omega) (by omega)]
def momN (p:Nat) (t:Bytes):Rd (List Iv):=match t with
  | []=>nn 0 none p []
  | c::r=>if c=46 then .ok ([],p+1,r) else nn 0 none p (c::r)
theorem momentAt_eq (p:Nat) (t:Bytes):momentAt p t=endAt (momN p t):=by
  unfold momentAt momN
  cases t with
  | nil=>exact notesAt_eq 1 0 none p []
  | cons c r=>
    by_cases hc:c=46
    · subst hc
      dsimp only
      rw [if_pos rfl]
      cases r with
      | nil=>rfl
      | cons a r=>
        show (match LuteTab.want [LuteTab.END] (p+1) (a::r) with
          | .error e=>_
          | .ok (_,q,u)=>_)=(if a=10 then _ else _)
        unfold LuteTab.want
        by_cases ha:a=10
        · rw [if_pos ha,if_pos (show a=LuteTab.END from ha)]
          rfl
        · rw [if_neg ha,if_neg (show ¬ a=LuteTab.END from ha)]
    · dsimp only
      rw [if_neg hc]
      split
      · rename_i h
        cases h
        exact absurd rfl hc
      · exact notesAt_eq _ 0 none p (c::r)
theorem front_mom (p:Nat) (t:Bytes):Front p t (momN p t):=by
  unfold momN
  cases t with
  | nil=>exact front_notes _ _ _ _ _
  | cons c r=>
    dsimp only
    split
    · intro v q u h
      cases h
      simp
    · exact front_notes _ _ _ _ _
theorem front_end {α:Type} {p:Nat} {t:Bytes} {r:Rd α} (h:Front p t r):∀ v q u,endAt r=.ok (v,q,u)->p < q/\q - p<=t.length/\u=t.drop (q - p)/\∃ w,r=.ok (v,q - 1,w)/\w=10::u:=by
  intro v q u e
  cases r with
  | error x=>cases e
  | ok z=>
    obtain ⟨l,q',w⟩:=z
    cases w with
    | nil=>cases e
    | cons c w=>
      dsimp only [endAt] at e
      split at e
      · rename_i hc
        cases e
        subst hc
        obtain ⟨h1,h2,h3⟩:=h _ _ _ rfl
        have ll:(10::u:Bytes).length=t.length - (q' - p):=by rw [h3,List.length_drop]
        simp only [List.length_cons] at ll
        refine ⟨by omega,by omega,?_,10::u,by simp,rfl⟩
        have e1:q'+1 - p=(q' - p)+1:=by omega
        rw [e1,<- List.drop_drop,<- h3]
        rfl
      · cases e
end LuR
namespace LuR
open Lute LuteSong
def lenN (last p:Nat):Bytes->Rd Nat
  | []=>.error p
  | c::r=>if c=32/\last ≠ 0 then .ok (last,p+1,r) else match LuteTab.lengthAt p (c::r) with
    | .error e=>.error e
    | .ok (n,q,u)=>if n=last then .error p else .ok (n,q,u)
theorem front_length (p:Nat) (t:Bytes):∀ v q u,LuteTab.lengthAt p t=.ok (v,q,u)->p < q/\q - p<=t.length/\u=t.drop (q - p)/\1<=v:=by
  intro v q u h
  cases t with
  | nil=>cases h
  | cons c r=>
    unfold LuteTab.lengthAt at h
    dsimp only at h
    cases hi:([(120:UInt8),116,115,101,113,104,119].idxOf? c) with
    | none=>rw [hi] at h;cases h
    | some i=>
      rw [hi] at h
      dsimp only at h
      have p2:∀ n:Nat,1<=2 ^ n:=fun n=>Nat.pow_pos (by decide)
      split at h
      · split at h
        · cases h
        · cases h
          refine ⟨by omega,by simp only [List.length_cons];omega,?_,?_⟩
          · rw [show p+3 - p=3 by omega]
            rfl
          · exact Nat.le_trans (p2 i) (Nat.le_add_right _ _)
      · split at h <;> cases h
      · cases h
        refine ⟨by omega,by simp only [List.length_cons];omega,?_,p2 i⟩
        rw [show p+2 - p=2 by omega]
        rfl
      · cases h
theorem front_lenN (last p:Nat) (t:Bytes):∀ v q u,lenN last p t=.ok (v,q,u)->p < q/\q - p<=t.length/\u=t.drop (q - p)/\1<=v:=by
  intro v q u h
  cases t with
  | nil=>cases h
  | cons c r=>
    unfold lenN at h
    dsimp only at h
    split at h
    · rename_i hc
      cases h
      refine ⟨by omega,by simp,by simp,by omega⟩
    · cases hl:LuteTab.lengthAt p (c::r) with
      | error e=>rw [hl] at h;cases h
      | ok z=>
        obtain ⟨n,q',u'⟩:=z
        rw [hl] at h
        dsimp only at h
        split at h
        · cases h
        · cases h
          exact front_length p (c::r) _ _ _ hl
theorem endAt_bar (p:Nat) (r:Bytes):(match LuteTab.want [LuteTab.END] p r with
    | .error e=>.error e
    | .ok (_,q,u)=>.ok ((),q,u):Rd Unit)=endAt (.ok ((),p,r)):=by
  cases r with
  | nil=>rfl
  | cons a r=>
    unfold LuteTab.want endAt
    by_cases ha:a=10
    · rw [if_pos (show a=LuteTab.END from ha)]
      dsimp only
      rw [if_pos ha]
      rfl
    · rw [if_neg (show ¬ a=LuteTab.END from ha)]
      dsimp only
      rw [if_neg ha]
def versesN:Nat->Nat->Nat->Nat->Bytes->Except Nat Song
  | _,last,_,p,[]=>if last=0 then .error p else .ok []
  | 0,_,_,p,_=>.error p
  | f+1,last,many,p,c::r=>if 512<=many then .error p else
    if c=124 then (match endAt (.ok ((),p+1,r)) with
      | .error e=>.error e
      | .ok (_,q,u)=>(versesN f last (many+1) q u).map (Verse.bar::·))
    else match lenN last p (c::r) with
      | .error e=>.error e
      | .ok (n,q,u)=>match endAt (momN q u) with
        | .error e=>.error e
        | .ok (l,z,v)=>(versesN f n (many+1) z v).map (Verse.moment n l::·)
theorem no_length (p:Nat) (r:Bytes):LuteTab.lengthAt p (32::r)=.error p:=rfl
theorem versesAt_eq:∀ (f last many p:Nat) (t:Bytes),versesAt f last many p t=versesN f last many p t
  | f,last,many,p,[]=>by
    cases f <;> (unfold versesAt versesN;rfl)
  | 0,_,_,_,c::r=>by unfold versesAt versesN;rfl
  | f+1,last,many,p,c::r=>by
    unfold versesAt versesN
    show (if 512<=many then _ else _)=_
    by_cases hm:512<=many
    · rw [if_pos hm,if_pos hm]
    · rw [if_neg hm,if_neg hm]
      by_cases hc:c=124
      · rw [if_pos hc,if_pos hc,<- endAt_bar]
        cases LuteTab.want [LuteTab.END] (p+1) r with
        | error e=>rfl
        | ok z=>
          obtain ⟨_,q,u⟩:=z
          dsimp only
          rw [versesAt_eq f last (many+1) q u]
      · rw [if_neg hc,if_neg hc]
        by_cases hb:c=32
        · rw [if_pos (show c=LuteTab.BLANK from hb)]
          subst hb
          unfold lenN
          dsimp only
          by_cases hl:last=0
          · rw [if_pos hl,if_neg (fun h=>h.2 hl),no_length]
          · rw [if_neg hl,if_pos ⟨rfl,hl⟩]
            dsimp only
            rw [momentAt_eq]
            cases endAt (momN (p+1) r) with
            | error e=>rfl
            | ok z=>
              obtain ⟨l,q,u⟩:=z
              dsimp only
              rw [versesAt_eq f last (many+1) q u]
        · rw [if_neg (show ¬ c=LuteTab.BLANK from hb)]
          unfold lenN
          dsimp only
          rw [if_neg (fun h=>hb h.1)]
          cases LuteTab.lengthAt p (c::r) with
          | error e=>rfl
          | ok z=>
            obtain ⟨n,q,u⟩:=z
            dsimp only
            by_cases hn:n=last
            · rw [if_pos hn,if_pos hn]
            · rw [if_neg hn,if_neg hn]
              dsimp only
              rw [momentAt_eq]
              cases endAt (momN q u) with
              | error e=>rfl
              | ok z=>
                obtain ⟨l,z',v⟩:=z
                dsimp only
                rw [versesAt_eq f n (many+1) z' v]
def va (last many p:Nat) (t:Bytes):Except Nat Song:=versesN (t.length+1) last many p t
def firstLine:Bytes:=[115,111,110,103,10]
theorem readSong_eq (t:Bytes):readSong t=match LuteTab.want firstLine 0 t with
    | .error e=>.error e
    | .ok (_,q,u)=>va 0 0 q u:=by
  unfold readSong
  rw [show (LuteTab.ascii "song"++[LuteTab.END])=firstLine by decide +kernel]
  cases LuteTab.want firstLine 0 t with
  | error e=>rfl
  | ok z=>
    obtain ⟨_,q,u⟩:=z
    exact versesAt_eq _ 0 0 q u
end LuR
namespace LuR
open Lute LuteSong
section
variable {β:Type}
abbrev Ln (β:Type):=Option (Nat × List β)
def linesN (rd:Nat->Bytes->Rd (List β)):Nat->Nat->Nat->Nat->Bytes->Except Nat (List (Ln β))
  | _,last,_,p,[]=>if last=0 then .error p else .ok []
  | 0,_,_,p,_=>.error p
  | f+1,last,many,p,c::r=>if 512<=many then .error p else
    if c=124 then (match endAt (.ok ((),p+1,r)) with
      | .error e=>.error e
      | .ok (_,q,u)=>(linesN rd f last (many+1) q u).map (none::·))
    else match lenN last p (c::r) with
      | .error e=>.error e
      | .ok (n,q,u)=>match endAt (rd q u) with
        | .error e=>.error e
        | .ok (l,z,v)=>(linesN rd f n (many+1) z v).map (some (n,l)::·)
theorem fuel_lines {rd:Nat->Bytes->Rd (List β)} (F:∀ p t,Front p t (rd p t)):∀ (f g last many p:Nat) (t:Bytes),t.length < f->t.length < g->linesN rd f last many p t=linesN rd g last many p t
  | f,g,last,many,p,[],_,_=>by
    cases f <;> cases g <;> (unfold linesN;rfl)
  | 0,_,_,_,_,_::_,h,_=>absurd h (Nat.not_lt_zero _)
  | _,0,_,_,_,_::_,_,h=>absurd h (Nat.not_lt_zero _)
  | f+1,g+1,last,many,p,c::r,hf,hg=>by
    simp only [List.length_cons] at hf hg
    unfold linesN
    by_cases hm:512<=many
    · rw [if_pos hm,if_pos hm]
    · rw [if_neg hm,if_neg hm]
      by_cases hc:c=124
      · rw [if_pos hc,if_pos hc]
        cases he:endAt (.ok ((),p+1,r)) with
        | error e=>rfl
        | ok z=>
          obtain ⟨x,q,u⟩:=z
          have fr:Front (p+1) r (.ok ((),p+1,r):Rd Unit):=by
            intro v q u h
            cases h
            simp
          obtain ⟨_,_,e3,_⟩:=front_end fr _ _ _ he
          have lu:u.length<=r.length:=by rw [e3,List.length_drop];omega
          dsimp only
          rw [fuel_lines F f g last (many+1) q u (by omega) (by omega)]
      · rw [if_neg hc,if_neg hc]
        cases hl:lenN last p (c::r) with
        | error e=>rfl
        | ok z=>
          obtain ⟨n,q,u⟩:=z
          obtain ⟨a1,a2,a3,_⟩:=front_lenN last p (c::r) _ _ _ hl
          dsimp only
          cases he:endAt (rd q u) with
          | error e=>rfl
          | ok z=>
            obtain ⟨l,z',v⟩:=z
            obtain ⟨_,_,e3,_⟩:=front_end (F q u) _ _ _ he
            have lu:u.length < r.length+1:=by rw [a3,List.length_drop];simp only [List.length_cons] at a2 ⊢;omega
            have lv:v.length<=u.length:=by rw [e3,List.length_drop];omega
            dsimp only
            rw [fuel_lines F f g n (many+1) z' v (by omega) (by omega)]
def la (rd:Nat->Bytes->Rd (List β)) (last many p:Nat) (t:Bytes):Except Nat (List (Ln β)):=linesN rd (t.length+1) last many p t
theorem la_nil (rd:Nat->Bytes->Rd (List β)) (last many p:Nat):la rd last many p []=if last=0 then .error p else .ok []:=by unfold la linesN;rfl
theorem la_cons {rd:Nat->Bytes->Rd (List β)} (F:∀ p t,Front p t (rd p t)) (last many p:Nat) (c:UInt8) (r:Bytes):la rd last many p (c::r)=if 512<=many then .error p else
    if c=124 then (match endAt (.ok ((),p+1,r)) with
      | .error e=>.error e
      | .ok (_,q,u)=>(la rd last (many+1) q u).map (none::·))
    else match lenN last p (c::r) with
      | .error e=>.error e
      | .ok (n,q,u)=>match endAt (rd q u) with
        | .error e=>.error e
        | .ok (l,z,v)=>(la rd n (many+1) z v).map (some (n,l)::·):=by
  unfold la
  conv=>lhs;unfold linesN
  by_cases hm:512<=many
  · rw [if_pos hm,if_pos hm]
  · rw [if_neg hm,if_neg hm]
    by_cases hc:c=124
    · rw [if_pos hc,if_pos hc]
      cases he:endAt (.ok ((),p+1,r)) with
      | error e=>rfl
      | ok z=>
        obtain ⟨x,q,u⟩:=z
        have fr:Front (p+1) r (.ok ((),p+1,r):Rd Unit):=by
          intro v q u h
          cases h
          simp
        obtain ⟨_,_,e3,_⟩:=front_end fr _ _ _ he
        have lu:u.length<=r.length:=by rw [e3,List.length_drop];omega
        dsimp only
        rw [fuel_lines F (c::r).length (u.length+1) last (many+1) q u (by simp only [List.length_cons];omega) (by omega)]
    · rw [if_neg hc,if_neg hc]
      cases hl:lenN last p (c::r) with
      | error e=>rfl
      | ok z=>
        obtain ⟨n,q,u⟩:=z
        obtain ⟨a1,a2,a3,_⟩:=front_lenN last p (c::r) _ _ _ hl
        dsimp only
        cases he:endAt (rd q u) with
        | error e=>rfl
        | ok z=>
          obtain ⟨l,z',v⟩:=z
          obtain ⟨_,_,e3,_⟩:=front_end (F q u) _ _ _ he
          have lu:u.length < r.length+1:=by rw [a3,List.length_drop];simp only [List.length_cons] at a2 ⊢;omega
          have lv:v.length<=u.length:=by rw [e3,List.length_drop];omega
          dsimp only
          rw [fuel_lines F (c::r).length (v.length+1) n (many+1) z' v (by simp only [List.length_cons];omega) (by omega)]
def moreL (acc:List (Ln β)) (r:Except Nat (List (Ln β))):Except Nat (List (Ln β)):=r.map fun x=>acc++x
theorem moreL_nil (r:Except Nat (List (Ln β))):moreL [] r=r:=by cases r <;> rfl
theorem moreL_cons (acc:List (Ln β)) (v:Ln β) (r:Except Nat (List (Ln β))):moreL acc (r.map (v::·))=moreL (acc++[v]) r:=by
  cases r with
  | error e=>rfl
  | ok s=>
    show Except.ok (acc++(v::s))=Except.ok (acc++[v]++s)
    rw [List.append_assoc]
    rfl
def endT (q:Nat):Bytes->Except Nat (Nat × Bytes)
  | []=>.error q
  | c::r=>if c=10 then .ok (q+1,r) else .error q
variable {rd:Nat->Bytes->Rd (List β)}
theorem la_bar (F:∀ p t,Front p t (rd p t)) (last many p:Nat) (r:Bytes) (acc:List (Ln β)) (h:¬ 512<=many):moreL acc (la rd last many p (124::r))=moreL (acc++[none]) (match endT (p+1) r with
    | .error e=>.error e
    | .ok (q,u)=>la rd last (many+1) q u):=by
  rw [la_cons F,if_neg h,if_pos rfl]
  cases r with
  | nil=>rfl
  | cons d v=>
    unfold endAt endT
    dsimp only
    by_cases hd:d=10
    · rw [if_pos hd,if_pos hd]
      exact moreL_cons _ _ _
    · rw [if_neg hd,if_neg hd]
      rfl
theorem la_moment (F:∀ p t,Front p t (rd p t)) {last many p n q q2:Nat} {c:UInt8} {r u u2:Bytes} {l:List β} (acc:List (Ln β)) (h:¬ 512<=many) (hc:¬ c=124) (h1:lenN last p (c::r)=.ok (n,q,u)) (h2:rd q u=.ok (l,q2,u2)):
    moreL acc (la rd last many p (c::r))=moreL (acc++[some (n,l)]) (match endT q2 u2 with
    | .error e=>.error e
    | .ok (z,v)=>la rd n (many+1) z v):=by
  rw [la_cons F,if_neg h,if_neg hc,h1]
  dsimp only
  rw [h2]
  cases u2 with
  | nil=>rfl
  | cons d v=>
    unfold endAt endT
    dsimp only
    by_cases hd:d=10
    · rw [if_pos hd,if_pos hd]
      exact moreL_cons _ _ _
    · rw [if_neg hd,if_neg hd]
      rfl
theorem la_err1 (F:∀ p t,Front p t (rd p t)) {last many p x:Nat} {c:UInt8} {r:Bytes} (acc:List (Ln β)) (h:¬ 512<=many) (hc:¬ c=124) (h1:lenN last p (c::r)=.error x):moreL acc (la rd last many p (c::r))=.error x:=by
  rw [la_cons F,if_neg h,if_neg hc,h1]
  rfl
theorem la_err2 (F:∀ p t,Front p t (rd p t)) {last many p n q x:Nat} {c:UInt8} {r u:Bytes} (acc:List (Ln β)) (h:¬ 512<=many) (hc:¬ c=124) (h1:lenN last p (c::r)=.ok (n,q,u)) (h2:rd q u=.error x):moreL acc (la rd last many p (c::r))=.error x:=by
  rw [la_cons F,if_neg h,if_neg hc,h1]
  dsimp only
  rw [h2]
  rfl
end
def toVerse:Ln Iv->Verse
  | none=>.bar
  | some (n,l)=>.moment n l
theorem verses_lines:∀ (f last many p:Nat) (t:Bytes),versesN f last many p t=(linesN momN f last many p t).map (List.map toVerse)
  | f,last,many,p,[]=>by
    cases f <;> (unfold versesN linesN;split <;> rfl)
  | 0,_,_,_,c::r=>by unfold versesN linesN;rfl
  | f+1,last,many,p,c::r=>by
    unfold versesN linesN
    by_cases hm:512<=many
    · rw [if_pos hm,if_pos hm];rfl
    · rw [if_neg hm,if_neg hm]
      by_cases hc:c=124
      · rw [if_pos hc,if_pos hc]
        cases endAt (.ok ((),p+1,r)) with
        | error e=>rfl
        | ok z=>
          obtain ⟨x,q,u⟩:=z
          dsimp only
          rw [verses_lines f last (many+1) q u]
          cases linesN momN f last (many+1) q u <;> rfl
      · rw [if_neg hc,if_neg hc]
        cases lenN last p (c::r) with
        | error e=>rfl
        | ok z=>
          obtain ⟨n,q,u⟩:=z
          dsimp only
          cases endAt (momN q u) with
          | error e=>rfl
          | ok z=>
            obtain ⟨l,z',v⟩:=z
            dsimp only
            rw [verses_lines f n (many+1) z' v]
            cases linesN momN f n (many+1) z' v <;> rfl
theorem va_la (last many p:Nat) (t:Bytes):va last many p t=(la momN last many p t).map (List.map toVerse):=verses_lines _ _ _ _ _
end LuR
namespace LuR
open Lute LuteSong
theorem factors_ok:∀ (f least:Nat) (x:Iv) (p:Nat) (t:Bytes) (y:Iv),factorsAt f least x p t=.ok y->y.ok=true
  | 0,_,_,_,_,_,h=>by cases h
  | f+1,least,x,p,t,y,h=>by
    unfold factorsAt at h
    split at h
    · cases h
    · rename_i k w q u _
      split at h
      · cases h
      · cases w with
        | none=>cases h
        | some nd=>
          obtain ⟨n,d⟩:=nd
          dsimp only at h
          cases u with
          | nil=>
            dsimp only at h
            split at h
            · rename_i ho
              cases h
              exact ho
            · cases h
          | cons c v=>
            dsimp only at h
            split at h
            · exact factors_ok f _ _ _ _ _ h
            · cases h
theorem read_ok {t:Bytes} {x:Iv} (h:Lute.read t=.ok x):x.ok=true:=by
  unfold Lute.read at h
  split at h
  · split at h
    · cases h
      decide
    · cases h
  · exact factors_ok _ _ _ _ _ _ h
def climbs:Option Iv->List Iv->Bool
  | none,l=>climbing l
  | some y,l=>climbing (y::l)
def narrow:Option Iv->Iv->Bool
  | some y,x=>x.lt y
  | none,_=>false
theorem climbs_cons {last:Option Iv} {x:Iv} {l:List Iv} (h1:narrow last x=false) (h2:climbing (x::l)=true):climbs last (x::l)=true:=by
  cases last with
  | none=>exact h2
  | some y=>
    show (!(x.lt y) && climbing (x::l))=true
    have h1:x.lt y=false:=h1
    rw [h1,h2]
    rfl
theorem notes_ok:∀ (f many:Nat) (last:Option Iv) (p:Nat) (t:Bytes) (l:List Iv) (q:Nat) (u:Bytes),notesAt f many last p t=.ok (l,q,u)->l.all Iv.ok=true/\climbs last l=true/\l.length+many<=14/\∃ x r,l=x::r
  | 0,_,_,_,_,_,_,_,h=>by cases h
  | f+1,many,last,p,t,l,q,u,h=>by
    unfold notesAt at h
    split at h
    · cases h
    · rename_i hm
      have hm:¬ 14<=many:=hm
      dsimp only at h
      split at h
      · cases h
      · rename_i x hx
        have ho:=read_ok hx
        have rest:∀ b:Bool,narrow last x=b->(if b=true then (.error p:LuteTab.Rd (List Iv)) else match t.drop (t.takeWhile fun (c:UInt8)=>c != 44 && c != 10).length with
            | []=>.error (p+(t.takeWhile fun (c:UInt8)=>c != 44 && c != 10).length)
            | c::r=>if c=LuteTab.END then .ok ([x],p+(t.takeWhile fun (c:UInt8)=>c != 44 && c != 10).length+1,r) else match r with
              | 32::u=>(match notesAt f (many+1) (some x) (p+(t.takeWhile fun (c:UInt8)=>c != 44 && c != 10).length+2) u with
                | .error e=>.error e
                | .ok (l,q,v)=>.ok (x::l,q,v))
              | _=>.error (p+(t.takeWhile fun (c:UInt8)=>c != 44 && c != 10).length+1))=.ok (l,q,u)->l.all Iv.ok=true/\climbs last l=true/\l.length+many<=14/\∃ x r,l=x::r:=by
          intro b hlt h
          cases b with
          | true=>cases h
          | false=>
            rw [if_neg Bool.false_ne_true] at h
            cases hd:t.drop (t.takeWhile fun (c:UInt8)=>c != 44 && c != 10).length with
            | nil=>rw [hd] at h;cases h
            | cons c r=>
              rw [hd] at h
              dsimp only at h
              by_cases hc:c=LuteTab.END
              · rw [if_pos hc] at h
                cases h
                refine ⟨by simp [ho],climbs_cons hlt rfl,by simp;omega,x,[],rfl⟩
              · rw [if_neg hc] at h
                split at h
                · rename_i v
                  cases hn:notesAt f (many+1) (some x) (p+(t.takeWhile fun (c:UInt8)=>c != 44 && c != 10).length+2) v with
                  | error e=>rw [hn] at h;cases h
                  | ok z=>
                    obtain ⟨l',q',v'⟩:=z
                    rw [hn] at h
                    cases h
                    obtain ⟨h1,h2,h3,_⟩:=notes_ok f _ _ _ _ _ _ _ hn
                    refine ⟨by simp only [List.all_cons,ho,h1];rfl,climbs_cons hlt h2,by simp only [List.length_cons];omega,x,l',rfl⟩
                · cases h
        cases last with
        | none=>exact rest _ rfl h
        | some y=>exact rest _ rfl h
theorem moment_ok {p:Nat} {t:Bytes} {l:List Iv} {q:Nat} {u:Bytes} (h:momentAt p t=.ok (l,q,u)):l.all Iv.ok=true/\climbing l=true/\l.length<=14:=by
  unfold momentAt at h
  split at h
  · split at h
    · cases h
    · cases h
      exact ⟨rfl,rfl,by decide⟩
  · obtain ⟨h1,h2,h3,_⟩:=notes_ok _ _ _ _ _ _ _ _ h
    exact ⟨h1,h2,by omega⟩
theorem length_in {p n q:Nat} {t u:Bytes} (h:LuteTab.lengthAt p t=.ok (n,q,u)):n ∈ LuteTab.lengths:=by
  cases t with
  | nil=>cases h
  | cons c r=>
    unfold LuteTab.lengthAt at h
    dsimp only at h
    split at h
    · cases h
    · rename_i i hi
      have hi7:i < 7:=by
        obtain ⟨h1,_⟩:=List.findIdx?_eq_some_iff_findIdx_eq.mp (show List.findIdx? (fun x=>x == c) _=some i by simpa [List.idxOf?] using hi)
        simpa using h1
      split at h
      · split at h
        · cases h
        · cases h
          rename_i h0
          have:∀ j:Fin 7,j.val ≠ 0->2 ^ j.val+2 ^ (j.val - 1) ∈ LuteTab.lengths:=by decide
          exact this ⟨i,hi7⟩ h0
      · split at h <;> cases h
      · cases h
        have:∀ j:Fin 7,2 ^ j.val ∈ LuteTab.lengths:=by decide
        exact this ⟨i,hi7⟩
      · cases h
theorem map_okE {α β:Type} {r:Except Nat α} {g:α->β} {y:β} (h:r.map g=.ok y):∃ x,r=.ok x/\y=g x:=by
  cases r with
  | error e=>cases h
  | ok x=>
    cases h
    exact ⟨x,rfl,rfl⟩
theorem verse_okM {n:Nat} {l:List Iv} (hn:n ∈ LuteTab.lengths) (h:l.all Iv.ok=true/\climbing l=true/\l.length<=14):Verse.ok (.moment n l)=true:=by
  show (LuteTab.lengths.contains n && (l.all Iv.ok && (climbing l && decide (l.length<=14))))=true
  rw [List.contains_iff_mem.mpr hn,h.1,h.2.1,decide_eq_true h.2.2]
  rfl
theorem verses_ok:∀ (f last many p:Nat) (t:Bytes) (s:Song),(last=0\/last ∈ LuteTab.lengths)->versesAt f last many p t=.ok s->(many<=512->s.length+many<=512)/\(∀ v ∈ s,Verse.ok v=true)/\(last=0->s.any Verse.isMoment=true)
  | f,last,many,p,[],s,_,h=>by
    unfold versesAt at h
    split at h
    · cases h
    · rename_i h0
      cases h
      exact ⟨fun q=>by simpa using q,⟨fun v hv=>absurd hv (by simp),fun z=>absurd z h0⟩⟩
  | 0,last,many,p,c::r,s,_,h=>by
    unfold versesAt at h
    cases h
  | f+1,last,many,p,c::r,s,hlast,h=>by
    have grow:∀ (v:Verse) (x:Song) (lst:Nat),¬ 512<=many->Verse.ok v=true->(v.isMoment=true\/lst=last)->((many+1<=512->x.length+(many+1)<=512)/\(∀ v ∈ x,Verse.ok v=true)/\(lst=0->x.any Verse.isMoment=true))->(many<=512->(v::x).length+many<=512)/\(∀ u ∈ v::x,Verse.ok u=true)/\(last=0->(v::x).any Verse.isMoment=true):=fun v x lst h1 h2 h4 h3=>
      ⟨fun q=>by have:=h3.1 (by omega);rw [List.length_cons];omega,fun u hu=>by
        rcases List.mem_cons.mp hu with rfl | hu
        · exact h2
        · exact h3.2.1 u hu,fun z=>by
        rw [List.any_cons]
        rcases h4 with h4 | h4
        · rw [h4];rfl
        · rw [h3.2.2 (h4.trans z),Bool.or_true]⟩
    unfold versesAt at h
    split at h
    · cases h
    · rename_i hm
      have hm':¬ 512<=many:=hm
      split at h
      · split at h
        · cases h
        · obtain ⟨x,hx,rfl⟩:=map_okE h
          exact grow _ _ last hm' rfl (.inr rfl) (verses_ok f _ _ _ _ _ hlast hx)
      · split at h
        · split at h
          · cases h
          · rename_i h0
            split at h
            · cases h
            · rename_i hmo
              obtain ⟨x,hx,rfl⟩:=map_okE h
              have hl:last ∈ LuteTab.lengths:=hlast.resolve_left h0
              exact grow _ _ last hm' (verse_okM hl (moment_ok hmo)) (.inl rfl) (verses_ok f _ _ _ _ _ (.inr hl) hx)
        · split at h
          · cases h
          · rename_i n q u hl
            split at h
            · cases h
            · split at h
              · cases h
              · rename_i hmo
                obtain ⟨x,hx,rfl⟩:=map_okE h
                exact grow _ _ n hm' (verse_okM (length_in hl) (moment_ok hmo)) (.inl rfl) (verses_ok f _ _ _ _ _ (.inr (length_in hl)) hx)
theorem song_ok {t:Bytes} {s:Song} (h:readSong t=.ok s):s.length<=512/\(∀ v ∈ s,Verse.ok v=true)/\s.any Verse.isMoment=true:=by
  unfold readSong at h
  split at h
  · cases h
  · obtain ⟨h1,h2,h3⟩:=verses_ok _ _ _ _ _ _ (.inl rfl) h
    exact ⟨h1 (by decide),h2,h3 rfl⟩
theorem ok_moment {n:Nat} {l:List Iv} (h:Verse.ok (.moment n l)=true):n ∈ LuteTab.lengths/\(∀ x ∈ l,x.ok=true)/\climbing l=true/\l.length<=14:=by
  have h:(LuteTab.lengths.contains n && (l.all Iv.ok && (climbing l && decide (l.length<=14))))=true:=h
  rw [Bool.and_eq_true,Bool.and_eq_true,Bool.and_eq_true] at h
  exact ⟨List.contains_iff_mem.mp h.1,fun x hx=>List.all_eq_true.mp h.2.1 x hx,h.2.2.1,of_decide_eq_true h.2.2.2⟩
theorem lengths_pos {n:Nat} (h:n ∈ LuteTab.lengths):0 < n:=by
  have:∀ m ∈ LuteTab.lengths,0 < m:=by decide
  exact this n h
end LuR
namespace LuR
open Lute LuteSong LuW
theorem plus_common (y x:Iv) (hy:1<=y.d) (hx:1<=x.d):(y.plus x).common=1/\1<=(y.plus x).d:=by
  let w:Iv:=⟨y.a * (x.d:Int)+x.a * (y.d:Int),y.b * (x.d:Int)+x.b * (y.d:Int),y.c * (x.d:Int)+x.c * (y.d:Int),y.e * (x.d:Int)+x.e * (y.d:Int),y.d * x.d⟩
  obtain ⟨h0,h1,h2,h3,h4⟩:=common_dvd w
  have hp:0 < w.d:=Nat.mul_pos hy hx
  have hg:0 < w.common:=Nat.pos_of_dvd_of_pos h0 hp
  have cut:∀ z:Int,w.common ∣ z.natAbs->(w.common:Int) * (z / (w.common:Int))=z:=fun z hz=>Int.mul_ediv_cancel' (Int.ofNat_dvd_left.mpr hz)
  have sc:=common_scale w.common (w.a / (w.common:Int)) (w.b / (w.common:Int)) (w.c / (w.common:Int)) (w.e / (w.common:Int)) (w.d / w.common)
  rw [cut _ h1,cut _ h2,cut _ h3,cut _ h4,Nat.mul_div_cancel' h0] at sc
  have e:y.plus x=w.low:=rfl
  have sc2:w.common=w.common * w.low.common:=sc
  rw [e]
  refine ⟨?_,?_⟩
  · have:w.common * 1=w.common * w.low.common:=by rw [Nat.mul_one];exact sc2
    exact (Nat.eq_of_mul_eq_mul_left hg this).symm
  · show 1<=w.d / w.common
    exact Nat.div_pos (Nat.le_of_dvd hp h0) hg
end LuR
namespace LuI
open Lute LuR
theorem want_same:∀ (l:Bytes) (p:Nat) (t:Bytes),Lute.want l p t=LuteTab.want l p t
  | [],p,t=>rfl
  | x::r,p,[]=>rfl
  | x::r,p,c::t=>by
    unfold Lute.want LuteTab.want
    rw [want_same r (p+1) t]
def lnT (t:Bytes):Bytes:=t.takeWhile fun (c:UInt8)=>c != 10
def ivL (fine:Iv->Bool) (p:Nat) (t:Bytes):Rd Iv:=match LuteTab.want [32] p t with
  | .error e=>.error e
  | .ok (_,q,u)=>match readAt q (lnT u) with
    | .error e=>.error e
    | .ok x=>if fine x=false then .error q else match LuteTab.want [10] (q+(lnT u).length) (u.drop (lnT u).length) with
      | .error e=>.error e
      | .ok (_,z,v)=>.ok (x,z,v)
theorem ivLine_eq (fine:Iv->Bool) (p:Nat) (t:Bytes):ivLine fine p t=ivL fine p t:=by
  unfold ivLine ivL
  rw [want_same]
  cases LuteTab.want [32] p t with
  | error e=>rfl
  | ok z=>
    obtain ⟨_,q,u⟩:=z
    dsimp only
    rw [rd_readAt]
    show (match Lute.read (lnT u) with | .error e=>_ | .ok x=>_)=_
    cases Lute.read (lnT u) with
    | error e=>rfl
    | ok x=>
      dsimp only
      rw [want_same]
      rfl
def lnR (w:Bytes) (full:Bool) (fine:Iv->Bool) (p:Nat) (t:Bytes):Rd Iv:=match LuteTab.want w p t with
  | .error e=>.error e
  | .ok (_,q,u)=>if full=true then .error p else ivL fine q u
theorem want_len:∀ (l:Bytes) (p:Nat) (t:Bytes) (q:Nat) (u:Bytes),LuteTab.want l p t=.ok ((),q,u)->u.length+l.length=t.length
  | [],p,t,q,u,h=>by
    unfold LuteTab.want at h
    cases h
    rfl
  | x::r,p,[],q,u,h=>by cases h
  | x::r,p,c::t,q,u,h=>by
    unfold LuteTab.want at h
    split at h
    · have:=want_len r (p+1) t q u h
      simp only [List.length_cons]
      omega
    · cases h
theorem ivL_len {fine:Iv->Bool} {p:Nat} {t:Bytes} {x:Iv} {q:Nat} {u:Bytes} (h:ivL fine p t=.ok (x,q,u)):u.length < t.length:=by
  unfold ivL at h
  cases h1:LuteTab.want [32] p t with
  | error e=>rw [h1] at h;cases h
  | ok z=>
    obtain ⟨⟨⟩,q1,u1⟩:=z
    rw [h1] at h
    dsimp only at h
    have l1:=want_len _ _ _ _ _ h1
    cases h2:readAt q1 (lnT u1) with
    | error e=>rw [h2] at h;cases h
    | ok y=>
      rw [h2] at h
      dsimp only at h
      split at h
      · cases h
      · cases h3:LuteTab.want [10] (q1+(lnT u1).length) (u1.drop (lnT u1).length) with
        | error e=>rw [h3] at h;cases h
        | ok z=>
          obtain ⟨⟨⟩,q2,u2⟩:=z
          rw [h3] at h
          cases h
          have l3:=want_len _ _ _ _ _ h3
          rw [List.length_drop] at l3
          simp only [List.length_cons,List.length_nil] at l1 l3
          omega
theorem lnR_len {w:Bytes} {full:Bool} {fine:Iv->Bool} {p:Nat} {t:Bytes} {x:Iv} {q:Nat} {u:Bytes} (h:lnR w full fine p t=.ok (x,q,u)):u.length < t.length:=by
  unfold lnR at h
  cases h1:LuteTab.want w p t with
  | error e=>rw [h1] at h;cases h
  | ok z=>
    obtain ⟨⟨⟩,q1,u1⟩:=z
    rw [h1] at h
    dsimp only at h
    split at h
    · cases h
    · have:=ivL_len h
      have l1:=want_len _ _ _ _ _ h1
      omega
def wF:Bytes:=[102,114,101,116]
def wC:Bytes:=[99,111,117,114,115,101]
def wB:Bytes:=[98,97,115,115]
def wL:Bytes:=[108,101,110,103,116,104,32]
theorem wF_eq:ascii "fret"=wF:=by decide +kernel
theorem wC_eq:ascii "course"=wC:=by decide +kernel
theorem wB_eq:ascii "bass"=wB:=by decide +kernel
theorem wL_eq:ascii "length "=wL:=by decide +kernel
def fretR (t:Inst) (p:Nat) (u:Bytes):Rd Iv:=lnR wF (decide (15<=t.frets.length)) (fun x=>(t.frets.getLastD unison).lt x) p u
def courseR (t:Inst) (p:Nat) (u:Bytes):Rd Iv:=lnR wC (decide (14<=t.opens.length)) (soundsAll t.frets) p u
def bassR (t:Inst) (p:Nat) (u:Bytes):Rd Iv:=lnR wB (decide (14<=t.opens.length)) (fun _=>true) p u
theorem linesAt_step (f:Nat) (t:Inst) (p:Nat) (c:UInt8) (r:Bytes):linesAt (f+1) t p (c::r)=
    if c=102/\t.courses.isEmpty=true then (match fretR t p (c::r) with
      | .error e=>.error e
      | .ok (x,q,u)=>linesAt f { t with frets:=t.frets++[x] } q u)
    else if c=99/\t.basses.isEmpty=true then (match courseR t p (c::r) with
      | .error e=>.error e
      | .ok (x,q,u)=>linesAt f { t with courses:=t.courses++[x] } q u)
    else if c=98/\t.courses.isEmpty=false then (match bassR t p (c::r) with
      | .error e=>.error e
      | .ok (x,q,u)=>linesAt f { t with basses:=t.basses++[x] } q u)
    else .error p:=by
  rw [linesAt]
  rw [wF_eq,wC_eq,wB_eq]
  unfold fretR courseR bassR lnR
  simp only [ivLine_eq,want_same]
  by_cases h1:c=102/\t.courses.isEmpty=true
  · rw [if_pos h1,if_pos h1]
    cases LuteTab.want wF p (c::r) with
    | error e=>rfl
    | ok z=>
      obtain ⟨_,q,u⟩:=z
      dsimp only
      by_cases h2:15<=t.frets.length
      · rw [if_pos (show FRETS<=t.frets.length from h2),if_pos (decide_eq_true h2)]
      · rw [if_neg (show ¬ FRETS<=t.frets.length from h2),if_neg (by rw [decide_eq_false h2];exact Bool.false_ne_true)]
        all_goals (cases ivL (fun x=>(t.frets.getLastD unison).lt x) q u <;> rfl)
  · rw [if_neg h1,if_neg h1]
    by_cases h3:c=99/\t.basses.isEmpty=true
    · rw [if_pos h3,if_pos h3]
      cases LuteTab.want wC p (c::r) with
      | error e=>rfl
      | ok z=>
        obtain ⟨_,q,u⟩:=z
        dsimp only
        by_cases h2:14<=t.opens.length
        · rw [if_pos (show COURSES<=t.opens.length from h2),if_pos (decide_eq_true h2)]
        · rw [if_neg (show ¬ COURSES<=t.opens.length from h2),if_neg (by rw [decide_eq_false h2];exact Bool.false_ne_true)]
          all_goals (cases ivL (soundsAll t.frets) q u <;> rfl)
    · rw [if_neg h3,if_neg h3]
      by_cases h4:c=98/\t.courses.isEmpty=false
      · rw [if_pos h4,if_pos h4]
        cases LuteTab.want wB p (c::r) with
        | error e=>rfl
        | ok z=>
          obtain ⟨_,q,u⟩:=z
          dsimp only
          by_cases h2:14<=t.opens.length
          · rw [if_pos (show COURSES<=t.opens.length from h2),if_pos (decide_eq_true h2)]
          · rw [if_neg (show ¬ COURSES<=t.opens.length from h2),if_neg (by rw [decide_eq_false h2];exact Bool.false_ne_true)]
            all_goals (cases ivL (fun _=>true) q u <;> rfl)
      · rw [if_neg h4,if_neg h4]
theorem fuel_li:∀ (f g:Nat) (t:Inst) (p:Nat) (u:Bytes),u.length < f->u.length < g->linesAt f t p u=linesAt g t p u
  | f,g,t,p,[],_,_=>by
    cases f <;> cases g <;> (unfold linesAt;rfl)
  | 0,_,_,_,_::_,h,_=>absurd h (Nat.not_lt_zero _)
  | _,0,_,_,_::_,_,h=>absurd h (Nat.not_lt_zero _)
  | f+1,g+1,t,p,c::r,hf,hg=>by
    rw [linesAt_step,linesAt_step]
    have key:∀ (R:Rd Iv) (T:Iv->Inst),(∀ x q u,R=.ok (x,q,u)->u.length < (c::r).length)->(match R with
      | .error e=>.error e
      | .ok (x,q,u)=>linesAt f (T x) q u:Except Nat Inst)=(match R with
      | .error e=>.error e
      | .ok (x,q,u)=>linesAt g (T x) q u):=by
      intro R T hR
      cases R with
      | error e=>rfl
      | ok z=>
        obtain ⟨x,q,u⟩:=z
        have:=hR x q u rfl
        exact fuel_li f g (T x) q u (by omega) (by omega)
    have k1:=key (fretR t p (c::r)) (fun x=>{ t with frets:=t.frets++[x] }) fun x q u h=>lnR_len h
    have k2:=key (courseR t p (c::r)) (fun x=>{ t with courses:=t.courses++[x] }) fun x q u h=>lnR_len h
    have k3:=key (bassR t p (c::r)) (fun x=>{ t with basses:=t.basses++[x] }) fun x q u h=>lnR_len h
    rw [k1,k2,k3]
def li (t:Inst) (p:Nat) (u:Bytes):Except Nat Inst:=linesAt (u.length+1) t p u
theorem li_nil (t:Inst) (p:Nat):li t p []=if t.courses.isEmpty=true then .error p else .ok t:=by unfold li linesAt;rfl
def goL (R:Rd Iv) (T:Iv->Inst):Except Nat Inst:=match R with
  | .error e=>.error e
  | .ok (x,q,u)=>li (T x) q u
theorem li_cons (t:Inst) (p:Nat) (c:UInt8) (r:Bytes):li t p (c::r)=
    if c=102/\t.courses.isEmpty=true then goL (fretR t p (c::r)) fun x=>{ t with frets:=t.frets++[x] }
    else if c=99/\t.basses.isEmpty=true then goL (courseR t p (c::r)) fun x=>{ t with courses:=t.courses++[x] }
    else if c=98/\t.courses.isEmpty=false then goL (bassR t p (c::r)) fun x=>{ t with basses:=t.basses++[x] }
    else .error p:=by
  have key:∀ (R:Rd Iv) (T:Iv->Inst),(∀ x q u,R=.ok (x,q,u)->u.length < (c::r).length)->(match R with
      | .error e=>.error e
      | .ok (x,q,u)=>linesAt (c::r).length (T x) q u:Except Nat Inst)=goL R T:=by
    intro R T hR
    unfold goL
    cases R with
    | error e=>rfl
    | ok z=>
      obtain ⟨x,q,u⟩:=z
      have:=hR x q u rfl
      exact fuel_li _ _ (T x) q u (by omega) (by omega)
  rw [<- key (fretR t p (c::r)) _ fun x q u h=>lnR_len h,<- key (courseR t p (c::r)) _ fun x q u h=>lnR_len h,<- key (bassR t p (c::r)) _ fun x q u h=>lnR_len h]
  exact linesAt_step _ t p c r
def numR (p:Nat) (u:Bytes):Rd Nat:=match longNumber p u with
  | .error e=>.error e
  | .ok (n,q,v)=>if n < 10000\/200000 < n then .error p else match LuteTab.want [10] q v with
    | .error e=>.error e
    | .ok (_,q,v)=>.ok (n,q,v)
def firstR (t:Bytes):Rd Nat:=match LuteTab.want wL 0 t with
  | .error e=>.error e
  | .ok (_,p,u)=>numR p u
theorem readInst_eq (t:Bytes):readInst t=match firstR t with
    | .error e=>.error e
    | .ok (n,q,v)=>li ⟨n,[],[],[]⟩ q v:=by
  unfold readInst firstR numR
  rw [wL_eq,want_same]
  cases LuteTab.want wL 0 t with
  | error e=>rfl
  | ok z=>
    obtain ⟨_,p,u⟩:=z
    dsimp only
    cases longNumber p u with
    | error e=>rfl
    | ok z=>
      obtain ⟨n,q,v⟩:=z
      dsimp only
      by_cases h:n < 10000\/200000 < n
      · rw [if_pos (show n < SHORT\/LONG < n from h),if_pos h]
      · rw [if_neg (show ¬ (n < SHORT\/LONG < n) from h),if_neg h,want_same]
        cases LuteTab.want [10] q v with
        | error e=>rfl
        | ok z=>rfl
theorem ivL_ok {fine:Iv->Bool} {p:Nat} {t:Bytes} {x:Iv} {q:Nat} {u:Bytes} (h:ivL fine p t=.ok (x,q,u)):(∃ b,Lute.read b=.ok x)/\fine x=true:=by
  unfold ivL at h
  cases h1:LuteTab.want [32] p t with
  | error e=>rw [h1] at h;cases h
  | ok z=>
    obtain ⟨⟨⟩,q1,u1⟩:=z
    rw [h1] at h
    dsimp only at h
    cases h2:readAt q1 (lnT u1) with
    | error e=>rw [h2] at h;cases h
    | ok y=>
      rw [h2] at h
      dsimp only at h
      cases hf:fine y with
      | false=>rw [hf,if_pos rfl] at h;cases h
      | true=>
        rw [hf,if_neg (by decide)] at h
        cases h3:LuteTab.want [10] (q1+(lnT u1).length) (u1.drop (lnT u1).length) with
        | error e=>rw [h3] at h;cases h
        | ok z=>
          rw [h3] at h
          cases h
          refine ⟨⟨lnT u1,?_⟩,hf⟩
          rw [rd_readAt] at h2
          cases h4:Lute.read (lnT u1) with
          | error e=>rw [h4] at h2;cases h2
          | ok z=>rw [h4] at h2;cases h2;rfl
theorem lnR_ok {w:Bytes} {full:Bool} {fine:Iv->Bool} {p:Nat} {t:Bytes} {x:Iv} {q:Nat} {u:Bytes} (h:lnR w full fine p t=.ok (x,q,u)):full=false/\(∃ b,Lute.read b=.ok x)/\fine x=true:=by
  unfold lnR at h
  cases h1:LuteTab.want w p t with
  | error e=>rw [h1] at h;cases h
  | ok z=>
    obtain ⟨⟨⟩,q1,u1⟩:=z
    rw [h1] at h
    dsimp only at h
    cases full with
    | true=>cases h
    | false=>exact ⟨rfl,ivL_ok h⟩
def ivT (fine:Iv->Bool) (q:Nat) (u:Bytes):Rd Iv:=match readAt q (lnT u) with
    | .error e=>.error e
    | .ok x=>if fine x=false then .error q else match LuteTab.want [10] (q+(lnT u).length) (u.drop (lnT u).length) with
      | .error e=>.error e
      | .ok (_,z,v)=>.ok (x,z,v)
theorem want_join:∀ (l m:Bytes) (p:Nat) (t:Bytes),LuteTab.want (l++m) p t=match LuteTab.want l p t with
    | .error e=>.error e
    | .ok (_,q,u)=>LuteTab.want m q u
  | [],m,p,t=>rfl
  | x::r,m,p,[]=>rfl
  | x::r,m,p,c::t=>by
    show (if c=x then LuteTab.want (r++m) (p+1) t else .error p)=match (if c=x then LuteTab.want r (p+1) t else .error p:LuteTab.Rd Unit) with
      | .error e=>.error e
      | .ok (_,q,u)=>LuteTab.want m q u
    by_cases h:c=x
    · rw [if_pos h,if_pos h]
      exact want_join r m (p+1) t
    · rw [if_neg h,if_neg h]
theorem lnR_go (w:Bytes) (fine:Iv->Bool) (p:Nat) (t:Bytes):lnR w false fine p t=match LuteTab.want (w++[32]) p t with
    | .error e=>.error e
    | .ok (_,q,u)=>ivT fine q u:=by
  rw [want_join]
  unfold lnR
  cases LuteTab.want w p t with
  | error e=>rfl
  | ok z=>
    obtain ⟨_,q,u⟩:=z
    dsimp only
    rw [if_neg (by decide)]
    unfold ivL ivT
    rfl
theorem lnR_full (w:Bytes) (fine:Iv->Bool) (p:Nat) (t:Bytes):∃ e,lnR w true fine p t=.error e:=by
  unfold lnR
  cases LuteTab.want w p t with
  | error e=>exact ⟨e,rfl⟩
  | ok z=>exact ⟨p,rfl⟩
end LuI
namespace LuC
open Lute LuteSong LuteTab
def cnt:List (List Iv)->List Iv->Nat
  | [],l=>if l.isEmpty=true then 1 else 0
  | r::rs,l=>((r.filter fun x=>l.contains x).map fun x=>cnt rs (l.erase x)).sum+(if l.length<=rs.length then cnt rs l else 0)
theorem cnt_nil:∀ rs:List (List Iv),cnt rs []=1
  | []=>rfl
  | r::rs=>by
    unfold cnt
    have e:(r.filter fun x=>([]:List Iv).contains x)=[]:=by
      rw [List.filter_eq_nil_iff]
      intro x _
      simp
    rw [e,if_pos (show ([]:List Iv).length<=rs.length from Nat.zero_le _),cnt_nil rs]
    rfl
theorem cnt_big:∀ (rs:List (List Iv)) (l:List Iv),rs.length < l.length->cnt rs l=0
  | [],l,h=>by
    unfold cnt
    cases l with
    | nil=>simp at h
    | cons x r=>rfl
  | r::rs,l,h=>by
    unfold cnt
    simp only [List.length_cons] at h
    rw [if_neg (by omega),Nat.add_zero]
    have e:((r.filter fun x=>l.contains x).map fun x=>cnt rs (l.erase x))=(r.filter fun x=>l.contains x).map fun _=>0:=by
      refine List.map_congr_left fun x hx=>?_
      have hm:x ∈ l:=by
        have:=(List.mem_filter.mp hx).2
        simpa using this
      refine cnt_big rs _ ?_
      rw [List.length_erase_of_mem hm]
      omega
    rw [e,List.map_const',List.sum_replicate_nat]
    rfl
theorem placed_cnt (t:Inst):∀ (cs:List Nat) (l:List Iv),(placedOn t cs l).length=cnt (cs.map fun c=>(stopsOn t c).map fun s=>t.sounds s.course s.fret) l
  | [],l=>by
    unfold placedOn cnt
    cases l with
    | nil=>rfl
    | cons x r=>rfl
  | c::r,l=>by
    unfold placedOn
    rw [List.map_cons]
    unfold cnt
    rw [List.length_append,List.length_flatMap,List.filter_map,List.map_map,List.length_map]
    congr 1
    · congr 1
      refine List.map_congr_left fun s hs=>?_
      rw [List.length_map]
      exact placed_cnt t r _
    · by_cases h:l.length<=r.length
      · rw [if_pos h,if_pos h]
        exact placed_cnt t r l
      · rw [if_neg h,if_neg h]
        rfl
def dd (l:List Iv):List Iv:=l.foldl (fun D x=>if x ∈ D then D else D++[x]) []
theorem dd_snoc (l:List Iv) (x:Iv):dd (l++[x])=if x ∈ dd l then dd l else dd l++[x]:=by
  unfold dd
  rw [List.foldl_append]
  rfl
theorem dd_facts (l:List Iv):(dd l).Nodup/\(∀ x,x ∈ dd l ↔ x ∈ l)/\(dd l).length<=l.length:=by
  have main:∀ (n:Nat) (l:List Iv),l.length=n->(dd l).Nodup/\(∀ x,x ∈ dd l ↔ x ∈ l)/\(dd l).length<=l.length:=fun n=>by
   induction n with
   | zero=>
    intro l hl
    rw [List.length_eq_zero_iff.mp hl]
    exact ⟨List.nodup_nil,fun x=>Iff.rfl,Nat.le_refl _⟩
   | succ n ih=>
    intro l' hl'
    obtain ⟨l,x,e⟩:∃ l x,l'=l++[x]:=by
      rcases List.eq_nil_or_concat l' with e | ⟨l,x,e⟩
      · rw [e] at hl';cases hl'
      · exact ⟨l,x,by rw [e,List.concat_eq_append]⟩
    subst e
    obtain ⟨h1,h2,h3⟩:=ih l (by rw [List.length_append] at hl';simpa using hl')
    rw [dd_snoc]
    by_cases hx:x ∈ dd l
    · rw [if_pos hx]
      refine ⟨h1,fun y=>?_,by rw [List.length_append];omega⟩
      rw [List.mem_append,List.mem_singleton,<- h2]
      exact ⟨.inl,fun z=>z.elim id fun e=>e ▸ hx⟩
    · rw [if_neg hx]
      refine ⟨List.nodup_append.mpr ⟨h1,by simp,fun a ha b hb e=>hx (by rw [List.mem_singleton.mp hb] at e;exact e ▸ ha)⟩,fun y=>?_,by rw [List.length_append,List.length_append];simpa using h3⟩
      rw [List.mem_append,List.mem_append,h2]
  exact main _ l rfl
def unit (D:List Iv) (x:Iv):Nat:=1+16 ^ (D.idxOf x+1)
def enc (D l:List Iv):Nat:=(l.map (unit D)).sum
def S (D l:List Iv):Nat:=(l.map fun x=>16 ^ D.idxOf x).sum
theorem enc_S (D l:List Iv):enc D l=l.length+16 * S D l:=by
  unfold enc S
  induction l with
  | nil=>rfl
  | cons x r ih=>
    rw [List.map_cons,List.sum_cons,List.map_cons,List.sum_cons,List.length_cons,ih]
    unfold unit
    rw [Nat.pow_succ]
    omega
theorem enc_mod {D l:List Iv} (h:l.length<=15):enc D l % 16=l.length:=by
  rw [enc_S]
  omega
theorem enc_zero (D l:List Iv):enc D l=0 ↔ l=[]:=by
  rw [enc_S]
  cases l with
  | nil=>simp [S]
  | cons x r=>simp only [List.length_cons,reduceCtorEq,iff_false];omega
theorem enc_erase {D:List Iv}:∀ {l:List Iv} {x:Iv},x ∈ l->enc D (l.erase x)=enc D l - unit D x/\unit D x<=enc D l
  | y::r,x,h=>by
    by_cases e:y=x
    · subst e
      rw [List.erase_cons_head]
      unfold enc
      rw [List.map_cons,List.sum_cons]
      omega
    · have hr:x ∈ r:=by
        rcases List.mem_cons.mp h with z | z
        · exact absurd z.symm e
        · exact z
      obtain ⟨h1,h2⟩:=enc_erase hr
      rw [List.erase_cons_tail (by simpa using e)]
      unfold enc at h1 h2 ⊢
      rw [List.map_cons,List.sum_cons,List.map_cons,List.sum_cons,h1]
      omega
theorem S_split (D:List Iv) (j:Nat):∀ l:List Iv,∃ a c h low:Nat,S D l=a+c * 16 ^ j+h * 16 ^ (j+1)/\16 * a<=low * 16 ^ j/\low+c<=l.length/\(c ≠ 0 ↔ ∃ x ∈ l,D.idxOf x=j)
  | []=>⟨0,0,0,0,by simp [S],by simp,by simp,by simp⟩
  | x::r=>by
    obtain ⟨a,c,h,low,e1,e2,e3,e4⟩:=S_split D j r
    have eS:S D (x::r)=16 ^ D.idxOf x+S D r:=by unfold S;rw [List.map_cons,List.sum_cons]
    rcases Nat.lt_trichotomy (D.idxOf x) j with q | q | q
    · refine ⟨a+16 ^ D.idxOf x,c,h,low+1,by rw [eS,e1];omega,?_,by simp only [List.length_cons];omega,?_⟩
      · have:16 ^ (D.idxOf x+1)<=16 ^ j:=Nat.pow_le_pow_right (by decide) q
        rw [Nat.pow_succ] at this
        rw [Nat.add_mul,Nat.mul_add]
        omega
      · rw [e4]
        constructor
        · rintro ⟨y,hy,e⟩
          exact ⟨y,List.mem_cons_of_mem _ hy,e⟩
        · rintro ⟨y,hy,e⟩
          rcases List.mem_cons.mp hy with z | z
          · rw [z] at e;omega
          · exact ⟨y,z,e⟩
    · refine ⟨a,c+1,h,low,?_,e2,by simp only [List.length_cons];omega,?_⟩
      · rw [eS,e1,q,Nat.add_mul]
        omega
      · exact ⟨fun _=>⟨x,List.mem_cons_self,q⟩,fun _=>Nat.succ_ne_zero _⟩
    · refine ⟨a,c,h+16 ^ (D.idxOf x - (j+1)),low,?_,e2,by simp only [List.length_cons];omega,?_⟩
      · have:16 ^ (D.idxOf x - (j+1)) * 16 ^ (j+1)=16 ^ D.idxOf x:=by
          rw [<- Nat.pow_add]
          congr 1
          omega
        rw [eS,e1,Nat.add_mul,this]
        omega
      · rw [e4]
        constructor
        · rintro ⟨y,hy,e⟩
          exact ⟨y,List.mem_cons_of_mem _ hy,e⟩
        · rintro ⟨y,hy,e⟩
          rcases List.mem_cons.mp hy with z | z
          · rw [z] at e;omega
          · exact ⟨y,z,e⟩
theorem and_mask (n k:Nat):n &&& (15 * 16 ^ k)=n / 16 ^ k % 16 * 16 ^ k:=by
  have e:(16:Nat) ^ k=2 ^ (4 * k):=by rw [Nat.pow_mul]
  rw [e]
  have e2:15 * 2 ^ (4 * k)=(2 ^ 4 - 1) <<< (4 * k):=by rw [Nat.shiftLeft_eq]
  have e3:n / 2 ^ (4 * k) % 16 * 2 ^ (4 * k)=((n >>> (4 * k)) % 2 ^ 4) <<< (4 * k):=by rw [Nat.shiftLeft_eq,Nat.shiftRight_eq_div_pow]
  rw [e2,e3]
  refine Nat.eq_of_testBit_eq fun i=>?_
  rw [Nat.testBit_and,Nat.testBit_shiftLeft,Nat.testBit_shiftLeft,Nat.testBit_mod_two_pow,Nat.testBit_shiftRight,Nat.testBit_two_pow_sub_one]
  by_cases h:4 * k<=i
  · have:4 * k+(i - 4 * k)=i:=by omega
    simp only [h,decide_true,Bool.true_and,this]
    rw [Bool.and_comm]
  · simp [h]
def mask (D:List Iv) (x:Iv):Nat:=15 * 16 ^ (D.idxOf x+1)
theorem enc_has {D l:List Iv} {x:Iv} (hl:l.length<=15) (hx:x ∈ D) (hD:∀ y ∈ l,y ∈ D):(enc D l &&& mask D x) ≠ 0 ↔ x ∈ l:=by
  obtain ⟨a,c,h,low,e1,e2,e3,e4⟩:=S_split D (D.idxOf x) l
  have hp:0 < 16 ^ D.idxOf x:=Nat.pow_pos (by decide)
  have ed:enc D l / 16 ^ (D.idxOf x+1)=S D l / 16 ^ D.idxOf x:=by
    rw [Nat.pow_succ,Nat.mul_comm,<- Nat.div_div_eq_div_mul,enc_S]
    congr 1
    omega
  have ha:a < 16 ^ D.idxOf x:=by
    have:low * 16 ^ D.idxOf x<=15 * 16 ^ D.idxOf x:=Nat.mul_le_mul_right _ (by omega)
    omega
  have ec:S D l / 16 ^ D.idxOf x % 16=c:=by
    have:S D l=a+16 ^ D.idxOf x * (c+h * 16):=by
      rw [e1,Nat.pow_succ,Nat.mul_add,Nat.mul_comm c,<- Nat.mul_assoc,<- Nat.mul_assoc,Nat.mul_comm h]
      omega
    rw [this,Nat.add_mul_div_left _ _ hp,Nat.div_eq_of_lt ha]
    omega
  unfold mask
  rw [and_mask,ed,ec]
  have:c * 16 ^ (D.idxOf x+1) ≠ 0 ↔ c ≠ 0:=by
    have hq:0 < 16 ^ (D.idxOf x+1):=Nat.pow_pos (by decide)
    constructor
    · intro z w
      exact z (by rw [w,Nat.zero_mul])
    · intro z w
      rcases Nat.mul_eq_zero.mp w with q | q
      · exact z q
      · omega
  rw [this,e4]
  constructor
  · rintro ⟨y,hy,e⟩
    have hyD:=hD y hy
    have:y=x:=by
      have q1:=List.getElem_idxOf (List.idxOf_lt_length_of_mem hyD)
      have q2:=List.getElem_idxOf (List.idxOf_lt_length_of_mem hx)
      rw [<- q1,<- q2]
      simp only [e]
    exact this ▸ hy
  · exact fun z=>⟨x,z,rfl⟩
abbrev Ch:=Nat × Nat × Nat
def chOf (D r:List Iv):List Ch:=(r.zipIdx.filter fun p=>decide (p.1 ∈ D)).map fun p=>(p.2,unit D p.1,mask D p.1)
theorem chOf_snoc (D r:List Iv) (x:Iv):chOf D (r++[x])=if x ∈ D then chOf D r++[(r.length,unit D x,mask D x)] else chOf D r:=by
  unfold chOf
  rw [List.zipIdx_append,List.filter_append,List.map_append]
  by_cases h:x ∈ D
  · rw [if_pos h]
    simp [List.zipIdx,h]
  · rw [if_neg h]
    simp [List.zipIdx,h]
def cntN:List (List Ch)->Nat->Nat
  | [],n=>if n=0 then 1 else 0
  | ch::r,n=>if n=0 then 1 else if r.length+1 < n % 16 then 0 else cntN r n+(ch.map fun c=>if (n &&& c.2.2) ≠ 0 then cntN r (n - c.2.1) else 0).sum
theorem sum_if {α:Type} (p:α->Bool) (f:α->Nat) (l:List α):(l.map fun x=>if p x=true then f x else 0).sum=((l.filter p).map f).sum:=by
  induction l with
  | nil=>rfl
  | cons x r ih=>
    rw [List.map_cons,List.sum_cons,ih,List.filter_cons]
    cases p x with
    | true=>simp
    | false=>simp
theorem cntN_enc {D:List Iv}:∀ (rs:List (List Iv)) (l:List Iv),l.length<=14->(∀ y ∈ l,y ∈ D)->cntN (rs.map (chOf D)) (enc D l)=cnt rs l
  | [],l,h14,hD=>by
    unfold cntN cnt
    cases l with
    | nil=>rfl
    | cons x r=>
      show (if enc D (x::r)=0 then 1 else 0)=0
      rw [if_neg (by rw [enc_zero];simp)]
  | r::rs,l,h14,hD=>by
    by_cases h0:l=[]
    · rw [h0,cnt_nil,List.map_cons]
      unfold cntN
      rfl
    · rw [List.map_cons]
      unfold cntN
      rw [if_neg (by rw [enc_zero];exact h0),enc_mod (by omega),List.length_map]
      by_cases hb:rs.length+1 < l.length
      · rw [if_pos hb,cnt_big _ _ (by simpa using hb)]
      · rw [if_neg hb,cntN_enc rs l h14 hD]
        show _=((r.filter fun x=>l.contains x).map fun x=>cnt rs (l.erase x)).sum+(if l.length<=rs.length then cnt rs l else 0)
        rw [Nat.add_comm]
        congr 1
        · conv=>lhs;arg 1;arg 2;unfold chOf
          rw [List.map_map]
          have e:∀ p ∈ r.zipIdx.filter (fun p=>decide (p.1 ∈ D)),((fun c:Ch=>if (enc D l &&& c.2.2) ≠ 0 then cntN (rs.map (chOf D)) (enc D l - c.2.1) else 0) ∘ fun p:Iv × Nat=>(p.2,unit D p.1,mask D p.1)) p=(fun p:Iv × Nat=>if (l.contains p.1)=true then cnt rs (l.erase p.1) else 0) p:=by
            intro p hp
            have hpD:p.1 ∈ D:=by simpa using (List.mem_filter.mp hp).2
            show (if (enc D l &&& mask D p.1) ≠ 0 then cntN (rs.map (chOf D)) (enc D l - unit D p.1) else 0)=if (l.contains p.1)=true then cnt rs (l.erase p.1) else 0
            by_cases hx:p.1 ∈ l
            · rw [if_pos ((enc_has (by omega) hpD hD).mpr hx),if_pos (by simpa using hx),<- (enc_erase hx).1]
              exact cntN_enc rs _ (Nat.le_trans (List.length_erase_le) h14) fun y hy=>hD y (List.mem_of_mem_erase hy)
            · rw [if_neg (fun z=>hx ((enc_has (by omega) hpD hD).mp z)),if_neg (by simpa using hx)]
          rw [List.map_congr_left e,sum_if (fun p:Iv × Nat=>l.contains p.1) (fun p=>cnt rs (l.erase p.1)),List.filter_filter]
          have e2:(r.zipIdx.filter fun p=>l.contains p.1 && decide (p.1 ∈ D))=r.zipIdx.filter fun p=>l.contains p.1:=by
            refine List.filter_congr fun p _=>?_
            cases q:l.contains p.1 with
            | false=>rfl
            | true=>simp [hD p.1 (by simpa using q)]
          rw [e2]
          have e3:(r.filter fun x=>l.contains x)=(r.zipIdx.filter fun p=>l.contains p.1).map Prod.fst:=by
            conv=>lhs;rw [<- List.zipIdx_map_fst 0 r]
            rw [List.filter_map]
            rfl
          rw [e3,List.map_map]
          rfl
        · by_cases q:l.length<=rs.length
          · rw [if_pos q]
          · rw [if_neg q,cnt_big _ _ (by omega)]
end LuC
namespace LX
open PySem
def Kept (fs xs:List Addr) (h h':Heap):Prop:=
  ∀ b o,h.get? b=some o->b ∉ xs->(b ∉ fs->h'.get? b=some o)/\∃ sl,h'.get? b=some { o with slots:=sl }
structure Fly (h:Heap) (e:Addr) (cls:Value) (d T:Addr) (fl:Value):Prop where
  ne:T ≠ e
  rec_:∃ sl vs,h.get? e=some ⟨cls,some d,.fields vs,sl⟩/\vs[1]?=some (.ref T)
  tb:∃ oT ts,h.get? T=some oT/\oT.data=.fields ts/\ts[3]?=some fl
section
variable {M:Model} {A:Around} {E:Value->Shared->Prop} {s:Shared} {base:Heap} {env:Env} {outer:List Env} {L e d:Addr} {cls:Value} {sl:Array (Option Value)} {vs:Array Value} {Q:Unit->Shared->Prop}
abbrev fra (l:List Env):List Addr:=l.filterMap (·.frame)
theorem not_frame {l:List Env} {e:Addr} {oe:Obj} {vs:Array Value} {h base:Heap} (hl:h.FunFrames base l) (he:h.get? e=some oe) (hd:oe.data=.fields vs):e ∉ fra l:=by
  intro m
  obtain ⟨_,o,ho,hn⟩:=hl.mem m
  rw [he] at ho
  cases ho
  exact hn vs hd
theorem note_entry {head:Value} {hadNext:Bool} (hfr:A.frames=some (env::outer)) (hl:s.heap.FunFrames base (env::outer)) (hf:env.frame=some L)
    (he:s.heap.get? e=some ⟨cls,some d,.fields vs,sl⟩) (h1:1 < vs.size)
    (k:∀ h' T,Kept (fra (env::outer)) [e] s.heap h'->s.heap.get? T=none->Fly h' e cls d T (rawInt L)->Q () { s with heap:=h' }):
    wpAny M A (do
      let fr ← frameOf env
      let pl ← entryPlaceOf L hadNext
      let b ← EntryCells.newEntry head fr .none (rawInt L) .none pl
      setField (.ref e) 1 b) Q E s:=by
  have hne:e ∉ fra (env::outer):=not_frame hl he rfl
  refine wpAny_bind (wpAny_frameOf_fun hfr hl hf fun g1 hs=>?_)
  refine wpAny_bind (wpAny_entryPlaceOf fun pl hpl=>?_)
  have e1:g1.get? e=some ⟨cls,some d,.fields vs,sl⟩:=(hs.2.1 e hne).trans he
  unfold EntryCells.newEntry newFields
  generalize hcells:([head,.ref L,.none,rawInt L,.none]++(if pl.isEmpty then List.replicate 6 Value.none else pl):List Value)=cells
  have c3:cells[3]?=some (rawInt L):=by rw [<- hcells];rfl
  refine wpAny_bind (wpAny_newObj_type ?_ (by rw [<- hcells];exact hpl.sizeOk5 _ _ _ _ _))
  generalize hnew:({ cls:=.type "traceback",dict:=none,data:=.fields cells.toArray }:Obj)=nt
  have e2:(g1.push nt).get? e=some ⟨cls,some d,.fields vs,sl⟩:=Heap.get?_push_of_some _ e1
  have tne:g1.objs.size ≠ e:=Nat.ne_of_gt (Heap.lt_size e1)
  have t2:(g1.push nt).get? g1.objs.size=some nt:=Heap.get?_push_size _ (by rw [<- hnew];rfl)
  refine wpAny_setField e2 rfl h1 (k _ g1.objs.size (fun b o hb hx=>?_) ?_ ⟨tne,⟨sl,vs.setIfInBounds 1 (.ref g1.objs.size),?_,?_⟩,nt,cells.toArray,?_,by rw [<- hnew],by simpa using c3⟩)
  · have hbe:b ≠ e:=fun z=>hx (by rw [z];exact List.mem_singleton.mpr rfl)
    have up:∀ o',g1.get? b=some o'->((g1.push nt).update e (Obj.mapFields (·.setIfInBounds 1 (.ref g1.objs.size)))).get? b=some o':=fun o' ho'=>
      (Heap.get?_update_other _ _ (Ne.symm hbe)).trans (Heap.get?_push_of_some _ ho')
    obtain ⟨sl',hsl⟩:=hs.2.2 b o hb
    exact ⟨fun hf'=>up o ((hs.2.1 b hf').trans hb),sl',up _ hsl⟩
  · exact Heap.get?_none_of_le (by rw [hs.1];exact Nat.le_refl _)
  · exact Heap.get?_update_self _ e2 rfl
  · simp [h1]
  · exact (Heap.get?_update_other _ _ (Ne.symm tne)).trans t2
theorem note_first (hfr:A.frames=some (env::outer)) (hl:s.heap.FunFrames base (env::outer)) (hf:env.frame=some L)
    (he:s.heap.get? e=some ⟨cls,some d,.fields vs,sl⟩) (h1:vs[1]?=some .none)
    (k:∀ h' T,Kept (fra (env::outer)) [e] s.heap h'->s.heap.get? T=none->Fly h' e cls d T (rawInt L)->Q () { s with heap:=h' }):
    wpAny M A (noteFrame (.ref e) env) Q E s:=by
  have z:1 < vs.size:=(Array.getElem?_eq_some_iff.mp h1).1
  unfold noteFrame
  simp only [hf]
  refine wpAny_bind (wpAny_field he rfl h1 ?_)
  rw [if_neg (by decide)]
  exact note_entry hfr hl hf he z k
theorem note_next {T:Addr} (hfr:A.frames=some (env::outer)) (hl:s.heap.FunFrames base (env::outer)) (hf:env.frame=some L) (F:Fly s.heap e cls d T .none)
    (k:∀ h' T',Kept (fra (env::outer)) [e,T] s.heap h'->s.heap.get? T'=none->Fly h' e cls d T' (rawInt L)->Q () { s with heap:=h' }):
    wpAny M A (noteFrame (.ref e) env) Q E s:=by
  obtain ⟨hne,⟨sl,vs,he,h1⟩,oT,ts,hT,hdT,h3⟩:=F
  have z:1 < vs.size:=(Array.getElem?_eq_some_iff.mp h1).1
  have z3:3 < ts.size:=(Array.getElem?_eq_some_iff.mp h3).1
  unfold noteFrame
  simp only [hf]
  refine wpAny_bind (wpAny_field he rfl h1 ?_)
  rw [if_pos (show (Value.ref T != Value.none)=true from by simp)]
  refine wpAny_bind (wpAny_field hT hdT h3 ?_)
  rw [if_neg (show ¬ ((Value.none == rawInt L)=true) from by simp [rawInt])]
  refine wpAny_bind (wpAny_setField hT hdT z3 ?_)
  have oth:∀ b,b ≠ T->(s.heap.update T (Obj.mapFields (·.setIfInBounds 3 Value.none))).get? b=s.heap.get? b:=fun b hb=>Heap.get?_update_other _ _ (Ne.symm hb)
  have nT:∀ b o,s.heap.get? b=some o->(∀ vs,o.data ≠ .fields vs)->b ≠ T:=fun b o hb hn q=>by
    rw [q,hT] at hb
    cases hb
    exact hn ts hdT
  refine note_entry (s:={ s with heap:=s.heap.update T (Obj.mapFields (·.setIfInBounds 3 Value.none)) }) hfr (hl.of_keeps fun b o hb hn=>⟨o,(oth b (nT b o hb hn)).trans hb,rfl⟩) hf ((oth e (Ne.symm hne)).trans he) z fun h' T' K hT' F'=>k h' T' (fun b o hb hx=>?_) ?_ F'
  · have hbT:b ≠ T:=fun q=>hx (by rw [q];simp)
    exact K b o ((oth b hbT).trans hb) fun m=>hx (by rw [List.mem_singleton.mp m];simp)
  · by_cases q:T'=T
    · subst q
      have:=Heap.get?_update_self (Obj.mapFields (·.setIfInBounds 3 Value.none)) hT (Obj.isFreed_of_fields (Obj.data_mapFields hdT _))
      rw [this] at hT'
      cases hT'
    · exact (oth T' q).symm.trans hT'
theorem land {T:Addr} {fl:Value} (F:Fly s.heap e cls d T fl) (k:∀ h',(∀ b o,b ≠ T->s.heap.get? b=some o->h'.get? b=some o)->Fly h' e cls d T .none->Q () { s with heap:=h' }):
    wpAny M A (setFlight (.ref e) none) Q E s:=by
  obtain ⟨hne,⟨sl,vs,he,h1⟩,oT,ts,hT,hdT,h3⟩:=F
  have z3:3 < ts.size:=(Array.getElem?_eq_some_iff.mp h3).1
  refine wpAny_setFlight_none he rfl h1 hT hdT z3 (k _ (fun b o hb e=>(Heap.get?_update_other _ _ (Ne.symm hb)).trans e) ⟨hne,⟨sl,vs,(Heap.get?_update_other _ _ hne).trans he,h1⟩,_,_,Heap.get?_update_self _ hT (Obj.isFreed_of_fields (Obj.data_mapFields hdT _)),Obj.data_mapFields hdT _,?_⟩)
  simp [z3]
inductive Out (h:Heap) (e:Addr) (cls:Value) (d:Addr):List Addr->Prop
  | first {sl:Array (Option Value)} {vs:Array Value}:h.get? e=some ⟨cls,some d,.fields vs,sl⟩->vs[1]?=some .none->Out h e cls d [e]
  | next {T:Addr}:Fly h e cls d T .none->Out h e cls d [e,T]
theorem note_out {xs:List Addr} (hfr:A.frames=some (env::outer)) (hl:s.heap.FunFrames base (env::outer)) (hf:env.frame=some L) (O:Out s.heap e cls d xs)
    (k:∀ h' T',Kept (fra (env::outer)) xs s.heap h'->s.heap.get? T'=none->Fly h' e cls d T' (rawInt L)->Q () { s with heap:=h' }):
    wpAny M A (noteFrame (.ref e) env) Q E s:=by
  cases O with
  | first he h1=>exact note_first hfr hl hf he h1 k
  | next F=>exact note_next hfr hl hf F k
theorem landed {xs:List Addr} {E':Value->Shared->Prop} (hfr:A.frames=some (env::outer)) (hl:s.heap.FunFrames base (env::outer)) (hf:env.frame=some L) (O:Out s.heap e cls d xs)
    (k:∀ h' T',Kept (fra (env::outer)) xs s.heap h'->s.heap.get? T'=none->Fly h' e cls d T' .none->Q () { s with heap:=h' }):
    wpAny M A (noteFrame (.ref e) env) (fun _ s1=>wpAny M A (setFlight (.ref e) none) Q E' s1) E s:=by
  refine note_out hfr hl hf O fun h1 T K hT F=>land F fun h2 K2 F2=>k h2 T (fun b o hb hx=>?_) hT F2
  have nT:b ≠ T:=fun q=>by rw [q,hT] at hb;cases hb
  obtain ⟨a1,sl,a2⟩:=K b o hb hx
  exact ⟨fun hf'=>K2 b o nT (a1 hf'),sl,K2 b _ nT a2⟩
theorem leaves {xs:List Addr} (hfr:A.frames=some (env::outer)) (hl:s.heap.FunFrames base (env::outer)) (hf:env.frame=some L) (O:Out s.heap e cls d xs)
    (k:∀ h' T',Kept (fra (env::outer)) xs s.heap h'->s.heap.get? T'=none->Fly h' e cls d T' .none->Q () { s with heap:=h' }):
    wpAny M A (leaving env (.ref e)) Q E s:=by
  unfold leaving
  exact wpAny_bind (landed hfr hl hf O k)
end
end LX
namespace LX
open PySem
abbrev xrec (C t d:Addr):Obj:=⟨.ref C,some d,.fields #[.ref t,.none,.none,.none,.bool false,.none],#[]⟩
abbrev bmE:List Value:=[.type "Exception",.type "BaseException",.type "object"]
section
variable {M:Model} {A:Around} {E:Value->Shared->Prop} {env:Env}
variable {nm q:Str} {C N:Addr} {bs:List Value} {hdct:Bool} {sn:List Str} {sub:List Value} {ab:Bool} {col:Option Bool} {dd:Option Addr} {k0 k1 k2 k3 k5:Option Value} {newId:String}
theorem raise_stmt {s:Shared} {x:Sem Value} {Q:Flow->Shared->Prop} (hh:A.handled=none)
    (h:wpAny M A x (fun v s1=>∃ e t d,v=.ref e/\s1.heap.get? C=some (excClassObj nm q C N bs bmE hdct sn sub ab col dd k0 k1 k2 k3 k5 newId) ∧
      s1.heap.get? e=some (xrec C t d)/\E (.ref e) s1) E s):wpAny M A (raiseStmt env (some x) none) Q E s:=by
  have hcB:(Value.ref C::bmE).contains (.type "BaseException")=true:=by
    rw [List.contains_cons,show bmE.contains (.type "BaseException")=true by decide +kernel,Bool.or_true]
  unfold raiseStmt
  refine wpAny_bind (wpAny_mono h (fun v s1 hv=>?_) fun _ _ z=>z)
  obtain ⟨e,t,d,rfl,hC,he,hE⟩:=hv
  obtain ⟨hp,g,dr,tk,os⟩:=s1
  repeat (first | with_reducible refine wpAny_loadPart_at he ?_ | with_reducible refine wpAny_loadPart_at hC ?_ | (with_reducible refine wpAny_isSubtype_exc hC ?_;rw [hcB]) | wp_step)
  exact wpAny_raiseNew_none hh hE
end
section
variable {prog:Program} {w:World} {A:Around} {E:Value->Shared->Prop} {h:Heap} {g:Array GenState} {dr:Drawn} {tk:Nat} {os:OsState}
variable {nm q:Str} {C N:Addr} {bs:List Value} {sn:List Str} {sub:List Value} {ab:Bool} {col:Option Bool} {dd:Option Addr} {k0 k1 k2 k3 k5:Option Value} {newId:String} {mN:Str->Option Value}
theorem store_in {o:Obj} {e:Addr} {name:Str} {v:Value} {tn:Tok} {Q:Fin->Shared->Prop}
    (hC:h.get? C=some (excClassObj nm q C N bs bmE true sn sub ab col dd k0 k1 k2 k3 k5 newId)) (hn:h.Ns N mN) (hna:mN name=none)
    (hB:typeLookup (.type "Exception") name=pure none) (ho:h.get? e=some o) (hoc:o.cls=.ref C) (hod:o.dict=none) (hnc:∀ c,o.data ≠ .cls c)
    (k:∀ h' tk' d,h'.get? e=some { o with dict:=some d }->d ≠ e->h.get? d=none->h'.Ns1 d (fun y=>if y=name then some v else none)->(∀ b u,b ≠ e->h.get? b=some u->h'.get? b=some u)->Q (.done (.ret .none)) ⟨h',g,dr,tk',os⟩):
    wpAny (model prog w) A (Builtin.«object.__setattr__» ⟨[.ref e,.str name tn,v],[]⟩) Q E ⟨h,g,dr,tk,os⟩:=by
  have SF:=F.store_Exception
  have hp:=SF.passes (.ref e)
  unfold Builtin.«object.__setattr__»
  repeat (first | rw [refuse_eq] | (rw [refuseLoop_ref,hp]) | (with_reducible refine wpAny_loadPart_at ho ?_;rw [hoc]) | with_reducible refine wpAny_mroOf_exc hC ?_ | (with_reducible refine wpAny_typeLookup_exc hC hn SF.mro hB ?_;rw [hna]) | wp_step)
  rw [hod,if_neg (by simp [typeHasDict])]
  split
  · rename_i z
    cases z
  split
  · rename_i c z
    exact absurd z (hnc c)
  · generalize hD:({ cls:=.type "dict",data:=.dict #[] }:Obj)=D0
    have fD:D0.isFreed=false:=by rw [<- hD];rfl
    have e1:(h.push D0).get? e=some o:=Heap.get?_push_of_some _ ho
    have ne:e ≠ h.objs.size:=Nat.ne_of_lt (Heap.lt_size ho)
    refine wpAny_bind (wpAny_alloc' (wpAny_bind (wpAny_update' e1 (wpAny_pure ?_))))
    generalize hH:((h.push D0).update e fun o=>{ cls:=o.cls,dict:=some h.objs.size,data:=o.data,slots:=o.slots })=h1
    have d1:h1.get? h.objs.size=some D0:=by
      rw [<- hH]
      exact (Heap.get?_update_ne _ _ _ _ ne.symm).trans (Heap.get?_push_at rfl fD)
    have n1:h1.Ns h.objs.size (fun _=>none):=⟨D0,#[],0,d1,by rw [<- hD],fun x hx=>absurd hx (by simp),fun _=>rfl⟩
    show wpAny _ _ (Builtin.ObjectAttr.storeInDict h.objs.size (.str name tn) name v) _ _ _
    unfold Builtin.ObjectAttr.storeInDict Builtin.ObjectAttr.newKeyGuard
    refine wpAny_bind (wpAny_pure (wpAny_bind (wpAny_nsSet1 (Heap.Ns1.of_empty n1) fun h2 n2 hs=>?_)))
    obtain ⟨oD,esD,epD,hoD,hdD,hcD⟩:=n2.count (Within.cons name v Within.nil)
    refine wpAny_bind (wpAny_lookBehind hoD (by rw [hdD];exact pastItsLine_dict (Nat.le_trans hcD (by rw [List.length_cons,List.length_nil,sizeLine_eq];omega))) ?_)
    wp_walk
    refine k h2 _ h.objs.size ?_ ne.symm (Heap.get?_none_of_le (Nat.le_refl _)) n2 (fun b u hb hu=>?_)
    · refine (hs.2 e ne).trans ?_
      rw [<- hH]
      refine Heap.get?_update_self _ e1 ?_
      have nf:=(Heap.get?_some_iff.mp ho).2
      obtain ⟨oc,od,odt,osl⟩:=o
      cases odt <;> first | rfl | exact nf
    · refine (hs.2 b (Nat.ne_of_lt (Heap.lt_size hu))).trans ?_
      rw [<- hH]
      exact (Heap.get?_update_ne _ _ _ _ hb).trans (Heap.get?_push_of_some _ hu)
theorem store_call1 {o:Obj} {e:Addr} {name:Str} {v:Value} {tn:Tok} {R:Result->Shared->Prop} {sa owner:String} (SF:StoreFacts "Exception" bmE sa owner)
    (hC:h.get? C=some (excClassObj nm q C N bs bmE true sn sub ab col dd k0 k1 k2 k3 k5 newId)) (hn:h.Ns N mN) (hna:mN name=none)
    (hB:typeLookup (.type "Exception") name=pure none) (ho:h.get? e=some o) (hoc:o.cls=.ref C) (hod:o.dict=none) (hnc:∀ c,o.data ≠ .cls c)
    (k:∀ h' tk' d,h'.get? e=some { o with dict:=some d }->d ≠ e->h.get? d=none->h'.Ns1 d (fun y=>if y=name then some v else none)->(∀ b u,b ≠ e->h.get? b=some u->h'.get? b=some u)->R (.ok (.ret .none)) ⟨h',g,dr,tk',os⟩):
    codeAny (model prog w) A (.call (.builtin sa) ⟨[.ref e,.str name tn,v],[]⟩) R ⟨h,g,dr,tk,os⟩:=by
  exact codeAny_call_builtin SF.slot.plain SF.entry (wpAny_check_sa SF hC ho hoc (store_in hC hn hna hB ho hoc hod hnc k))
theorem store_new1 {o:Obj} {e:Addr} {name:Str} {v:Value} {Q:Unit->Shared->Prop} {sa owner:String} (SF:StoreFacts "Exception" bmE sa owner)
    (hC:h.get? C=some (excClassObj nm q C N bs bmE true sn sub ab col dd k0 k1 k2 k3 k5 newId)) (hn:h.Ns N mN) (hns:mN "__setattr__"=none) (hna:mN name=none)
    (hB:typeLookup (.type "Exception") name=pure none) (ho:h.get? e=some o) (hoc:o.cls=.ref C) (hod:o.dict=none) (hnc:∀ c,o.data ≠ .cls c)
    (k:∀ h' tk' d,h'.get? e=some { o with dict:=some d }->d ≠ e->h.get? d=none->h'.Ns1 d (fun y=>if y=name then some v else none)->(∀ b u,b ≠ e->h.get? b=some u->h'.get? b=some u)->Q () ⟨h',g,dr,tk',os⟩):
    wpAny (model prog w) A (setAttr (.ref e) name v) Q E ⟨h,g,dr,tk,os⟩:=by
  have fb:=SF.slot.bind (.ref e)
  unfold setAttr callSpecial? specialOf
  repeat (any_goals (first | assumption | (with_reducible refine wpAny_loadPart_at ho ?_;rw [hoc]) | (with_reducible refine wpAny_typeLookup_exc hC hn SF.mro SF.slot.lookup ?_;rw [hns]) | wp_step))
  refine store_call1 SF hC hn hna hB ho hoc hod hnc fun h' tk' d a1 a2 a3 a4 a5=>?_
  repeat (any_goals (first | assumption | wp_step))
  exact k h' tk' d a1 a2 a3 a4 a5
end
end LX
namespace LX
open PySem
section
variable {prog:Program} {w:World} {A:Around} {E:Value->Shared->Prop} {h:Heap} {g:Array GenState} {dr:Drawn} {tk:Nat} {os:OsState}
variable {nm q:Str} {C N:Addr} {bs:List Value} {sn:List Str} {sub:List Value} {ab:Bool} {col:Option Bool} {dd:Option Addr} {k0 k1 k2 k3 k5:Option Value} {newId:String} {mN mA:Str->Option Value}
end
end LX
namespace L2
open PySem PySem.Spec PyProof.Rows
theorem ObjOk.get {P:Program} {w:World} {H:Hp} {h:Heap} {a:Addr} {o:HO} (x:ObjOk P w H h a o):∃ ob,h.get? a=some ob:=by
  cases o with
  | lst xs=>obtain ⟨_,_,_,_,e⟩:=x;exact ⟨_,e⟩
  | tup xs=>obtain ⟨_,_,_,o,e,_⟩:=x;exact ⟨_,e⟩
  | dK kvs=>obtain ⟨_,_,_,_,o,_,_,e,_⟩:=x;exact ⟨_,e⟩
  | dT kvs=>obtain ⟨_,_,_,_,o,_,_,e,_⟩:=x;exact ⟨_,e⟩
  | set S n=>obtain ⟨o,_,_,_,e,_⟩:=x;exact ⟨_,e⟩
  | ins C dx fs=>obtain ⟨_,_,_,e,_⟩:=x;exact ⟨_,e⟩
  | own y=>obtain ⟨_,e⟩:=x;exact ⟨_,e⟩
  | xd fs=>obtain ⟨_,⟨_,_,_,e,_⟩,_⟩:=x;exact ⟨_,e⟩
  | rng lo hi=>obtain ⟨_,_,_,e⟩:=x;exact ⟨_,e⟩
  | frz ob u=>obtain ⟨e,_⟩:=x;exact ⟨_,e⟩
  | tbl ps=>exact ⟨_,(show h.get? a=some _ from x)⟩
  | met f y=>exact ⟨_,(show h.get? a=some _ from x)⟩
  | ext φ=>obtain ⟨_,⟨_,e⟩,_⟩:=x;exact ⟨_,e⟩
theorem HOk.none_of {P:Program} {w:World} {H:Hp} {h:Heap} {a:Addr} (x:HOk P w H h) (e:h.get? a=none):H a=none:=by
  cases q:H a with
  | none=>rfl
  | some u=>
    obtain ⟨o,h1⟩:=(x a u q).get
    rw [e] at h1
    cases h1
def strKeysB (K:PySem.W.Frag) (N:Addr):Bool:=match K.lookup N with
  | some ⟨_,_,.dict es _,_⟩=>es.toList.all fun e=>match e.key with
    | .str _ _=>true
    | _=>false
  | _=>false
theorem ns_of {K:PySem.W.Frag} {h:Heap} {N:Addr} (X:K.In h) (b:strKeysB K N=true):∃ mN,h.Ns N mN/\∀ name r,PySem.W.nsIn K N name=some r->mN name=r:=by
  unfold strKeysB at b
  split at b
  · rename_i c d es ep sl ho
    refine ⟨fun x=>nsFind es x,⟨_,es,ep,X _ _ ho,rfl,fun e he=>?_,fun _=>rfl⟩,fun name r hr=>?_⟩
    · have q:=List.all_eq_true.mp b e (by simpa using he)
      split at q
      · rename_i n t hk
        exact ⟨n,t,hk⟩
      · cases q
    · unfold PySem.W.nsIn at hr
      rw [ho] at hr
      dsimp only at hr
      show nsFind es name=r
      unfold nsFind findBy
      rw [<- Array.find?_toList]
      split at hr
      · rename_i e he
        rw [he]
        cases hr
        rfl
      · rename_i he
        rw [he]
        split at hr
        · cases hr
        · cases hr
          rfl
  · cases b
structure XCls (K:PySem.W.Frag) (C N fI:Addr):Prop where
  obj:∃ (nm q:Str) (bs:List Value) (sn:List Str) (sub:List Value) (ab:Bool) (col:Option Bool) (dd:Option Addr) (k0 k1 k2 k3 k5:Option Value),K.lookup C=some (excClassObj nm q C N bs LX.bmE true sn sub ab col dd k0 k1 k2 k3 k5 "Exception.__new__")
  sk:strKeysB K N=true
  ini:PySem.W.nsIn K N "__init__"=some (some (.ref fI))
  np:PySem.W.nsIn K N "place"=some none
  nsa:PySem.W.nsIn K N "__setattr__"=some none
  nga:PySem.W.nsIn K N "__getattribute__"=some none
  ngh:PySem.W.nsIn K N "__getattr__"=some none
  kp:PySem.W.keepIn K (.ref C)=true
  fn:PySem.W.isFn K (.ref fI)=true
abbrev xfs (i:Int):List (Str × V):=[("place",.int i)]
def CXF (P:Program) (w:World) (C:Addr):CXT:=fun outer H s E e s'=>∃ (ea d T:Addr) (H':Hp) (i:Int),e=.ref ea/\LX.Fly s'.heap ea (.ref C) d T .none/\s.heap.get? ea=none/\s.heap.get? T=none/\H' ea=none/\H' T=none ∧
  s'.os=s.os/\AllBare s'.gens/\Un (frs outer) [] H H' s.heap s'.heap/\HOk P w H' s'.heap/\H' d=some (.xd (xfs i))/\E (.ref C) (some d) H'
section
variable {P:Program} {w:World} {K:PySem.W.Frag} {mg:Str->Option Value} {base:Heap} {N:List Str} {qual:Str} {scope:Scope} {f C ea d:Addr} {cd:Value} {A:Around} {outer:List Env} {s s':Shared} {H H':Hp} {E:XK} {pins:List (Addr × Obj)} {σ:St} {i:Int} {xs:List Addr}
theorem xleave (I:Inv (cxOf (CXF P w C) P w K mg base N qual scope f cd A outer s H E) pins σ H' s') (O:LX.Out s'.heap ea (.ref C) d xs) (hx:∀ b ∈ xs,s.heap.get? b=none/\H' b=none)
    (hd:H' d=some (.xd (xfs i))) (hE:E (.ref C) (some d) H'):(cxOf (CXF P w C) P w K mg base N qual scope f cd A outer s H E).xe (.ref ea) s':=by
  have hea:ea ∈ xs:=by cases O <;> simp
  refine LX.leaves (env:=envOfC qual scope s.heap.objs.size f cd) (outer:=outer) (base:=base) I.ok.frames I.stack rfl O fun h' T' kp hT F=>?_
  have above:s.heap.objs.size<=s.heap.objs.size:=Nat.le_refl _
  have nfr:∀ b o,s.heap.get? b=some o->b ∉ frs outer->b ∉ LX.fra (envOfC qual scope s.heap.objs.size f cd::outer):=fun b o e hb m=>by
    have m':b ∈ s.heap.objs.size::frs outer:=m
    rcases List.mem_cons.mp m' with z | z
    · exact absurd (Heap.lt_size e) (by rw [z];exact Nat.lt_irrefl _)
    · exact hb z
  have nxs:∀ b o,s.heap.get? b=some o->b ∉ xs:=fun b o e m=>by rw [(hx b m).1] at e;cases e
  have B:Un (frs outer) [] H H' s.heap s'.heap:=I.base
  have trk:∀ b o u,H' b=some u->s'.heap.get? b=some o->h'.get? b=some o:=fun b o u e ho=>by
    refine (kp b o ho fun m=>?_).1 fun m=>?_
    · rw [(hx b m).2] at e;cases e
    · have z:H' b=none:=I.stkFree b m
      rw [z] at e;cases e
  refine ⟨ea,d,T',H',i,rfl,F,(hx ea hea).1,?_,(hx ea hea).2,I.hok.none_of hT,I.os,I.bare,⟨fun b o e n hb he=>?_,fun b o e n hb he=>?_,fun b o e n he=>B.free b o e n he,fun b o e he=>?_,B.tups,B.frzs,B.tbls⟩,fun b o e=>?_,hd,hE⟩
  · cases q:s.heap.get? T' with
    | none=>rfl
    | some o=>
      obtain ⟨o',e'⟩:=B.there T' o q (by simp)
      rw [hT] at e';cases e'
  · exact (kp b o (B.keep b o e n hb he) (nxs b o e)).1 (nfr b o e hb)
  · obtain ⟨sl,e1⟩:=B.slot b o e n hb he
    obtain ⟨sl',e2⟩:=(kp b _ e1 (nxs b o e)).2
    exact ⟨sl',e2⟩
  · obtain ⟨o',e1⟩:=B.there b o e he
    obtain ⟨sl',e2⟩:=(kp b _ e1 (nxs b o e)).2
    exact ⟨_,e2⟩
  · refine (I.hok b o e).stay (fun c u hc q=>?_) (fun _ q=>q) fun _ _ q=>q
    rcases hc with z | z
    · rw [z] at q ⊢;exact trk b u o e q
    · exact trk c u _ z q
theorem xpass:Passes (CXF P w C) (cxOf (CXF P w C) P w K mg base N qual scope f cd A outer s H E) E:=by
  intro pins σ Hc sc e s' I h
  obtain ⟨ea,d,T,H',i,rfl,F,e1,e2,n1,n2,ho,hg,un,hok,hd,hE⟩:=h
  have I':Inv (cxOf (CXF P w C) P w K mg base N qual scope f cd A outer s H E) pins σ H' s':=I.call' (ch:=[]) ho un hok hg (fun b z=>absurd z (by simp))
  have B:Un (frs outer) [] H Hc s.heap sc.heap:=I.base
  have old:∀ b,sc.heap.get? b=none->s.heap.get? b=none:=fun b z=>by
    cases q:s.heap.get? b with
    | none=>rfl
    | some o=>
      obtain ⟨o',e'⟩:=B.there b o q (by simp)
      rw [z] at e';cases e'
  refine xleave I' (.next F) (fun b hb=>?_) hd hE
  rcases List.mem_cons.mp hb with rfl | hb
  · exact ⟨old _ e1,n1⟩
  · rw [List.mem_singleton.mp hb]
    exact ⟨old _ e2,n2⟩
theorem xown:PassesOwn (model P w) (cxOf (CXF P w C) P w K mg base N qual scope f cd A outer s H E).A (cxOf (CXF P w C) P w K mg base N qual scope f cd A outer s H E).env (cxOf (CXF P w C) P w K mg base N qual scope f cd A outer s H E).xe:=
  PassesOwn.leaving
end
end L2
namespace L2
open PySem PySem.Spec PyProof.Rows
theorem isFn_cls {K:PySem.W.Frag} {a:Addr} {o:Obj} (h:PySem.W.isFn K (.ref a)=true) (l:K.lookup a=some o):o.cls=.type "function":=by
  have e:(K.lookup a).map (·.cls)=some (.type "function"):=beq_iff_eq.mp h
  rw [l] at e
  exact Option.some.inj e
theorem Inv.laid0 {X:Cx} {pins:List (Addr × Obj)} {σ:St} {H:Hp} {s:Shared} {h':Heap} {a:Addr} {o:HO} {t':Nat} (I:Inv X pins σ H s) (k:∀ b u,s.heap.get? b=some u->h'.get? b=some u) (hg:s.heap.get? a=none)
    (new:ObjOk X.prog X.w (upd H a o) h' a o):Inv X pins σ (upd H a o) { s with heap:=h',toks:=t' }:=by
  have hn:=I.hok.none_of hg
  have ne:∀ b u,s.heap.get? b=some u->b ≠ a:=fun b u e z=>by rw [z,hg] at e;cases e
  refine I.un ⟨fun b u q _ _ _=>k b u q,fun b u q _ _ _=>⟨u.slots,k b u q⟩,fun b u q n _=>by rw [upd_ne (ne b u q)];exact n,fun b u q _=>⟨u,k b u q⟩,fun b xs q=>by rw [upd_ne (ne_of_none q hn)];exact q,
    fun b u xs q=>by rw [upd_ne (ne_of_none q hn)];exact q,fun b ps q=>⟨#[],by rw [upd_ne (ne_of_none q hn),q];simp⟩⟩ fun b u e=>?_
  by_cases hb:b=a
  · subst hb;rw [upd_same] at e;cases e;exact new
  · rw [upd_ne hb] at e
    exact (I.hok b u e).stay (fun c v _ q=>k c v q) (fun c q=>by rw [upd_ne (ne_of_none q hn)];exact q) fun c xs q=>by rw [upd_ne (ne_of_none q hn)];exact q
section
variable {P:Program} {w:World} {K:PySem.W.Frag} {mg:Str->Option Value} {base:Heap}
theorem run_init {C N fI e:Addr} {fd:FuncData} {sI:Stmt} {q:Str} {p1 p2 p3 p4:Pos} {A:Around} {outer:List Env} {s:Shared} {H:Hp} {o:Obj} {u:Value} {i:Int} {Q:Shared->Prop} (XC:XCls K C N fI) (F:Fun K "__init__" q sI fI fd) (S:FnScope ["self","place"] ["self","place"] (defScope sI))
    (hbd:defBody sI=[.Assign [.Attribute (.Name "self" p1) "place" p2] (.Name "place" p3) p4]) (hl:(defScope sI).names.lookup ("self":Str)=some .local/\(defScope sI).names.lookup ("place":Str)=some .local) (bd:Binds K fd ["self","place"] []) (hr:Room 1 A) (e0:Env0 P w K mg base A outer s H)
    (ho:s.heap.get? e=some o) (hoc:o.cls=.ref C) (hod:o.dict=none) (hnc:∀ c,o.data ≠ .cls c) (hu:RelV (.int i) u)
    (k:∀ s' d,(∀ b v,b ≠ e->s.heap.get? b=some v->s'.heap.get? b=some v)->s'.os=s.os->AllBare s'.gens->s'.heap.get? e=some { o with dict:=some d }->d ≠ e->s.heap.get? d=none->(∃ u',RelV (.int i) u'/\s'.heap.Ns1 d (fun y=>if y="place" then some u' else none))->Q s'):
    codeAny (model P w) A (.call (.ref fI) ⟨[.ref e,u],[]⟩) (fun r s'=>r=.ok (.ret .none)/\Q s') s:=by
  obtain ⟨oc,od,kV,doc,pm,an,cdv,ct,osl,rfl,lk,hcd⟩:=F.ex
  have KX:K.In s.heap:=e0.mod.kin.keeps fun b o e=>(e0.bs b o e).1
  have lim:s.heap.NoLimit:=e0.mod.nolimit.keeps fun b o e=>(e0.bs b o e).1
  have hb:=bd s [.ref e,u] KX rfl
  have hkind:∀ y ∈ (["self","place"]:List Str).zip [Value.ref e,u],(defScope sI).names.lookup y.1=some .local\/((defScope sI).names.lookup y.1=some .cell/\((cellsFrom (s.heap.objs.size+1) (defScope sI).names []).lookup y.1).isSome=true):=fun ⟨n,v⟩ hy=>by
    rcases S.par n (List.of_mem_zip hy).1 with q | q
    · exact .inl q
    · exact .inr ⟨q,PySem.W.cellsFrom_some _ _ _ (.inl q)⟩
  refine codeAny_call_function hr.depth (KX _ _ lk) rfl S.co S.gen rfl (PySem.W.codeRec_of KX hcd) (hb _ _ _ _ ?_)
  refine wpAny_newFunctionEnv_cells S.kind hkind fun env he s1 x=>?_
  subst he
  refine ⟨lim.keeps x.toInCall.keep,codeAny_func ?_⟩
  have I:Inv (cxOf CX0 P w K mg base ["self","place"] q (defScope sI) fI cdv A outer s H E0) [] (start ["self","place"] [.ref e,.int i]) H s1:=inv_start (us:=[.ref e,u]) S hr.hd e0 rfl (.cons rfl (.cons hu .nil)) x
  have ho1:s1.heap.get? e=some o:=x.toInCall.keep _ _ ho
  have keep1:∀ b v,s.heap.get? b=some v->s1.heap.get? b=some v:=x.toInCall.keep
  have os1:s1.os=s.os:=I.os
  have ba1:AllBare s1.gens:=I.bare
  obtain ⟨m,hn,hlk⟩:=I.loc
  have v1:=hlk 1 "place" (.int i) rfl rfl (.inl hl.2)
  have v0:=hlk 0 "self" (.ref e) rfl rfl (.inl hl.1)
  rw [hbd]
  obtain ⟨u1,r1,l1⟩:=v1
  obtain ⟨u0,r0,l0⟩:=v0
  have gone:∀ {x:Str},(defScope sI).names.lookup x=some .local->¬ ((defScope sI).names.lookup x=some .cell\/(defScope sI).names.lookup x=some .free):=fun {x} h z=>by
    rcases z with z | z <;> (rw [h] at z;cases z)
  obtain ⟨k1,m1⟩:=l1.resolve_right fun z=>gone hl.2 z.1
  obtain ⟨k0,m0⟩:=l0.resolve_right fun z=>gone hl.1 z.1
  obtain rfl:u0=.ref e:=r0
  have hK1:K.In s1.heap:=I.kIn
  obtain ⟨mN,hNs,hNl⟩:=ns_of hK1 XC.sk
  obtain ⟨nm,qq,bs,sn,sub,ab,col,dd,k0',k1',k2',k3',k5',hC⟩:=XC.obj
  have hC1:=hK1 _ _ hC
  refine wpAny_execs_cons (plainObj_wpAny_Assign_Attribute (wpAny_Name (wpAny_loadName_local I.ok.kind k1 hn m1 (wpAny_Name (wpAny_loadName_local I.ok.kind k0 hn m0 ?_) (by decide))) (by decide)))
  obtain ⟨h1,g1,d1,t1,os1'⟩:=s1
  refine LX.store_new1 PySem.F.store_Exception hC1 hNs (hNl _ _ XC.nsa) (hNl _ _ XC.np) ?_ ho1 hoc hod hnc fun h' tk' d a1 a2 a3 a4 a5=>wpAny_execs_nil ?_
  · rw [typeLookup_type,builtinLookup_eq_fast];kernel_rfl
  · refine ⟨rfl,k _ d (fun b v hb hv=>a5 b v hb (keep1 b v hv)) os1 ba1 a1 a2 ?_ ⟨u1,r1,a4⟩⟩
    cases q:s.heap.get? d with
    | none=>rfl
    | some v=>
      have:=keep1 d v q
      rw [show (Shared.mk h1 g1 d1 t1 os1').heap.get? d=h1.get? d from rfl,a3] at this
      cases this
structure XTxt (K:PySem.W.Frag) (C:Addr) (sI:Stmt):Prop where
  ex:∃ (N fI:Addr) (fd:FuncData) (q:Str) (p1 p2 p3 p4:Pos),XCls K C N fI/\Fun K "__init__" q sI fI fd/\FnScope ["self","place"] ["self","place"] (defScope sI)/\defBody sI=[.Assign [.Attribute (.Name "self" p1) "place" p2] (.Name "place" p3) p4] ∧
    ((defScope sI).names.lookup ("self":Str)=some .local/\(defScope sI).names.lookup ("place":Str)=some .local)/\Binds K fd ["self","place"] []
def tRaise (C:Addr) (E:XK) (te:TE):TS:=fun _ σ H=>te σ H fun x H1=>∃ i,x=.int i/\∀ d,H1 d=none->E (.ref C) (some d) (upd H1 d (.xd (xfs i)))
variable {N:List Str} {qual:Str} {scope:Scope} {f C:Addr} {cd:Value} {A:Around} {outer:List Env} {s₀:Shared} {H₀:Hp} {E:XK} {sI:Stmt}
theorem ps_raise {x:Str} {p cpos pos:Pos} {e:Expr} {te:TE} (XT:XTxt K C sI)
    (hr:Room 2 (cxOf (CXF P w C) P w K mg base N qual scope f cd A outer s₀ H₀ E).A) (hg:Gl (cxOf (CXF P w C) P w K mg base N qual scope f cd A outer s₀ H₀ E) x) (hm:mg x=some (.ref C))
    (he:PE (cxOf (CXF P w C) P w K mg base N qual scope f cd A outer s₀ H₀ E) e te) (hdb:(x == ("__debug__":Str))=false:=by decide)
    (hst:starEach [e] (cxOf (CXF P w C) P w K mg base N qual scope f cd A outer s₀ H₀ E).env=[(false,eval e (cxOf (CXF P w C) P w K mg base N qual scope f cd A outer s₀ H₀ E).env)]:=by rfl):
    PS (cxOf (CXF P w C) P w K mg base N qual scope f cd A outer s₀ H₀ E) (.Raise (some (.Call (.Name x p) [e] [] cpos)) none pos) (tRaise C E te):=by
  generalize hX:cxOf (CXF P w C) P w K mg base N qual scope f cd A outer s₀ H₀ E=X at *
  have hK:X.K=K:=by rw [<- hX];rfl
  have hP:X.prog=P:=by rw [<- hX];rfl
  have hw:X.w=w:=by rw [<- hX];rfl
  have hmg:X.mg=mg:=by rw [<- hX];rfl
  have hcalm:X.calm=true:=by rw [<- hX];rfl
  have hs0:X.s_0=s₀:=by rw [<- hX];rfl
  have hex:X.ex=[]:=by rw [<- hX];rfl
  obtain ⟨NN,fI,fd,q,p1,p2,p3,p4,XC,F,S,hbd,hl,bd⟩:=XT.ex
  intro pins s σ H D I h
  have hh:X.A.handled=none:=I.ok.hd hcalm
  have KX:K.In s.heap:=by rw [<- hK];exact I.kIn
  obtain ⟨nm,qq,bs,sn,sub,ab,col,dd,k0',k1',k2',k3',k5',hC⟩:=XC.obj
  have key:wpAny (model X.prog X.w) X.A (eval (.Call (.Name x p) [e] [] cpos) X.env) (fun v s1=>∃ ea t d,v=.ref ea/\s1.heap.get? C=some (excClassObj nm qq C NN bs LX.bmE true sn sub ab col dd k0' k1' k2' k3' k5' "Exception.__new__")/\s1.heap.get? ea=some (LX.xrec C t d)/\X.xe (.ref ea) s1) X.xe s:=by
    refine wpAny_Call_Name_kw (ld_glob I hg (by rw [hmg];exact hm) ?_ hdb)
    refine PySem.W.callWith_K (K:=K) (h₀:=X.base) (by rw [<- hK];exact I.ok.mod.kin) XC.kp (thn (pa_cons (t:=tNil) he pa_nil hst cpos pins s σ H (fun vs H1=>match vs with
      | [x]=>∃ i,x=.int i/\∀ d,H1 d=none->E (.ref C) (some d) (upd H1 d (.xd (xfs i)))
      | _=>False) I h) fun us s1 ⟨vs,H1,I1,r,hq⟩=>⟨by rw [<- hK];exact I1.kIn,?_⟩) hst rfl
    cases r with
    | nil=>exact hq.elim
    | @cons v u vs' us' rv rr=>
      cases rr with
      | cons=>exact hq.elim
      | nil=>
        obtain ⟨i,rfl,hq⟩:∃ i,v=.int i/\∀ d,H1 d=none->E (.ref C) (some d) (upd H1 d (.xd (xfs i))):=hq
        have KX1:K.In s1.heap:=by rw [<- hK];exact I1.kIn
        obtain ⟨mN,hNs,hNl⟩:=ns_of KX1 XC.sk
        have hC1:=KX1 _ _ hC
        obtain ⟨oc,od,kV,doc,pm,an,cdv,ct,osl,efd,lk,hcd⟩:=F.ex
        have hfI:=KX1 _ _ lk
        have e1:s1=⟨s1.heap,s1.gens,s1.drawn,s1.toks,s1.os⟩:=rfl
        rw [e1]
        show wpAny (model X.prog X.w) X.A (call (.ref C) [u]) _ _ _
        refine wpAny_call_exc_init (oI:=⟨oc,od,.func fd,osl⟩) PySem.F.excBase_Exception hC1 hNs (hNl _ _ XC.ini) hfI ?_ (fun h' ea hm'=>?_) (by show 1<=sizeLine;decide)
        · exact isFn_cls XC.fn lk
        · obtain ⟨t,ht,htn,htt⟩:=hm'.there
          have I2:Inv X pins σ H1 { s1 with heap:=h' }:=I1.kept (t':=s1.toks) fun b o e=>hm'.keeps b o e
          have E2:=I2.env0.make C [u] []
          rw [hP,hw,hK,hmg] at E2
          rw [hP,hw]
          refine wpAny_call (codeAny_mono (run_init (Q:=fun s'=>∃ ea' t d,Value.ref ea=.ref ea'/\s'.heap.get? C=some (excClassObj nm qq C NN bs LX.bmE true sn sub ab col dd k0' k1' k2' k3' k5' "Exception.__new__")/\s'.heap.get? ea'=some (LX.xrec C t d)/\X.xe (.ref ea') s') XC F S hbd hl bd (hr.make C [u] []) E2 ht rfl rfl (fun c z=>nomatch z) rv fun s' d kp os' ba' a1 a2 a3 a4=>?_) fun r s' hrs=>?_)
          · have neC:C ≠ ea:=fun z=>by rw [z,hm'.new] at hC1;cases hC1
            have hCh:h'.get? C=_:=hm'.keeps _ _ hC1
            obtain ⟨u',ru',hns⟩:=a4
            have kall:∀ b v,s1.heap.get? b=some v->s'.heap.get? b=some v:=fun b v hv=>kp b v (fun z=>by rw [z,hm'.new] at hv;cases hv) (hm'.keeps b v hv)
            have dn:s1.heap.get? d=none:=by
              cases q:s1.heap.get? d with
              | none=>rfl
              | some v=>
                have:=hm'.keeps _ _ q
                rw [show ({ s1 with heap:=h' }:Shared).heap.get? d=h'.get? d from rfl,this] at a3
                cases a3
            have I3:Inv X pins σ (upd H1 d (.xd (xfs i))) s':=by
              have J:=I1.laid0 (h':=s'.heap) (a:=d) (o:=.xd (xfs i)) (t':=s'.toks) kall dn ?_
              · obtain ⟨ok,os,bare,base,loc,cell,free,freeC,pin,hok,len⟩:=J
                exact ⟨ok,by rw [show s'.os=s1.os from os'];exact I1.os,ba',base,loc,cell,free,freeC,pin,hok,len⟩
              · refine ⟨_,hns,fun g=>?_⟩
                show RelO (List.lookup g [(("place":Str),V.int i)]) (if g="place" then some u' else none)
                by_cases hg':g="place"
                · subst hg'
                  rw [if_pos rfl]
                  show RelO (List.lookup ("place":Str) [(("place":Str),V.int i)]) _
                  simp only [List.lookup,beq_self_eq_true]
                  exact ru'
                · rw [if_neg hg']
                  have:(g == ("place":Str))=false:=beq_eq_false_iff_ne.mpr hg'
                  simp only [List.lookup,this]
                  trivial
            refine ⟨ea,t,d,rfl,kp _ _ neC hCh,a1,?_⟩
            have hE:=hq d (I1.hok.none_of dn)
            have e0n:s₀.heap.get? ea=none:=by
              cases q:s₀.heap.get? ea with
              | none=>rfl
              | some v=>
                have q':X.s_0.heap.get? ea=some v:=by rw [hs0];exact q
                obtain ⟨o',e'⟩:=I1.base.there ea v q' (by rw [hex];simp)
                rw [hm'.new] at e'
                cases e'
            subst hX
            refine xleave (i:=i) I3 (.first a1 rfl) (fun b hb=>?_) upd_same hE
            rw [List.mem_singleton.mp hb]
            exact ⟨e0n,by rw [upd_ne (Ne.symm a2)];exact I1.hok.none_of hm'.new⟩
          · obtain ⟨rfl,hrs⟩:=hrs
            exact ⟨rfl,hrs⟩
  rw [arm_exec_Raise]
  refine wpAny_bind (wpAny_standAt (LX.raise_stmt (C:=C) (nm:=nm) (q:=qq) (N:=NN) (bs:=bs) (hdct:=true) (sn:=sn) (sub:=sub) (ab:=ab) (col:=col) (dd:=dd) (k0:=k0') (k1:=k1') (k2:=k2') (k3:=k3') (k5:=k5') (newId:="Exception.__new__") hh (wpAny_bind (thn key fun v s1 hv=>wpAny_bind (wpAny_standAt (wpAny_pure hv))))))
end
end L2
namespace L2
open PySem PySem.Spec PyProof.Rows
section
variable {X:Cx}
abbrev Cx.body (X:Cx) (pn:List (Addr × Obj)) (E1:Value->Shared->Prop):Cx:={ X with pn:=X.pn++pn,xe:=E1 }
theorem Cx.Ok.body (ok:X.Ok) (pn:List (Addr × Obj)) (E1:Value->Shared->Prop):(X.body pn E1).Ok:=
  ⟨ok.mod,ok.kind,ok.glob,ok.blt,ok.above,ok.inj,ok.has,ok.cab,ok.hd,ok.frames,ok.stk,ok.exf,ok.bs,ok.bsz,ok.noex,ok.exfs,ok.funs,ok.frf⟩
theorem Cx.Ok.unbody {pn:List (Addr × Obj)} {E1:Value->Shared->Prop} (ok:(X.body pn E1).Ok):X.Ok:=
  ⟨ok.mod,ok.kind,ok.glob,ok.blt,ok.above,ok.inj,ok.has,ok.cab,ok.hd,ok.frames,ok.stk,ok.exf,ok.bs,ok.bsz,ok.noex,ok.exfs,ok.funs,ok.frf⟩
variable {pn pins:List (Addr × Obj)} {σ:St} {H:Hp} {s:Shared} {E1:Value->Shared->Prop}
theorem Inv.body (I:Inv X pn σ H s) (E1:Value->Shared->Prop):Inv (X.body pn E1) [] σ H s:=
  ⟨I.ok.body pn E1,I.os,I.bare,I.base,I.loc,I.cell,I.free,I.freeC,fun p hp=>I.pin p (by rw [List.append_nil] at hp;exact hp),I.hok,I.len⟩
theorem Inv.unbody (I:Inv (X.body pn E1) pins σ H s):Inv X pn σ H s:=
  ⟨I.ok.unbody,I.os,I.bare,I.base,I.loc,I.cell,I.free,I.freeC,fun p hp=>I.pin p (List.mem_append_left _ hp),I.hok,I.len⟩
theorem SP.unbody {D:Ends} {f:Flow} (h:SP (X.body pn E1) pins D f s):SP X pn D f s:=by
  cases f with
  | next=>obtain ⟨σ',H',I,q⟩:=h;exact ⟨σ',H',I.unbody,q⟩
  | brk=>obtain ⟨σ',H',I,q⟩:=h;exact ⟨σ',H',I.unbody,q⟩
  | cont=>obtain ⟨σ',H',I,q⟩:=h;exact ⟨σ',H',I.unbody,q⟩
  | ret u=>obtain ⟨v,σ',H',I,r,q⟩:=h;exact ⟨v,σ',H',I.unbody,r,q⟩
def Taken (X:Cx) (C:Addr) (pn:List (Addr × Obj)) (E:XK):Value->Shared->Prop:=fun e s'=>∃ (ea d T:Addr) (σ:St) (H':Hp) (i:Int),e=.ref ea/\Inv X pn σ H' s'/\LX.Fly s'.heap ea (.ref C) d T .none ∧
  (∀ b ∈ [ea,T],X.s_0.heap.get? b=none/\H' b=none/\∀ p ∈ X.pn++pn,p.1 ≠ b)/\H' d=some (.xd (xfs i))/\E (.ref C) (some d) H'
theorem xpass_try {P:Program} {w:World} {C:Addr} {E:XK} (hP:X.prog=P) (hw:X.w=w) (hex:X.ex=[]):Passes (CXF P w C) (X.body pn (Taken X C pn E)) E:=by
  subst hP hw
  intro pins σ Hc sc e s' I h
  obtain ⟨ea,d,T,H',i,rfl,F,e1,e2,n1,n2,ho,hg,un,hok,hd,hE⟩:=h
  have I':Inv (X.body pn (Taken X C pn E)) pins σ H' s':=I.call' (ch:=[]) ho un hok hg (fun b z=>absurd z (by simp))
  have B:=I.unbody.base
  have old:∀ b,sc.heap.get? b=none->X.s_0.heap.get? b=none/\∀ p ∈ X.pn++pn,p.1 ≠ b:=fun b z=>by
    refine ⟨?_,fun p hp q=>?_⟩
    · cases q:X.s_0.heap.get? b with
      | none=>rfl
      | some o=>
        obtain ⟨o',e'⟩:=B.there b o q (by rw [hex];simp)
        rw [z] at e';cases e'
    · have r:=(I.pin p (List.mem_append_left _ hp)).1
      rw [q,z] at r
      cases r
  refine ⟨ea,d,T,σ,H',i,rfl,I'.unbody,F,fun b hb=>?_,hd,hE⟩
  rcases List.mem_cons.mp hb with rfl | hb
  · exact ⟨(old _ e1).1,n1,(old _ e1).2⟩
  · rw [List.mem_singleton.mp hb]
    exact ⟨(old _ e2).1,n2,(old _ e2).2⟩
theorem Inv.landed {h':Heap} {xs:List Addr} {fs:List Addr} (I:Inv X pn σ H s) (hex:X.ex=[]) (hfs:∀ b ∈ fs,b ∈ frs X.stack) (xsf:∀ b ∈ xs,∃ o vs,s.heap.get? b=some o/\o.data=.fields vs)
    (hx:∀ b ∈ xs,X.s_0.heap.get? b=none/\H b=none/\∀ p ∈ X.pn++pn,p.1 ≠ b) (kp:LX.Kept fs xs s.heap h'):Inv X pn σ H { s with heap:=h' }:=by
  have B:Un X.fs X.ex X.H_0 H X.s_0.heap s.heap:=I.base
  have nxs:∀ b o,X.s_0.heap.get? b=some o->b ∉ xs:=fun b o e m=>by rw [(hx b m).1] at e;cases e
  have nfr:∀ b,b ≠ X.env.locals->b ∉ X.fs->b ∉ fs:=fun b h1 h2 m=>by
    rcases List.mem_cons.mp (I.stkSub b (hfs b m)) with z | z
    · exact h1 z
    · exact h2 z
  have neL:∀ b o,X.s_0.heap.get? b=some o->b ≠ X.env.locals:=fun b o e=>Nat.ne_of_lt (Nat.lt_of_lt_of_le (Heap.lt_size e) I.ok.above)
  have nx2:∀ b o,s.heap.get? b=some o->(∀ vs,o.data ≠ .fields vs)->b ∉ xs:=fun b o e hn m=>by
    obtain ⟨o',vs,e',hd⟩:=xsf b m
    rw [e] at e';cases e'
    exact hn vs hd
  have trk:∀ b o u,H b=some u->s.heap.get? b=some o->h'.get? b=some o:=fun b o u e ho=>by
    refine (kp b o ho fun m=>?_).1 fun m=>?_
    · rw [(hx b m).2.1] at e;cases e
    · have z:H b=none:=I.stkFree b (hfs b m)
      rw [z] at e;cases e
  have cellK:∀ c v,s.heap.IsCell c v->h'.IsCell c v:=fun c v ⟨o,ho,hd⟩=>by
    obtain ⟨sl,e⟩:=(kp c o ho (nx2 c o ho fun vs z=>by rw [hd] at z;cases z)).2
    exact ⟨_,e,hd⟩
  refine ⟨I.ok,I.os,I.bare,⟨fun b o e n hb he=>?_,fun b o e n hb he=>?_,fun b o e n he=>B.free b o e n he,fun b o e he=>?_,B.tups,B.frzs,B.tbls⟩,?_,fun x c e=>?_,I.free,I.freeC,fun p hp=>?_,fun b o e=>?_,I.len⟩
  · exact (kp b o (B.keep b o e n hb he) (nxs b o e)).1 (nfr b (neL b o e) hb)
  · obtain ⟨sl,e1⟩:=B.slot b o e n hb he
    obtain ⟨sl',e2⟩:=(kp b _ e1 (nxs b o e)).2
    exact ⟨sl',e2⟩
  · obtain ⟨o',e1⟩:=B.there b o e he
    obtain ⟨sl',e2⟩:=(kp b _ e1 (nxs b o e)).2
    exact ⟨_,e2⟩
  · obtain ⟨m,⟨o,es,ep,ho,hd,r⟩,hl⟩:=I.loc
    obtain ⟨sl,e⟩:=(kp _ o ho (nx2 _ o ho fun vs z=>by rw [hd] at z;cases z)).2
    refine ⟨m,⟨_,es,ep,e,hd,r⟩,fun i x v e1 e2 e3=>?_⟩
    obtain ⟨u,ru,l⟩:=hl i x v e1 e2 e3
    refine ⟨u,ru,?_⟩
    rcases l with l | ⟨k,c,e,z⟩
    · exact .inl l
    · exact .inr ⟨k,c,e,cellK c _ z⟩
  · obtain ⟨v,z⟩:=I.cell x c e
    exact ⟨v,cellK c v z⟩
  · obtain ⟨e,n,ne,nf,dd⟩:=I.pin p hp
    exact ⟨(kp p.1 p.2 e fun m=>(hx p.1 m).2.2 p hp rfl).1 (nfr p.1 ne nf),n,ne,nf,dd⟩
  · refine (I.hok b o e).stay (fun c u hc q=>?_) (fun _ q=>q) fun _ _ q=>q
    rcases hc with z | z
    · rw [z] at q ⊢;exact trk b u o e q
    · exact trk c u _ z q
end
abbrev Cx.hand (X:Cx) (pn:List (Addr × Obj)) (ea:Addr) (oe:Obj):Cx:={ X with A:=X.A.mark (some (.ref ea)),calm:=false,pn:=X.pn++(pn++[(ea,oe)]),xe:=fun _ _=>False }
section
variable {X:Cx} {pn pins:List (Addr × Obj)} {σ:St} {H:Hp} {s:Shared} {ea:Addr} {oe:Obj}
theorem Cx.Ok.hand (ok:X.Ok) (pn:List (Addr × Obj)) (ea:Addr) (oe:Obj):(X.hand pn ea oe).Ok:=
  ⟨ok.mod,ok.kind,ok.glob,ok.blt,ok.above,ok.inj,ok.has,ok.cab,(fun z=>nomatch z),ok.frames,ok.stk,ok.exf,ok.bs,ok.bsz,ok.noex,ok.exfs,ok.funs,ok.frf⟩
theorem Inv.hand (I:Inv X pn σ H s) (hp:s.heap.get? ea=some oe/\H ea=none/\ea ≠ X.env.locals/\ea ∉ X.fs/\∀ v,oe.data ≠ .cell v):Inv (X.hand pn ea oe) [] σ H s:=
  ⟨I.ok.hand pn ea oe,I.os,I.bare,I.base,I.loc,I.cell,I.free,I.freeC,fun p hp'=>by
    rw [List.append_nil] at hp'
    rcases List.mem_append.mp hp' with z | z
    · exact I.pin p (List.mem_append_left _ z)
    · rcases List.mem_append.mp z with z | z
      · exact I.pin p (List.mem_append_right _ z)
      · rw [List.mem_singleton.mp z];exact hp,I.hok,I.len⟩
theorem Inv.unhand (ok:X.Ok) (I:Inv (X.hand pn ea oe) pins σ H s):Inv X pn σ H s:=
  ⟨ok,I.os,I.bare,I.base,I.loc,I.cell,I.free,I.freeC,fun p hp=>I.pin p (List.mem_append_left _ (by
    rcases List.mem_append.mp hp with z | z
    · exact List.mem_append_left _ z
    · exact List.mem_append_right _ (List.mem_append_left _ z))),I.hok,I.len⟩
def blank (n:Nat):St:=List.replicate n none
theorem blank_no {n i:Nat} {v:V} (h:(blank n)[i]?=some (some v)):False:=by
  unfold blank at h
  rw [List.getElem?_replicate] at h
  split at h <;> cases h
end
end L2
namespace L2
open PySem PySem.Spec PyProof.Rows
def tTry0 (C:Addr) (E:XK) (n:Nat) (t:TS) (th:TS):TS:=fun D σ H=>t D σ H/\∀ d H' i,H' d=some (.xd (xfs i))->E (.ref C) (some d) H'->th D (blank n) H'
theorem ps_try0 {X:Cx} {C:Addr} {sI:Stmt} {x:Str} {body:List Stmt} {b0:Stmt} {suite:List Stmt} {t:TS} {th:TS} {E:XK} {tp hpos pos:Pos}
    (XT:XTxt X.K C sI) (hex:X.ex=[]) (hstk:X.stack=X.env::X.outer) (hfr:X.env.frame=some X.env.locals) (hg:Gl X x) (hm:X.mg x=some (.ref C))
    (hb:∀ pn,PSs (X.body pn (Taken X C pn E)) body t) (hh:∀ pn ea d vs sl,PSs (X.hand pn ea ⟨.ref C,some d,.fields vs,sl⟩) (b0::suite) th) (hdb:(x == ("__debug__":Str))=false:=by decide):
    PS X (.Try body [.ExceptHandler (some (.Name x tp)) none (b0::suite) hpos] [] [] pos) (tTry0 C E X.N.length t th):=by
  intro pins s σ H D I h
  obtain ⟨h1,h2⟩:=h
  refine wpAny_Try_except (wpAny_mono (hb pins [] s σ H D (I.body _) h1) (fun f s1 q=>?_) fun e s1 q=>?_)
  · have q':=SP.unbody q
    cases f with
    | next=>exact wpAny_execs_nil q'
    | brk=>exact q'
    | cont=>exact q'
    | ret u=>exact q'
  · obtain ⟨ea,d,T,σ1,H1,i,rfl,I1,F,hx,hd,hE⟩:=q
    obtain ⟨NN,fI,fd,qn,p1,p2,p3,p4,XC,_⟩:=XT.ex
    obtain ⟨nm,qq,bs,sn,sub,ab,col,dd,k0',k1',k2',k3',k5',hC⟩:=XC.obj
    have hfl:s1.heap.FunFrames X.base (X.env::X.outer):=by rw [<- hstk];exact I1.stack
    refine LX.landed (outer:=X.outer) (base:=X.base) (by rw [<- hstk];exact I1.ok.frames) hfl hfr (.next F) fun h1' T' kp hT F1=>?_
    have xsf:∀ b ∈ [ea,T],∃ o vs,s1.heap.get? b=some o/\o.data=.fields vs:=fun b hb=>by
      rcases List.mem_cons.mp hb with rfl | hb
      · obtain ⟨sl,vs,e,_⟩:=F.rec_
        exact ⟨_,vs,e,rfl⟩
      · rw [List.mem_singleton.mp hb]
        obtain ⟨oT,ts,e,hdT,_⟩:=F.tb
        exact ⟨oT,ts,e,hdT⟩
    have J1:Inv X pins σ1 H1 { s1 with heap:=h1' }:=I1.landed hex (fun b hb=>by rw [hstk];exact hb) xsf hx kp
    obtain ⟨sl,vs,he,_⟩:=F1.rec_
    have hst1:({ s1 with heap:=h1' }:Shared).heap.FunFrames X.base X.stack:=J1.stack
    have nfr:ea ∉ LX.fra X.stack:=LX.not_frame hst1 he rfl
    have nfr2:ea ≠ X.env.locals/\ea ∉ X.fs:=by
      rw [hstk] at nfr
      have e:LX.fra (X.env::X.outer)=X.env.locals::frs X.outer:=by
        show (X.env::X.outer).filterMap (·.frame)=_
        rw [List.filterMap_cons,hfr]
        rfl
      rw [e] at nfr
      exact ⟨fun z=>nfr (by rw [z];exact List.mem_cons_self),fun z=>nfr (List.mem_cons_of_mem _ z)⟩
    have hea:=hx ea List.mem_cons_self
    have pinOk:∀ {hp:Heap},hp.get? ea=some ⟨.ref C,some d,.fields vs,sl⟩->hp.get? ea=some ⟨.ref C,some d,.fields vs,sl⟩/\H1 ea=none/\ea ≠ X.env.locals/\ea ∉ X.fs/\∀ v,(⟨.ref C,some d,.fields vs,sl⟩:Obj).data ≠ .cell v:=
      fun e=>⟨e,hea.2.1,nfr2.1,nfr2.2,fun v z=>nomatch z⟩
    have J1h:=J1.hand (pinOk he)
    have KX1:X.K.In h1':=J1.kIn
    have hC1:=KX1 _ _ hC
    refine wpAny_handleBy_cons (codeAny_handlers_test (ld_glob (X:=X.hand pins ea _) J1h hg hm ?_ hdb)) (by intro q;cases q)
    refine wpAny_excMatches_sub_self (g:=s1.gens) (d:=s1.drawn) (t:=s1.toks) (os:=s1.os) hC1 he rfl (by decide +kernel) ?_
    show codeAny _ _ _ _ _
    refine codeAny_handlers_suite (LX.land F1 fun h2' K2 F2=>?_)
    have J2:Inv X pins σ1 H1 { s1 with heap:=h2' }:=by
      refine Inv.landed (s:={ s1 with heap:=h1' }) (h':=h2') (xs:=[T']) (fs:=[]) J1 hex (fun b hb=>nomatch hb) (fun b hb=>?_) (fun b hb=>?_) (fun b o hb hx=>?_)
      · rw [List.mem_singleton.mp hb]
        obtain ⟨oT,ts,e,hdT,_⟩:=F1.tb
        exact ⟨oT,ts,e,hdT⟩
      · rw [List.mem_singleton.mp hb]
        refine ⟨?_,I1.hok.none_of hT,fun p hp z=>?_⟩
        · cases q:X.s_0.heap.get? T' with
          | none=>rfl
          | some o=>
            obtain ⟨o',e'⟩:=I1.base.there T' o q (by rw [hex];simp)
            rw [hT] at e';cases e'
        · have r:=(I1.pin p hp).1
          rw [z,hT] at r
          cases r
      · have nT:b ≠ T':=fun z=>hx (by rw [z];exact List.mem_singleton.mpr rfl)
        exact ⟨fun _=>K2 b o nT hb,o.slots,K2 b o nT hb⟩
    have he2:h2'.get? ea=some ⟨.ref C,some d,.fields vs,sl⟩:=K2 _ _ (Ne.symm F1.ne) he
    have J2h:=J2.hand (pinOk he2)
    have J3:=J2h.weak (σ':=blank X.N.length) (by unfold blank;rw [List.length_replicate];exact I1.len.symm) (fun i' v' e'=>(blank_no e').elim)
    refine wpAny_mono (hh pins ea d vs sl [] _ _ H1 D J3 (h2 d H1 i hd hE)) (fun f s4 q=>?_) (fun _ _ z=>z.elim)
    cases f with
    | next=>
      obtain ⟨σ4,H4,J4,q4⟩:=q
      exact ⟨_,H4,J4.unhand I1.ok,q4⟩
    | brk=>
      obtain ⟨σ4,H4,J4,q4⟩:=q
      exact ⟨_,H4,J4.unhand I1.ok,q4⟩
    | cont=>
      obtain ⟨σ4,H4,J4,q4⟩:=q
      exact ⟨_,H4,J4.unhand I1.ok,q4⟩
    | ret u=>
      obtain ⟨v,σ4,H4,J4,rv,q4⟩:=q
      exact ⟨v,_,H4,J4.unhand I1.ok,rv,q4⟩
end L2
namespace L2
open PySem PySem.Spec PyProof.Rows
section
variable {P:Program} {w:World} {K:PySem.W.Frag} {mg:Str->Option Value} {base:Heap} {C:Addr}
theorem Fun.okX {x qual:Str} {st:Stmt} {f:Addr} {fd:FuncData} {N ps:List Str} {k:Nat} {sp:Sp} (F:Fun K x qual st f fd) (S:FnScope N ps (defScope st)) (len:∀ vs H Q E,sp vs H Q E->vs.length=ps.length)
    (hbody:∀ (cdv:Value) (A:Around) (outer:List Env) (s:Shared) (H:Hp) (vs:List V) (Q:VK) (E:XK),Room k (A.deeper (envOfC qual (defScope st) s.heap.objs.size f cdv))->sp vs H Q E->
      ∃ t,PSs (cxOf (CXF P w C) P w K mg base N qual (defScope st) f cdv A outer s H E) (defBody st) t/\t { nx:=fun _ H'=>Q .non H',rt:=Q } (start N vs) H):FnOk P w K mg base (CXF P w C) (k+1) f fd ps sp:=by
  obtain ⟨oc,od,kV,doc,pm,an,cdv,ct,osl,rfl,lk,hcd⟩:=F.ex
  refine fn_of lk hcd S len fun A outer s H vs Q E hr hsp=>?_
  obtain ⟨t,h,q⟩:=hbody cdv A outer s H vs Q E hr hsp
  exact ⟨t,h,q⟩
def Dfn (P:Program) (w:World) (K:PySem.W.Frag) (mg:Str->Option Value) (base:Heap) (C:Addr) (k:Nat) (x:Str) (ps:List Str) (sp:Sp):Prop:=
  ∃ f fd,FnOk P w K mg base (CXF P w C) k f fd ps sp/\mg x=some (.ref f)/\PySem.W.keepIn K (.ref f)=true/\Binds K fd ps []
def Mth (P:Program) (w:World) (K:PySem.W.Frag) (mg:Str->Option Value) (base:Heap) (C B:Addr) (k:Nat) (m:Str) (ps:List Str) (sp:Sp):Prop:=
  ∃ f fd,FnOk P w K mg base (CXF P w C) k f fd ps sp/\Cls K B/\Meth K B m f/\Binds K fd ps []
def Mke (P:Program) (w:World) (K:PySem.W.Frag) (mg:Str->Option Value) (base:Heap) (C B:Addr) (k:Nat) (x:Str) (ps:List Str) (sp:Sp):Prop:=
  ∃ f fd,FnOk P w K mg base (CXF P w C) k f fd ps sp/\Mk K B f/\mg x=some (.ref B)/\Binds K fd ps []
variable {N:List Str} {qual:Str} {scope:Scope} {f:Addr} {cd:Value} {A:Around} {outer:List Env} {s₀:Shared} {H₀:Hp} {E:XK}
theorem pe_fn {k:Nat} {x:Str} {ps:List Str} {sp:Sp} {p pos:Pos} {e:Expr} {es:List Expr} {t:TA} (D:Dfn P w K mg base C k x ps sp) (hr:Room k (cxOf (CXF P w C) P w K mg base N qual scope f cd A outer s₀ H₀ E).A)
    (hg:Gl (cxOf (CXF P w C) P w K mg base N qual scope f cd A outer s₀ H₀ E) x) (ha:PA (cxOf (CXF P w C) P w K mg base N qual scope f cd A outer s₀ H₀ E) (e::es) t) (hdb:(x == ("__debug__":Str))=false:=by decide)
    (he:starEach (e::es) (cxOf (CXF P w C) P w K mg base N qual scope f cd A outer s₀ H₀ E).env=(false,eval e (cxOf (CXF P w C) P w K mg base N qual scope f cd A outer s₀ H₀ E).env)::starEach es (cxOf (CXF P w C) P w K mg base N qual scope f cd A outer s₀ H₀ E).env:=by rfl)
    (hpl:(backTo pos (starEach es (cxOf (CXF P w C) P w K mg base N qual scope f cd A outer s₀ H₀ E).env)).any (·.1)=false:=by rfl):
    PE (cxOf (CXF P w C) P w K mg base N qual scope f cd A outer s₀ H₀ E) (.Call (.Name x p) (e::es) [] pos) (tCall sp [] E t):=by
  obtain ⟨g,fd,G,hm,hk,hb⟩:=D
  exact pe_call G hr hg hm hk hb .nil xpass ha hdb he hpl
theorem pe_mk {B:Addr} {k:Nat} {x:Str} {ps:List Str} {sp:Sp} {p pos:Pos} {e:Expr} {es:List Expr} {t:TA} (D:Mke P w K mg base C B k x ps sp) (hr:Room (k+1) (cxOf (CXF P w C) P w K mg base N qual scope f cd A outer s₀ H₀ E).A)
    (hg:Gl (cxOf (CXF P w C) P w K mg base N qual scope f cd A outer s₀ H₀ E) x) (ha:PA (cxOf (CXF P w C) P w K mg base N qual scope f cd A outer s₀ H₀ E) (e::es) t) (hdb:(x == ("__debug__":Str))=false:=by decide)
    (he:starEach (e::es) (cxOf (CXF P w C) P w K mg base N qual scope f cd A outer s₀ H₀ E).env=(false,eval e (cxOf (CXF P w C) P w K mg base N qual scope f cd A outer s₀ H₀ E).env)::starEach es (cxOf (CXF P w C) P w K mg base N qual scope f cd A outer s₀ H₀ E).env:=by rfl)
    (hpl:(backTo pos (starEach es (cxOf (CXF P w C) P w K mg base N qual scope f cd A outer s₀ H₀ E).env)).any (·.1)=false:=by rfl):
    PE (cxOf (CXF P w C) P w K mg base N qual scope f cd A outer s₀ H₀ E) (.Call (.Name x p) (e::es) [] pos) (tMake B sp [] E t):=by
  obtain ⟨g,fd,G,M,hm,hb⟩:=D
  exact pe_make M G hr hg hm hb .nil xpass ha hdb he hpl
theorem pe_mt {B:Addr} {k:Nat} {m:Str} {ps:List Str} {sp:Sp} {apos pos:Pos} {o e:Expr} {es:List Expr} {ta:TE} {t:TA} {pl:Sem Bool} (D:Mth P w K mg base C B k m ps sp) (hr:Room k (cxOf (CXF P w C) P w K mg base N qual scope f cd A outer s₀ H₀ E).A)
    (ho:PE (cxOf (CXF P w C) P w K mg base N qual scope f cd A outer s₀ H₀ E) o ta) (ha:PA (cxOf (CXF P w C) P w K mg base N qual scope f cd A outer s₀ H₀ E) (e::es) t)
    (hst:starEach (e::es) (cxOf (CXF P w C) P w K mg base N qual scope f cd A outer s₀ H₀ E).env=(false,eval e (cxOf (CXF P w C) P w K mg base N qual scope f cd A outer s₀ H₀ E).env)::starEach es (cxOf (CXF P w C) P w K mg base N qual scope f cd A outer s₀ H₀ E).env:=by rfl)
    (hpl:(backTo pos (starEach es (cxOf (CXF P w C) P w K mg base N qual scope f cd A outer s₀ H₀ E).env)).any (·.1)=false:=by rfl)
    (ht:eval (.Call (.Attribute o m apos) (e::es) [] pos) (cxOf (CXF P w C) P w K mg base N qual scope f cd A outer s₀ H₀ E).env=(do
      let ov ← eval o (cxOf (CXF P w C) P w K mg base N qual scope f cd A outer s₀ H₀ E).env
      standAt apos.atName
      let (g,first) ← holding [ov] (getMethod ov m pl)
      callWith pos g first (backTo pos (starEach (e::es) (cxOf (CXF P w C) P w K mg base N qual scope f cd A outer s₀ H₀ E).env)) (backToKw pos (keywordEach [] (cxOf (CXF P w C) P w K mg base N qual scope f cd A outer s₀ H₀ E).env))):=by rfl):
    PE (cxOf (CXF P w C) P w K mg base N qual scope f cd A outer s₀ H₀ E) (.Call (.Attribute o m apos) (e::es) [] pos) (tMeth B m sp [] E ta t):=by
  obtain ⟨g,fd,G,c,hm,hb⟩:=D
  exact pe_meth ho c hm G hr hb .nil xpass ha hst hpl ht
theorem pe_mt0 {B:Addr} {k:Nat} {m:Str} {ps:List Str} {sp:Sp} {apos pos:Pos} {o:Expr} {ta:TE} {pl:Sem Bool} (D:Mth P w K mg base C B k m ps sp) (hr:Room k (cxOf (CXF P w C) P w K mg base N qual scope f cd A outer s₀ H₀ E).A)
    (ho:PE (cxOf (CXF P w C) P w K mg base N qual scope f cd A outer s₀ H₀ E) o ta)
    (ht:eval (.Call (.Attribute o m apos) [] [] pos) (cxOf (CXF P w C) P w K mg base N qual scope f cd A outer s₀ H₀ E).env=(do
      let ov ← eval o (cxOf (CXF P w C) P w K mg base N qual scope f cd A outer s₀ H₀ E).env
      standAt apos.atName
      let (g,first) ← holding [ov] (getMethod ov m pl)
      callWith pos g first (backTo pos (starEach [] (cxOf (CXF P w C) P w K mg base N qual scope f cd A outer s₀ H₀ E).env)) (backToKw pos (keywordEach [] (cxOf (CXF P w C) P w K mg base N qual scope f cd A outer s₀ H₀ E).env))):=by rfl):
    PE (cxOf (CXF P w C) P w K mg base N qual scope f cd A outer s₀ H₀ E) (.Call (.Attribute o m apos) [] [] pos) (tMeth B m sp [] E ta tNil):=by
  obtain ⟨g,fd,G,c,hm,hb⟩:=D
  exact pe_meth0 ho c hm G hr hb .nil xpass ht
def Cst (mg:Str->Option Value) (x:Str) (v:V):Prop:=∃ u,mg x=some u/\RelV v u
theorem pe_cst {X:Cx} {x:Str} {v:V} {pos:Pos} (h:Cst X.mg x v) (hg:Gl X x:=by rfl) (hd:(x == ("__debug__":Str))=false:=by decide):PE X (.Name x pos) (tC v):=by
  obtain ⟨u,hm,r⟩:=h
  exact pe_glob hg hm r hd
end
inductive KPairs:List DictEntry->List (Int × Int)->Prop
  | nil:KPairs [] []
  | cons {k v:Int} {t u:Tok} {es:List DictEntry} {kvs:List (Int × Int)}:KPairs es kvs->KPairs (⟨hashInt k,.int k t,.int v u⟩::es) ((k,v)::kvs)
structure KDict (K:PySem.W.Frag) (a:Addr) (kvs:List (Int × Int)):Prop where
  obj:∃ (es:Array DictEntry) (n:Nat),K.lookup a=some ⟨.type "dict",none,.dict es n,#[]⟩/\KPairs es.toList kvs
  nd:(kvs.map (·.1)).Nodup
  ns:(a == sysModules)=false
abbrev kdV (kvs:List (Int × Int)):List (Key × V):=kvs.map fun p=>(Sum.inl p.1,V.int p.2)
theorem kdV_val (kvs:List (Int × Int)) (k:Int):valV (kdV kvs) (Sum.inl k)=(kvs.lookup k).map V.int:=by
  induction kvs with
  | nil=>rfl
  | cons p r ih=>
    obtain ⟨a,b⟩:=p
    unfold valV at ih ⊢
    simp only [kdV,List.map_cons,List.find?_cons,List.lookup]
    by_cases e:a=k
    · subst e
      simp
    · have e1:¬ (Sum.inl a:Key)=Sum.inl k:=fun z=>e (Sum.inl.inj z)
      have e2:(k == a)=false:=beq_eq_false_iff_ne.mpr (Ne.symm e)
      simp only [e1,decide_false,e2]
      exact ih
theorem KDict.at_ {K:PySem.W.Frag} {a:Addr} {kvs:List (Int × Int)} {P:Program} {w:World} {h:Heap} (D:KDict K a kvs) (X:K.In h):∃ vs,KV (kdV kvs) vs/\h.DictOf (mixKind P w) a vs:=by
  obtain ⟨⟨es,n,lk,ps⟩,nd,_⟩:=D
  have ho:=X _ _ lk
  have main:∀ {l:List DictEntry} {m:List (Int × Int)},KPairs l m->∃ vs:List (Key × Value),KV (kdV m) vs/\(∀ e ∈ l,∃ k,(mixKind P w).is k e.key=true/\e.hash=(mixKind P w).hash k)/\Pairs (mixKind P w) l vs/\vs.map (·.1)=m.map fun p=>Sum.inl p.1:=by
    intro l m q
    induction q with
    | nil=>exact ⟨[],.nil,(fun e he=>by cases he),.nil,rfl⟩
    | @cons k v t u es kvs q ih=>
      obtain ⟨vs,h1,h2,h3,h4⟩:=ih
      refine ⟨(Sum.inl k,.int v u)::vs,.cons ⟨rfl,u,rfl⟩ h1,fun e he=>?_,.cons (mixKind_int P w k t) rfl h3,by simp [h4]⟩
      rcases List.mem_cons.mp he with rfl | he
      · exact ⟨Sum.inl k,mixKind_int P w k t,rfl⟩
      · exact h2 e he
  obtain ⟨vs,h1,h2,h3,h4⟩:=main ps
  refine ⟨vs,h1,_,es,n,ho,⟨rfl,rfl,rfl⟩,rfl,fun e he=>h2 e (by simpa using he),h3,?_⟩
  rw [h4]
  have e:(kvs.map fun p=>(Sum.inl p.1:Key))=(kvs.map (·.1)).map Sum.inl:=by rw [List.map_map];rfl
  rw [e]
  exact List.Pairwise.map _ (fun a b h z=>h (Sum.inl.inj z)) nd
section
variable {X:Cx} {a:Addr} {kvs:List (Int × Int)} {i o:Expr} {pos:Pos} {ty td:TE}
def tKNotIn (a:Addr) (kvs:List (Int × Int)) (ty td:TE):TE:=fun σ H Q=>ty σ H fun y H1=>td σ H1 fun x H2=>∃ k,y=.int k/\x=.ref a/\Q (.bl (!(kvs.lookup k).isSome)) H2
def tKGet (a:Addr) (kvs:List (Int × Int)) (td ty:TE):TE:=fun σ H Q=>td σ H fun x H1=>ty σ H1 fun y H2=>∃ k v,x=.ref a/\y=.int k/\kvs.lookup k=some v/\Q (.int v) H2
theorem pc_kdnotin (D:KDict X.K a kvs) (hi:PE X i ty) (ho:PE X o td):PC X .NotIn i o (tKNotIn a kvs ty td):=by
  intro pins s σ H Q I h
  refine thn (hi pins s σ H _ I h) fun iv s1 ⟨y,H1,I1,ry,q1⟩=>thn (ho pins s1 σ H1 _ I1 q1) fun u s2 ⟨x,H2,I2,rx,k,ey,ex,q2⟩=>?_
  subst ex ey
  obtain rfl:u=Value.ref a:=rx
  obtain ⟨vs,rel,dd⟩:=D.at_ (P:=X.prog) (w:=X.w) I2.kIn
  refine wpAny_notIn_of (kV_is (k:=Sum.inl k) ry) D.ns dd.mapOf ?_
  rw [<- (rel.val (Sum.inl k)).isSome_eq,kdV_val,Option.isSome_map]
  exact ⟨.bl (!(List.lookup k kvs).isSome),H2,I2.tok _,rfl,q2⟩
theorem pe_kdget (D:KDict X.K a kvs) (ho:PE X o td) (hi:PE X i ty) (hs:NoSl i):PE X (.Subscript o i pos) (tKGet a kvs td ty):=by
  intro pins s σ H Q I h
  refine subD_of PySem.F.slot_dict_getitem.lookup hs (thn (ho pins s σ H _ I h) fun u s1 ⟨x,H1,I1,rx,q1⟩=>thn (hi pins s1 σ H1 _ I1 q1) fun iv s2 ⟨y,H2,I2,ry,k,v,ex,ey,l,q2⟩=>?_)
  subst ex ey
  obtain rfl:u=Value.ref a:=rx
  obtain ⟨vs,rel,dd⟩:=D.at_ (P:=X.prog) (w:=X.w) I2.kIn
  obtain ⟨w',hw,rw'⟩:=RelO.some_of (v:=V.int v) (o:=valueAt vs (Sum.inl k)) (by
    have z:=rel.val (Sum.inl k)
    rw [kdV_val,l] at z
    exact z)
  exact ⟨dd.typeIs,wpAny_getItem_of (kV_is (k:=Sum.inl k) ry) dd.mapOf hw ⟨.int v,H2,I2.tok _,rw',q2⟩⟩
end
theorem and_val {b1 b2:Bool} {tb:TE} {σ:St} {H:Hp} {Q:VK} (h2:∀ Q':VK,Q' (.bl b2) H->tb σ H Q') (h:Q (.bl (b1 && b2)) H):if b1=true then tb σ H Q else Q (.bl false) H:=by
  cases b1 with
  | true=>exact h2 _ h
  | false=>exact h
theorem or_test {b1 b2:Bool} {u:TT} {σ:St} {H:Hp} {Q:Bool->Hp->Prop} (h2:∀ Q':Bool->Hp->Prop,Q' b2 H->u σ H Q') (h:Q (b1 || b2) H):if b1=true then Q true H else u σ H Q:=by
  cases b1 with
  | true=>exact h
  | false=>exact h2 _ h
theorem and_test {b1 b2:Bool} {u:TT} {σ:St} {H:Hp} {Q:Bool->Hp->Prop} (h2:∀ Q':Bool->Hp->Prop,Q' b2 H->u σ H Q') (h:Q (b1 && b2) H):if b1=true then u σ H Q else Q false H:=by
  cases b1 with
  | true=>exact h2 _ h
  | false=>exact h
theorem dint {i j:Int}:decide (V.int i=V.int j)=decide (i=j):=by
  by_cases h:i=j
  · subst h;simp
  · rw [decide_eq_false h,decide_eq_false fun z=>h (by injection z)]
theorem star_plain {e:Expr} {es:List Expr} {env:Env} (h:∀ v p,e ≠ .Starred v p):starEach (e::es) env=(false,eval e env)::starEach es env:=by
  rw [starEach]
  intro v p q
  exact h v p q
theorem sw_list {es:List Expr} {p:Pos} {tg:Option Expr} {l:Nat} {env:Env}:swapsWith (.List es p) tg l env=pure false:=rfl
theorem pe_lst4 {X:Cx} {e0 e1 e2 e3:Expr} {t0 t1 t2 t3:TE} {pos:Pos} (n0:∀ v p,e0 ≠ .Starred v p) (n1:∀ v p,e1 ≠ .Starred v p) (n2:∀ v p,e2 ≠ .Starred v p) (n3:∀ v p,e3 ≠ .Starred v p) (h0:PE X e0 t0) (h1:PE X e1 t1) (h2:PE X e2 t2) (h3:PE X e3 t3):
    PE X (.List [e0,e1,e2,e3] pos) (tLst (tCons t0 (tCons t1 (tCons t2 (tCons t3 tNil))))):=
  pe_lst (pa_cons h0 (pa_cons h1 (pa_cons h2 (pa_cons h3 pa_nil (star_plain n3)) (star_plain n2)) (star_plain n1)) (star_plain n0))
theorem pe_tup2 {X:Cx} {e0 e1:Expr} {t0 t1:TE} {k:Nat} {pos:Pos} (n0:∀ v p,e0 ≠ .Starred v p) (n1:∀ v p,e1 ≠ .Starred v p) (h0:PE X e0 t0) (h1:PE X e1 t1):PE X (.Tuple [e0,e1] k pos) (tTup (tCons t0 (tCons t1 tNil))):=
  pe_tup (pa_cons h0 (pa_cons h1 pa_nil (star_plain n1)) (star_plain n0))
structure PEx (X:Cx) (e:Expr) (t:TE):Prop where
  h:PE X e t
structure PSx (X:Cx) (st:Stmt) (t:TS):Prop where
  h:PS X st t
structure PSsx (X:Cx) (l:List Stmt) (t:TS):Prop where
  h:PSs X l t
theorem PSsx.cons {X:Cx} {st:Stmt} {rest:List Stmt} {t u:TS} (h1:PSx X st t) (h2:PSsx X rest u):PSsx X (st::rest) (tSeq t u):=⟨pss_cons h1.h h2.h⟩
theorem PSsx.one {X:Cx} {st:Stmt} {t:TS} (h1:PSx X st t):PSsx X [st] t:=⟨pss_one h1.h⟩
theorem PEx.int {X:Cx} {i:Int} {j:Nat} {pos:Pos}:PEx X (.Constant (.int i) j pos) (tC (.int i)):=⟨pe_int⟩
theorem PEx.tup2 {X:Cx} {e0 e1:Expr} {t0 t1:TE} {k:Nat} {pos:Pos} (n0:∀ v p,e0 ≠ .Starred v p) (n1:∀ v p,e1 ≠ .Starred v p) (h0:PEx X e0 t0) (h1:PEx X e1 t1):PEx X (.Tuple [e0,e1] k pos) (tTup (tCons t0 (tCons t1 tNil))):=⟨pe_tup2 n0 n1 h0.h h1.h⟩
theorem PEx.lst4 {X:Cx} {e0 e1 e2 e3:Expr} {t0 t1 t2 t3:TE} {pos:Pos} (n0:∀ v p,e0 ≠ .Starred v p) (n1:∀ v p,e1 ≠ .Starred v p) (n2:∀ v p,e2 ≠ .Starred v p) (n3:∀ v p,e3 ≠ .Starred v p) (h0:PEx X e0 t0) (h1:PEx X e1 t1) (h2:PEx X e2 t2) (h3:PEx X e3 t3):
    PEx X (.List [e0,e1,e2,e3] pos) (tLst (tCons t0 (tCons t1 (tCons t2 (tCons t3 tNil))))):=⟨pe_lst4 n0 n1 n2 n3 h0.h h1.h h2.h h3.h⟩
theorem PSx.set {X:Cx} {i:Nat} {x:Str} {e:Expr} {te:TE} {pos pos':Pos} (hN:X.N.Nodup) (hi:X.N[i]?=some x) (hx:Loc X.env.scope x) (he:PEx X e te) (hs:swapsWith e (some (.Name x pos')) pos.line X.env=pure false)
    (hf:X.fn x=true\/X.env.scope.names.lookup x=some .local):PSx X (.Assign [.Name x pos'] e pos) (tAsg te (gName i)):=⟨ps_set hN hi hx he.h hs hf⟩
end L2
namespace L2
open PySem PySem.Spec PyProof.Rows
def Frz (H H':Hp):Prop:=∀ b o u,H b=some (.frz o u)->H' b=some (.frz o u)
theorem Frz.refl (H:Hp):Frz H H:=fun _ _ _ h=>h
theorem Frz.trans {H H1 H2:Hp} (a:Frz H H1) (b:Frz H1 H2):Frz H H2:=fun x o u h=>b x o u (a x o u h)
theorem Frz.of {H H':Hp} (s:Same H H'):Frz H H':=fun b _ _ h=>s b _ h
structure Clb (P:Program) (w:World) (K:PySem.W.Frag) (mg:Str->Option Value) (base:Heap) (C:Addr) (k:Nat) (H:Hp) (g:Addr) (n:Nat) (sp:Sp):Prop where
  len:∀ vs H Q E,sp vs H Q E->vs.length=n
  kp:∀ (H':Hp) (h:Heap),Frz H H'->HOk P w H' h->K.In h->∃ kk,(kk=Keeper.frame\/kk=Keeper.machine\/kk=Keeper.boundFrame)/\PySem.W.Looks (model P w) h (keeperOf (.ref g)) kk
  run:∀ (A:Around) (outer:List Env) (s:Shared) (H':Hp) (us:List Value) (vs:List V) (Q:VK) (E:XK),Frz H H'->Room k A->Env0 P w K mg base A outer s H'->Vals vs us->sp vs H' Q E->
    codeAny (model P w) A (.call (.ref g) ⟨us,[]⟩) (CR (CXF P w C) outer P w H' s Q E) s
section
variable {P:Program} {w:World} {K:PySem.W.Frag} {mg:Str->Option Value} {base:Heap} {C:Addr}
theorem Clb.mono {j k:Nat} {H:Hp} {g:Addr} {n:Nat} {sp:Sp} (c:Clb P w K mg base C j H g n sp) (h:j<=k):Clb P w K mg base C k H g n sp:=
  ⟨c.len,c.kp,fun A outer s H' us vs Q E hf hr=>c.run A outer s H' us vs Q E hf (hr.mono h)⟩
theorem Clb.on {k:Nat} {H H1:Hp} {g:Addr} {n:Nat} {sp:Sp} (c:Clb P w K mg base C k H g n sp) (h:Frz H H1):Clb P w K mg base C k H1 g n sp:=
  ⟨c.len,fun H' hh hf=>c.kp H' hh (h.trans hf),fun A outer s H' us vs Q E hf=>c.run A outer s H' us vs Q E (h.trans hf)⟩
theorem Dfn.clb {k:Nat} {x:Str} {ps:List Str} {sp:Sp} (D:Dfn P w K mg base C k x ps sp):∃ g,mg x=some (.ref g)/\∀ H,Clb P w K mg base C k H g ps.length sp:=by
  obtain ⟨g,fd,G,hm,hk,hb⟩:=D
  refine ⟨g,hm,fun H=>⟨G.len,fun H' h _ _ X=>PySem.W.keeps_K hk h X,fun A outer s H' us vs Q E _ hr e0 r hsp=>?_⟩⟩
  have hl:us.length=ps.length:=by rw [<- r.length];exact G.len _ _ _ _ hsp
  have KX:K.In s.heap:=e0.mod.kin.keeps fun b o e=>(e0.bs b o e).1
  have b:=hb s us KX (by rw [List.append_nil];exact hl)
  rw [List.append_nil] at b
  exact G.run A outer s H' ⟨us,[]⟩ us vs Q E hr e0 b r hsp
theorem FnOk.anyX {k:Nat} {f:Addr} {fd:FuncData} {ps:List Str} {sp:Sp} (G:FnOk P w K mg base CX0 k f fd ps sp):FnOk P w K mg base (CXF P w C) k f fd ps sp:=
  ⟨G.len,fun A outer s H args us vs Q E hr he hb hv hs=>codeAny_mono (G.run A outer s H args us vs Q E hr he hb hv hs) fun r s' q=>by
    cases r with
    | error e=>exact False.elim q
    | ok fl=>cases fl <;> exact q⟩
end
def tClb (P:Program) (w:World) (K:PySem.W.Frag) (mg:Str->Option Value) (base:Heap) (C:Addr) (k i:Nat) (E:XK) (t:TA):TE:=fun σ H Q=>∃ g,σ[i]?=some (some (.ref g))/\t σ H fun vs H1=>∃ n sp,Clb P w K mg base C k H1 g n sp/\sp vs H1 Q E
section
variable {X:Cx} {C:Addr} {k i:Nat} {E:XK} {x:Str} {p pos:Pos} {e:Expr} {es:List Expr} {t:TA}
theorem pe_clb {P:Program} {w:World} {K:PySem.W.Frag} {mg:Str->Option Value} {base:Heap} (hN:X.N[i]?=some x) (hv:Vis X.env.scope x) (hr:Room k X.A) (hx:Passes (CXF P w C) X E) (ha:PA X (e::es) t) (hP:X.prog=P:=by rfl) (hw:X.w=w:=by rfl) (hK:X.K=K:=by rfl) (hmg:X.mg=mg:=by rfl) (hba:X.base=base:=by rfl)
    (hd:(x == ("__debug__":Str))=false:=by decide) (hcd:(x == ("__classdict__":Str))=false:=by decide)
    (he:starEach (e::es) X.env=(false,eval e X.env)::starEach es X.env:=by rfl) (hpl:(backTo pos (starEach es X.env)).any (·.1)=false:=by rfl):
    PE X (.Call (.Name x p) (e::es) [] pos) (tClb P w K mg base C k i E t):=by
  subst hP hw hK hmg hba
  intro pins s σ H Q I h
  obtain ⟨g,hg,h⟩:=h
  refine wpAny_Call_Name_kw (thn (pe_var hN hv hd hcd pins s σ H (fun v H'=>v=.ref g/\H'=H) I ⟨_,hg,rfl,rfl⟩) fun u s1 ⟨v,H1,I1,rv,ev,eH⟩=>?_)
  subst ev eH
  obtain rfl:u=Value.ref g:=rv
  show wpAny _ _ (callWith pos (.ref g) [] (backTo pos (starEach (e::es) X.env)) []) _ _ _
  have ha':=ha pos pins s1 σ H1 _ I1 h
  rw [he] at ha' ⊢
  refine PySem.W.callWith_of (P:=fun h=>∃ kk,(kk=Keeper.frame\/kk=Keeper.machine\/kk=Keeper.boundFrame)/\PySem.W.Looks (model X.prog X.w) h (keeperOf (.ref g)) kk) (by show ((false || (backTo pos (starEach es X.env)).any (·.1)) || false)=false;rw [hpl];rfl) (fun _ z=>z) (Calls.evalArgs_plain (thn ha' fun us s2 ⟨vs,H2,I2,r,n,sp,c,q⟩=>⟨c.kp H2 _ (Frz.refl _) I2.hok I2.kIn,?_⟩))
  refine wpAny_call (codeAny_mono (c.run X.A X.stack s2 H2 us vs Q E (Frz.refl _) hr I2.env0 r q) fun r s' hq=>?_)
  cases r with
  | error e=>exact hx pins σ H2 s2 e s' I2 hq
  | ok fl=>
    cases fl with
    | ret u=>exact I2.after hq
    | next=>exact False.elim hq
    | brk=>exact False.elim hq
    | cont=>exact False.elim hq
theorem passF {P:Program} {w:World}:Passes (CXF P w C) X E0:=by
  intro pins σ Hc sc e s' I h
  obtain ⟨ea,d,T,H',i,_,_,_,_,_,_,_,_,_,_,_,hE⟩:=h
  exact hE.elim
end
theorem pe_fnv {X:Cx} {x:Str} {g:Addr} {pos:Pos} (hm:X.mg x=some (.ref g)) (hg:Gl X x:=by rfl) (hd:(x == ("__debug__":Str))=false:=by decide):PE X (.Name x pos) (tC (.ref g)):=pe_glob hg hm rfl hd
end L2
namespace L2
open PySem PySem.Spec PyProof.Rows
abbrev uT:HO:=.ext fun _=>True
abbrev fz (o:Obj):HO:=.frz o uT
theorem fz_ok {P:Program} {w:World} {H:Hp} {h:Heap} {a:Addr} {o:Obj} (e:h.get? a=some o):ObjOk P w H h a (fz o):=⟨e,trivial,⟨o,e⟩,fun _ _ _ _=>trivial⟩
def ovl (H:Hp) (cs:List (Addr × Obj)):Hp:=fun b=>match cs.lookup b with
  | some o=>some (fz o)
  | none=>H b
def unt (H:Hp) (cs:List (Addr × Obj)):Hp:=fun b=>match cs.lookup b with
  | some _=>none
  | none=>H b
section
variable {H H':Hp} {cs:List (Addr × Obj)} {b:Addr} {o:Obj}
theorem ovl_in (h:cs.lookup b=some o):ovl H cs b=some (fz o):=by unfold ovl;rw [h]
theorem ovl_out (h:cs.lookup b=none):ovl H cs b=H b:=by unfold ovl;rw [h]
theorem unt_in (h:cs.lookup b=some o):unt H cs b=none:=by unfold unt;rw [h]
theorem unt_out (h:cs.lookup b=none):unt H cs b=H b:=by unfold unt;rw [h]
theorem unt_keep (hc:∀ c o,cs.lookup c=some o->H c=some (fz o)) {u:HO} (h:H b=some u) (hn:∀ o,u ≠ fz o):unt H cs b=some u:=by
  cases q:cs.lookup b with
  | none=>rw [unt_out q];exact h
  | some o=>rw [hc b o q] at h;cases h;exact absurd rfl (hn o)
theorem ovl_keep (hc:∀ c o,cs.lookup c=some o->H c=none) {u:HO} (h:H b=some u):ovl H cs b=some u:=by
  cases q:cs.lookup b with
  | none=>rw [ovl_out q];exact h
  | some o=>rw [hc b o q] at h;cases h
end
section
variable {P:Program} {w:World} {fs:List Addr} {H H':Hp} {h h':Heap} {cs:List (Addr × Obj)}
theorem un_unt (hc:∀ c o,cs.lookup c=some o->h.get? c=some o/\H c=none/\c ∉ fs) (u:Un fs [] (ovl H cs) H' h h') (hok:HOk P w H' h'):
    (∀ c o,cs.lookup c=some o->H' c=some (fz o))/\Un fs [] H (unt H' cs) h h'/\HOk P w (unt H' cs) h':=by
  have fz':∀ c o,cs.lookup c=some o->H' c=some (fz o):=fun c o e=>u.frzs c o _ (ovl_in e)
  have get':∀ c o,cs.lookup c=some o->h'.get? c=some o:=fun c o e=>(hok c _ (fz' c o e)).1
  refine ⟨fz',⟨fun b o e n hb _=>?_,fun b o e n hb _=>?_,fun b o e n _=>?_,fun b o e _=>u.there b o e (by simp),fun b xs e=>?_,fun b o x e=>?_,fun b ps e=>?_⟩,fun b o e=>?_⟩
  · cases q:cs.lookup b with
    | some oc=>rw [(hc b oc q).1] at e;cases e;exact get' b _ q
    | none=>exact u.keep b o e (by rw [ovl_out q];exact n) hb (by simp)
  · cases q:cs.lookup b with
    | some oc=>exact absurd hb (hc b oc q).2.2
    | none=>exact u.slot b o e (by rw [ovl_out q];exact n) hb (by simp)
  · cases q:cs.lookup b with
    | some oc=>exact unt_in q
    | none=>rw [unt_out q];exact u.free b o e (by rw [ovl_out q];exact n) (by simp)
  · cases q:cs.lookup b with
    | some oc=>rw [(hc b oc q).2.1] at e;cases e
    | none=>rw [unt_out q];exact u.tups b xs (by rw [ovl_out q];exact e)
  · cases q:cs.lookup b with
    | some oc=>rw [(hc b oc q).2.1] at e;cases e
    | none=>rw [unt_out q];exact u.frzs b o x (by rw [ovl_out q];exact e)
  · cases q:cs.lookup b with
    | some oc=>rw [(hc b oc q).2.1] at e;cases e
    | none=>rw [unt_out q];exact u.tbls b ps (by rw [ovl_out q];exact e)
  · cases q:cs.lookup b with
    | some oc=>rw [unt_in q] at e;cases e
    | none=>
      rw [unt_out q] at e
      refine (hok b o e).stay (fun _ _ _ z=>z) (fun d hd=>?_) fun d xs hd=>?_
      · cases q2:cs.lookup d with
        | some oc=>rw [fz' d oc q2] at hd;cases hd
        | none=>rw [unt_out q2];exact hd
      · cases q2:cs.lookup d with
        | some oc=>rw [fz' d oc q2] at hd;cases hd
        | none=>rw [unt_out q2];exact hd
theorem un_ovl (hc:∀ c o,cs.lookup c=some o->H c=some (fz o)/\h.get? c=some o/\c ∉ fs) (u:Un fs [] (unt H cs) H' h h') (hok:HOk P w H' h'):
    (∀ c o,cs.lookup c=some o->H' c=none)/\Un fs [] H (ovl H' cs) h h'/\HOk P w (ovl H' cs) h':=by
  have n':∀ c o,cs.lookup c=some o->H' c=none:=fun c o e=>u.free c o (hc c o e).2.1 (unt_in e) (by simp)
  have get':∀ c o,cs.lookup c=some o->h'.get? c=some o:=fun c o e=>u.keep c o (hc c o e).2.1 (unt_in e) (hc c o e).2.2 (by simp)
  refine ⟨n',⟨fun b o e n hb _=>?_,fun b o e n hb _=>?_,fun b o e n _=>?_,fun b o e _=>u.there b o e (by simp),fun b xs e=>?_,fun b o x e=>?_,fun b ps e=>?_⟩,fun b o e=>?_⟩
  · cases q:cs.lookup b with
    | some oc=>rw [(hc b oc q).1] at n;cases n
    | none=>exact u.keep b o e (by rw [unt_out q];exact n) hb (by simp)
  · cases q:cs.lookup b with
    | some oc=>rw [(hc b oc q).1] at n;cases n
    | none=>exact u.slot b o e (by rw [unt_out q];exact n) hb (by simp)
  · cases q:cs.lookup b with
    | some oc=>rw [(hc b oc q).1] at n;cases n
    | none=>rw [ovl_out q];exact u.free b o e (by rw [unt_out q];exact n) (by simp)
  · cases q:cs.lookup b with
    | some oc=>rw [(hc b oc q).1] at e;cases e
    | none=>rw [ovl_out q];exact u.tups b xs (by rw [unt_out q];exact e)
  · cases q:cs.lookup b with
    | some oc=>rw [(hc b oc q).1] at e;cases e;exact ovl_in q
    | none=>rw [ovl_out q];exact u.frzs b o x (by rw [unt_out q];exact e)
  · cases q:cs.lookup b with
    | some oc=>rw [(hc b oc q).1] at e;cases e
    | none=>rw [ovl_out q];exact u.tbls b ps (by rw [unt_out q];exact e)
  · cases q:cs.lookup b with
    | some oc=>rw [ovl_in q] at e;cases e;exact fz_ok (get' b oc q)
    | none=>
      rw [ovl_out q] at e
      exact (hok b o e).stay (fun _ _ _ z=>z) (fun d hd=>ovl_keep n' hd) fun d xs hd=>ovl_keep n' hd
theorem hok_unt (hc:∀ c o,cs.lookup c=some o->H c=some (fz o)) (hok:HOk P w H h):HOk P w (unt H cs) h:=fun b o e=>by
  cases q:cs.lookup b with
  | some oc=>rw [unt_in q] at e;cases e
  | none=>
    rw [unt_out q] at e
    exact (hok b o e).stay (fun _ _ _ z=>z) (fun d hd=>unt_keep hc hd (fun _ z=>by cases z)) fun d xs hd=>unt_keep hc hd (fun _ z=>by cases z)
theorem hok_ovl (hc:∀ c o,cs.lookup c=some o->H c=none/\h.get? c=some o) (hok:HOk P w H h):HOk P w (ovl H cs) h:=fun b o e=>by
  cases q:cs.lookup b with
  | some oc=>rw [ovl_in q] at e;cases e;exact fz_ok (hc b oc q).2
  | none=>
    rw [ovl_out q] at e
    exact (hok b o e).stay (fun _ _ _ z=>z) (fun d hd=>ovl_keep (fun c o z=>(hc c o z).1) hd) fun d xs hd=>ovl_keep (fun c o z=>(hc c o z).1) hd
end
abbrev envL (qual:Str) (scope:Scope) (L f:Addr) (cd:Value) (cl:List (Str × Addr)):Env:=newEnv scope L mainGlobals cl (qual++".<locals>.") (some f) cd none builtinsNs
def cxLam (P:Program) (w:World) (K:PySem.W.Frag) (mg:Str->Option Value) (base:Heap) (C:Addr) (N:List Str) (qual:Str) (scope:Scope) (f:Addr) (cd:Value) (cl:List (Str × Addr)) (A:Around) (outer:List Env) (s:Shared) (H:Hp) (E:XK):Cx where
  prog:=P
  w:=w
  K:=K
  mg:=mg
  base:=base
  A:=A.deeper (envL qual scope s.heap.objs.size f cd cl)
  N:=N
  s_0:=s
  H_0:=H
  env:=envL qual scope s.heap.objs.size f cd cl
  outer:=outer
  stack:=envL qual scope s.heap.objs.size f cd cl::outer
  ex:=[]
  calm:=true
  fn:=fun _=>false
  pn:=[]
  xe:=fun e s'=>wpAny (model P w) (A.deeper (envL qual scope s.heap.objs.size f cd cl)) (leaving (envL qual scope s.heap.objs.size f cd cl) e) (fun _ s''=>CXF P w C outer H s E e s'') (fun e' s''=>CXF P w C outer H s E e' s'') s'
section
variable {P:Program} {w:World} {K:PySem.W.Frag} {mg:Str->Option Value} {base:Heap} {N:List Str} {qual:Str} {scope:Scope} {f C ea d:Addr} {cd:Value} {cl:List (Str × Addr)} {A:Around} {outer:List Env} {s s':Shared} {H H':Hp} {E:XK} {pins:List (Addr × Obj)} {σ:St} {i:Int} {xs:List Addr}
theorem lleave (I:Inv (cxLam P w K mg base C N qual scope f cd cl A outer s H E) pins σ H' s') (O:LX.Out s'.heap ea (.ref C) d xs) (hx:∀ b ∈ xs,s.heap.get? b=none/\H' b=none)
    (hd:H' d=some (.xd (xfs i))) (hE:E (.ref C) (some d) H'):(cxLam P w K mg base C N qual scope f cd cl A outer s H E).xe (.ref ea) s':=by
  have hea:ea ∈ xs:=by cases O <;> simp
  refine LX.leaves (env:=envL qual scope s.heap.objs.size f cd cl) (outer:=outer) (base:=base) I.ok.frames I.stack rfl O fun h' T' kp hT F=>?_
  have nfr:∀ b o,s.heap.get? b=some o->b ∉ frs outer->b ∉ LX.fra (envL qual scope s.heap.objs.size f cd cl::outer):=fun b o e hb m=>by
    have m':b ∈ s.heap.objs.size::frs outer:=m
    rcases List.mem_cons.mp m' with z | z
    · exact absurd (Heap.lt_size e) (by rw [z];exact Nat.lt_irrefl _)
    · exact hb z
  have nxs:∀ b o,s.heap.get? b=some o->b ∉ xs:=fun b o e m=>by rw [(hx b m).1] at e;cases e
  have B:Un (frs outer) [] H H' s.heap s'.heap:=I.base
  have trk:∀ b o u,H' b=some u->s'.heap.get? b=some o->h'.get? b=some o:=fun b o u e ho=>by
    refine (kp b o ho fun m=>?_).1 fun m=>?_
    · rw [(hx b m).2] at e;cases e
    · have z:H' b=none:=I.stkFree b m
      rw [z] at e;cases e
  refine ⟨ea,d,T',H',i,rfl,F,(hx ea hea).1,?_,(hx ea hea).2,I.hok.none_of hT,I.os,I.bare,⟨fun b o e n hb he=>?_,fun b o e n hb he=>?_,fun b o e n he=>B.free b o e n he,fun b o e he=>?_,B.tups,B.frzs,B.tbls⟩,fun b o e=>?_,hd,hE⟩
  · cases q:s.heap.get? T' with
    | none=>rfl
    | some o=>
      obtain ⟨o',e'⟩:=B.there T' o q (by simp)
      rw [hT] at e';cases e'
  · exact (kp b o (B.keep b o e n hb he) (nxs b o e)).1 (nfr b o e hb)
  · obtain ⟨sl,e1⟩:=B.slot b o e n hb he
    obtain ⟨sl',e2⟩:=(kp b _ e1 (nxs b o e)).2
    exact ⟨sl',e2⟩
  · obtain ⟨o',e1⟩:=B.there b o e he
    obtain ⟨sl',e2⟩:=(kp b _ e1 (nxs b o e)).2
    exact ⟨_,e2⟩
  · refine (I.hok b o e).stay (fun c u hc q=>?_) (fun _ q=>q) fun _ _ q=>q
    rcases hc with z | z
    · rw [z] at q ⊢;exact trk b u o e q
    · exact trk c u _ z q
theorem lpass:Passes (CXF P w C) (cxLam P w K mg base C N qual scope f cd cl A outer s H E) E:=by
  intro pins σ Hc sc e s' I h
  obtain ⟨ea,d,T,H',i,rfl,F,e1,e2,n1,n2,ho,hg,un,hok,hd,hE⟩:=h
  have I':Inv (cxLam P w K mg base C N qual scope f cd cl A outer s H E) pins σ H' s':=I.call' (ch:=[]) ho un hok hg (fun b z=>absurd z (by simp))
  have B:Un (frs outer) [] H Hc s.heap sc.heap:=I.base
  have old:∀ b,sc.heap.get? b=none->s.heap.get? b=none:=fun b z=>by
    cases q:s.heap.get? b with
    | none=>rfl
    | some o=>
      obtain ⟨o',e'⟩:=B.there b o q (by simp)
      rw [z] at e';cases e'
  refine lleave I' (.next F) (fun b hb=>?_) hd hE
  rcases List.mem_cons.mp hb with rfl | hb
  · exact ⟨old _ e1,n1⟩
  · rw [List.mem_singleton.mp hb]
    exact ⟨old _ e2,n2⟩
end
structure LamScope (N ps:List Str) (sc:Scope):Prop where
  kind:sc.kind=.function
  co:sc.isCoroutine=false
  gen:sc.isGenerator=false
  nd:N.Nodup
  pre:N.take ps.length=ps
  par:∀ x ∈ ps,sc.names.lookup x=some .local
  nocell:∀ x ∈ sc.names,x.2 ≠ .cell
  free:∀ x ∈ N.drop ps.length,sc.names.lookup x=some .free
theorem zip_rev {ps:List Str} {us:List Value} (nd:ps.Nodup) (hl:us.length=ps.length) {i:Nat} {x:Str} {u:Value} (h1:ps[i]?=some x) (h2:us[i]?=some u):(ps.zip us).reverse.lookup x=some u:=by
  have hm:(x,u) ∈ (ps.zip us).reverse:=by
    rw [List.mem_reverse]
    refine List.mem_of_getElem? (i:=i) ?_
    rw [List.getElem?_zip_eq_some]
    exact ⟨h1,h2⟩
  have key:∀ l:List (Str × Value),(l.map (·.1)).Nodup->(x,u) ∈ l->l.lookup x=some u:=by
    intro l
    induction l with
    | nil=>intro _ z;cases z
    | cons p r ih=>
      obtain ⟨a,b⟩:=p
      intro n z
      rw [List.map_cons,List.nodup_cons] at n
      rw [List.lookup_cons]
      rcases List.mem_cons.mp z with e | z
      · cases e
        simp
      · have ne:x ≠ a:=fun q=>n.1 (by rw [<- q];exact List.mem_map.mpr ⟨(x,u),z,rfl⟩)
        rw [beq_eq_false_iff_ne.mpr ne]
        exact ih n.2 z
  refine key _ ?_ hm
  rw [List.map_reverse]
  have e:(ps.zip us).map (·.1)=ps:=by
    rw [List.map_fst_zip]
    omega
  rw [e]
  exact List.pairwise_reverse.mpr (List.Pairwise.imp (fun h=>Ne.symm h) nd)
section
variable {P:Program} {w:World} {K:PySem.W.Frag} {mg:Str->Option Value} {base:Heap} {C:Addr}
theorem lam_clb {k:Nat} {H:Hp} {f c':Addr} {nm qual:Str} {params:Arguments} {body:Expr} {scope:Scope} {cl:List (Str × Addr)} {pm ctv:Value} {oc:Obj} {N ps:List Str} {fr:List V} {sp:Sp}
    (hf:H f=some (fz (PySem.W.kla_obj nm qual params body scope cl pm c' ctv))) (hc':H c'=some (fz oc)) (hoc:∃ vs t,oc.data=.fields vs/\vs[1]?=some (.str qual t))
    (cs:List (Addr × Obj)) (hcs:∀ c o,cs.lookup c=some o->H c=some (fz o)/\∃ u,o.data=.cell u) (hcl:∀ x c,cl.lookup x=some c->∃ o,cs.lookup c=some o) (inj:∀ x y c,cl.lookup x=some c->cl.lookup y=some c->x=y)
    (S:LamScope N ps scope) (has:∀ x,scope.names.lookup x=some .free->∃ c,cl.lookup x=some c) (hlen:N.length=ps.length+fr.length)
    (hfr:∀ (j:Nat) (x:Str) (v:V),fr[j]?=some v->N[ps.length+j]?=some x->∃ c o u,cl.lookup x=some c/\cs.lookup c=some o/\o.data=.cell (some u)/\RelV v u)
    (hb:∀ us:List Value,us.length=ps.length->bindArgs (PySem.W.kla_fn nm qual params body scope cl pm (.ref c') ctv) ⟨us,[]⟩=pure (ps.zip us))
    (len:∀ vs H Q E,sp vs H Q E->vs.length=ps.length)
    (hbody:∀ (A:Around) (outer:List Env) (s:Shared) (H':Hp) (vs:List V) (Q:VK) (E:XK),Frz H H'->Room k (A.deeper (envL qual scope s.heap.objs.size f (.ref c') cl))->sp vs H' Q E->
      ∃ t,PE (cxLam P w K mg base C N qual scope f (.ref c') cl A outer s (unt H' cs) (fun a d H2=>(∀ c o,cs.lookup c=some o->H2 c=none)->E a d (ovl H2 cs))) body t/\t ((vs++fr).map some) (unt H' cs) fun v H2=>(∀ c o,cs.lookup c=some o->H2 c=none)->Q v (ovl H2 cs)):
    Clb P w K mg base C (k+1) H f ps.length sp:=by
  refine ⟨len,fun H' h hF hok _=>?_,fun A outer s H' us vs Q E hF hr e0 r hsp=>?_⟩
  · exact PySem.W.keeps_F h ⟨_,_,_,_,(hok f _ (hF f _ _ hf)).1⟩
  · have hl:=len _ _ _ _ hsp
    have hul:us.length=ps.length:=by rw [<- r.length];exact hl
    have lim:s.heap.NoLimit:=e0.mod.nolimit.keeps fun b o e=>(e0.bs b o e).1
    have gf:=(e0.hok f _ (hF f _ _ hf)).1
    have gc:=(e0.hok c' _ (hF c' _ _ hc')).1
    obtain ⟨vs0,t0,hd0,hv0⟩:=hoc
    have hcs':∀ c o,cs.lookup c=some o->H' c=some (fz o):=fun c o e=>hF c _ _ (hcs c o e).1
    have gcs:∀ c o,cs.lookup c=some o->s.heap.get? c=some o:=fun c o e=>(e0.hok c _ (hcs' c o e)).1
    have nfr:∀ c o,cs.lookup c=some o->c ∉ frs outer:=fun c o e z=>by
      have:=e0.frf c z
      rw [hcs' c o e] at this
      cases this
    refine PySem.W.kla_callFunE hr.depth gf rfl S.co S.gen rfl ⟨c',oc,vs0,t0,rfl,gc,hd0,hv0⟩ ?_
    rw [hb us hul]
    refine wpAny_pure (wpAny_newFunctionEnv S.nocell (fun x hx=>S.par x.1 (List.of_mem_zip (show (x.1,x.2) ∈ ps.zip us from hx)).1) (fun h₁ hns hsb=>⟨lim.keeps fun b o e=>hsb.extBut b o (Nat.ne_of_lt (Heap.lt_size e)) (Heap.get?_push_of_some _ e),?_⟩) S.kind)
    obtain ⟨t,ht,hq⟩:=hbody A outer s H' vs Q E hF (hr.deeper _) hsp
    have hk:∀ b o,s.heap.get? b=some o->h₁.get? b=some o:=fun b o e=>hsb.extBut b o (Nat.ne_of_lt (Heap.lt_size e)) (Heap.get?_push_of_some _ e)
    have hokU:=hok_unt hcs' e0.hok
    have nb:∀ b,H' b=none->unt H' cs b=none:=fun b e=>by
      cases q:cs.lookup b with
      | none=>rw [unt_out q];exact e
      | some o=>exact unt_in q
    have I:Inv (cxLam P w K mg base C N qual scope f (.ref c') cl A outer s (unt H' cs) (fun a d H2=>(∀ c o,cs.lookup c=some o->H2 c=none)->E a d (ovl H2 cs))) [] ((vs++fr).map some) (unt H' cs) { s with heap:=h₁,toks:=s.toks+(ps.zip us).length }:=by
      have noA:∀ b:Addr,b ∉ ([]:List Addr):=fun b z=>by cases z
      refine ⟨⟨e0.mod,S.kind,rfl,rfl,Nat.le_refl _,fun y z c h1 h2=>inj y z c h1 h2,fun y hy=>?_,fun y c h _=>?_,fun _=>hr.hd,Around.frames_deeper e0.frames,.inr ⟨rfl,rfl⟩,fun b z=>absurd z (noA b),fun b o e=>⟨(e0.bs b o e).1,nb b (e0.bs b o e).2⟩,e0.bsz,fun b _ _=>noA b,fun b z=>absurd z (noA b),e0.funs,fun b hb=>nb b (e0.frf b hb)⟩,
        rfl,e0.bare,Un.kept hk,⟨_,hns,fun i y v h1 h2 h3=>?_⟩,fun y c h=>?_,nb _ (e0.hok.fresh (Nat.le_refl _)),fun y c h=>?_,fun p hp=>absurd (show p ∈ ([]:List (Addr × Obj)) from hp) (by simp),hokU.kept hk,?_⟩
      · have hy:scope.names.lookup y=some .cell\/scope.names.lookup y=some .free:=hy
        rcases hy with hy | hy
        · exact absurd rfl (S.nocell _ (PySem.mem_of_lookup hy))
        · exact has y hy
      · exact absurd (show false=true from h) Bool.false_ne_true
      · have h1:N[i]?=some y:=h1
        rw [List.getElem?_map] at h2
        cases e:(vs++fr)[i]? with
        | none=>rw [e] at h2;cases h2
        | some v'=>
          rw [e] at h2
          have h2:some v'=some v:=by simpa using h2
          cases h2
          by_cases hi:i < vs.length
          · rw [List.getElem?_append_left hi] at e
            obtain ⟨u,hu,rv⟩:=r.get e
            have hp:ps[i]?=some y:=by
              rw [<- S.pre,List.getElem?_take_of_lt (by omega)]
              exact h1
            refine ⟨u,rv,.inl ⟨S.par y (List.mem_of_getElem? hp),zip_rev ?_ hul hp hu⟩⟩
            have:=S.nd
            rw [<- S.pre]
            exact this.sublist (List.take_sublist _ _)
          · rw [List.getElem?_append_right (by omega)] at e
            obtain ⟨c,o,u,q1,q2,q3,q4⟩:=hfr (i - vs.length) y v e (by rw [<- hl];rw [show vs.length+(i - vs.length)=i by omega];exact h1)
            refine ⟨u,q4,.inr ⟨.inr (S.free y ?_),c,q1,o,hk _ _ (gcs c o q2),q3⟩⟩
            refine List.mem_of_getElem? (i:=i - ps.length) ?_
            rw [List.getElem?_drop,show ps.length+(i - ps.length)=i by omega]
            exact h1
      · obtain ⟨o,ho⟩:=hcl y c h
        obtain ⟨u,hu⟩:=(hcs c o ho).2
        exact ⟨u,o,hk _ _ (gcs c o ho),hu⟩
      · obtain ⟨o,ho⟩:=hcl y c h
        exact unt_in ho
      · show ((vs++fr).map some).length=N.length
        rw [List.length_map,List.length_append,hl,hlen]
    refine PySem.W.kla_codeExpr (wpAny_mono (ht [] _ _ _ _ I hq) (fun u s' hs=>?_) fun e s' hs=>?_)
    · obtain ⟨v,H2,J,rv,q⟩:=hs
      obtain ⟨a1,a2,a3⟩:=un_ovl (fs:=frs outer) (fun c o e=>⟨hcs' c o e,gcs c o e,nfr c o e⟩) J.base J.hok
      exact ⟨v,_,J.os,J.bare,a2,a3,rv,q a1⟩
    · have key:∀ e s'',CXF P w C outer (unt H' cs) s (fun a d H2=>(∀ c o,cs.lookup c=some o->H2 c=none)->E a d (ovl H2 cs)) e s''->CXF P w C outer H' s E e s'':=by
        rintro e s'' ⟨ea,d,T,H2,i,rfl,F,e1,e2,n1,n2,ho,hg,un,hok,hd,hE⟩
        obtain ⟨a1,a2,a3⟩:=un_ovl (fs:=frs outer) (fun c o e=>⟨hcs' c o e,gcs c o e,nfr c o e⟩) un hok
        have nn:∀ b,s.heap.get? b=none->cs.lookup b=none:=fun b z=>by
          cases q:cs.lookup b with
          | none=>rfl
          | some o=>rw [gcs b o q] at z;cases z
        exact ⟨ea,d,T,_,i,rfl,F,e1,e2,by rw [ovl_out (nn _ e1)];exact n1,by rw [ovl_out (nn _ e2)];exact n2,ho,hg,a2,a3,ovl_keep a1 hd,hE a1⟩
      exact wpAny_mono hs (fun _ s'' q=>key _ _ q) fun e' s'' q=>key _ _ q
end
end L2
namespace L2
open PySem PySem.Spec PyProof.Rows
def BMod (base:Heap) (mg:Str->Option Value):Prop:=∃ bm ob,mg "__builtins__"=some (.ref bm)/\bm ≠ builtinsNs/\base.get? bm=some ob/\ob.cls=.type "module"/\ob.dict=some builtinsNs/\ob.data=.plain
def KeepBut (P:Addr) (H H':Hp):Prop:=∀ b o,H b=some o->b ≠ P->H' b=some o
structure LamObj (H:Hp) (f:Addr) (qual:Str) (params:Arguments) (body:Expr) (scope:Scope) (cl:List (Str × Addr)):Prop where
  ex:∃ (c':Addr) (oc:Obj) (pm ctv:Value),H f=some (fz (PySem.W.kla_obj "<lambda>" qual params body scope cl pm c' ctv))/\H c'=some (fz oc)/\∃ vs t,oc.data=.fields vs/\vs[1]?=some (.str qual t)
def tLam (P:Addr) (qual:Str) (params:Arguments) (body:Expr) (scope:Scope) (cl:List (Str × Addr)):TE:=fun _ H Q=>H P=some (.tbl #[])/\∀ (f:Addr) (H2:Hp),KeepBut P H H2->(∃ ps,H2 P=some (.tbl ps))->LamObj H2 f qual params body scope cl->Q (.ref f) H2
theorem pe_lam {X:Cx} {c P:Addr} {params:Arguments} {body:Expr} {scope:Scope} {pos:Pos} {qual:Str} (hcode:X.env.code=.ref c) (hK:PySem.W.codeHdIn X.K c P=true) (BM:BMod X.base X.mg) (hq:X.env.qual++"<lambda>"=qual)
    (hfree:∀ y ∈ scope.names,y.2=.free->∃ c,X.env.cells.lookup y.1=some c) (hdef:defaultsOf params X.env=([],[]):=by rfl):
    PE X (.Lambda params body scope pos) (tLam P qual params body scope (cloFrom X.env.cells scope.names [])):=by
  intro pins s σ H Q I h
  obtain ⟨hP,h⟩:=h
  have gP:s.heap.get? P=some (PySem.W.tabObj #[]):=I.hok P _ hP
  have hgs:s.heap.Ns mainGlobals X.mg:=I.mod.glob.keeps I.bk
  obtain ⟨bm,ob,b1,b2,b3,b4,b5,b6⟩:=BM
  have nP:∀ b o,X.base.get? b=some o->b ≠ P:=fun b o e z=>by
    have q:=(I.bs b o e).2
    rw [z,hP] at q;cases q
  have hgP:mainGlobals ≠ P:=by
    obtain ⟨o,es,ep,e,hd,_⟩:=I.mod.glob
    exact nP _ o e
  have hbG:bm ≠ mainGlobals:=fun q=>by
    obtain ⟨o,es,ep,e,hd,_⟩:=I.mod.glob
    rw [q,e] at b3;cases b3;rw [hd] at b6;cases b6
  refine PySem.W.kla_eval hdef (PySem.W.kla_makeFunction (mg:=X.mg) (closure_ok hfree) I.ok.glob hgs hcode (PySem.W.codeHd_of_K I.kIn hK) gP trivial rfl hgP ⟨bm,ob,b1,b2,hbG,nP _ _ b3,I.bk _ _ b3,b4,b5,b6⟩ fun c' ctv h' tk hx hge hlt hrec htb=>?_)
  rw [hq]
  rw [hq] at hrec
  obtain ⟨c2,oc,vs,t,e2,hoc,hd,hv⟩:=hrec
  cases e2
  generalize hfo:PySem.W.kla_obj "<lambda>" qual params body scope (cloFrom X.env.cells scope.names []) ((X.mg "__name__").getD .none) c' ctv=fo
  have hPs:P < s.heap.objs.size:=Heap.lt_size gP
  have hsz:s.heap.objs.size<=h'.objs.size:=Nat.le_of_lt (Nat.lt_of_le_of_lt hge hlt)
  have nf:H h'.objs.size=none:=I.hok.fresh hsz
  have nc:H c'=none:=I.hok.fresh hge
  have pf:P ≠ h'.objs.size:=Nat.ne_of_lt (Nat.lt_of_lt_of_le hPs hsz)
  have pc:P ≠ c':=Nat.ne_of_lt (Nat.lt_of_lt_of_le hPs hge)
  have cf:c' ≠ h'.objs.size:=Nat.ne_of_lt hlt
  let ps':Array Value:=#[]++#[rawInt pos.line,rawInt pos.col,.ref c']
  let H2:Hp:=upd (upd (upd H P (.tbl ps')) c' (fz oc)) h'.objs.size (fz fo)
  have out:∀ b,b ≠ P->b ≠ c'->b ≠ h'.objs.size->H2 b=H b:=fun b n1 n2 n3=>by
    show upd (upd (upd H P (.tbl ps')) c' (fz oc)) h'.objs.size (fz fo) b=H b
    rw [upd_ne n3,upd_ne n2,upd_ne n1]
  have atP:H2 P=some (.tbl ps'):=by
    show upd (upd (upd H P (.tbl ps')) c' (fz oc)) h'.objs.size (fz fo) P=_
    rw [upd_ne pf,upd_ne pc,upd_same]
  have atC:H2 c'=some (fz oc):=by
    show upd (upd (upd H P (.tbl ps')) c' (fz oc)) h'.objs.size (fz fo) c'=_
    rw [upd_ne cf,upd_same]
  have atF:H2 h'.objs.size=some (fz fo):=upd_same
  have kb:KeepBut P H H2:=fun b o e n=>by
    rw [out b n (ne_of_none e nc) (ne_of_none e nf)];exact e
  have gk:∀ b o,b ≠ P->s.heap.get? b=some o->(h'.push fo).get? b=some o:=fun b o n e=>Heap.get?_push_of_some _ (hx b o n e)
  refine ⟨.ref h'.objs.size,H2,I.un (t':=tk) (h':=h'.push fo) ⟨fun b o e n _ _=>?_,fun b o e n _ _=>?_,fun b o e n _=>?_,fun b o e _=>?_,fun b xs e=>?_,fun b o x e=>?_,fun b ps e=>?_⟩ (fun b o e=>?_),rfl,h _ _ kb ⟨_,atP⟩ ⟨c',oc,_,ctv,by rw [hfo];exact atF,atC,vs,t,hd,hv⟩⟩
  · exact gk b o (fun z=>by rw [z,hP] at n;cases n) e
  · exact ⟨o.slots,gk b o (fun z=>by rw [z,hP] at n;cases n) e⟩
  · have hb:=Heap.lt_size e
    rw [out b (fun z=>by rw [z,hP] at n;cases n) (Nat.ne_of_lt (Nat.lt_of_lt_of_le hb hge)) (Nat.ne_of_lt (Nat.lt_of_lt_of_le hb hsz))]
    exact n
  · by_cases z:b=P
    · rw [z];exact ⟨_,Heap.get?_push_of_some _ htb⟩
    · exact ⟨o,gk b o z e⟩
  · exact kb b _ e fun z=>by rw [z,hP] at e;cases e
  · exact kb b _ e fun z=>by rw [z,hP] at e;cases e
  · by_cases z:b=P
    · subst z
      rw [hP] at e
      cases e
      exact ⟨_,atP⟩
    · exact ⟨#[],by rw [kb b _ e z,Array.append_empty]⟩
  · by_cases z1:b=h'.objs.size
    · rw [z1] at e ⊢
      rw [atF] at e
      cases e
      exact fz_ok (Heap.get?_push_size _ (by rw [<- hfo];rfl))
    · by_cases z2:b=c'
      · rw [z2] at e ⊢
        rw [atC] at e
        cases e
        exact fz_ok (Heap.get?_push_of_some _ hoc)
      · by_cases z3:b=P
        · rw [z3] at e ⊢
          rw [atP] at e
          cases e
          exact Heap.get?_push_of_some _ htb
        · rw [out b z3 z2 z1] at e
          refine (I.hok b o e).stay (fun d v hd' q=>gk d v ?_ q) (fun d q=>kb d _ q fun z=>by rw [z,hP] at q;cases q) fun d xs q=>kb d _ q fun z=>by rw [z,hP] at q;cases q
          rcases hd' with z | z
          · rw [z];exact z3
          · intro y;rw [y,hP] at z;cases z
structure CellsAt (env:Env) (σ:St) (L:List (Str × Nat)) (H:Hp) (cs:List (Addr × Obj)):Prop where
  free:∀ c o,cs.lookup c=some o->H c=none/\∃ u,o.data=.cell u
  inj:∀ x y c,env.cells.lookup x=some c->env.cells.lookup y=some c->x=y
  val:∀ x i v,(x,i) ∈ L->σ[i]?=some (some v)->∃ c o u,env.cells.lookup x=some c/\cs.lookup c=some o/\o.data=.cell (some u)/\RelV v u
theorem mk_cells {X:Cx} {pins:List (Addr × Obj)} {σ:St} {H:Hp} {s:Shared} (I:Inv X pins σ H s):∀ (L:List (Str × Nat)),(∀ x i,(x,i) ∈ L->X.N[i]?=some x/\X.env.scope.names.lookup x=some .cell/\X.fn x=true/\∃ v,σ[i]?=some (some v))->
    ∃ cs:List (Addr × Obj),(∀ c o,cs.lookup c=some o->s.heap.get? c=some o/\(∃ u,o.data=.cell u)/\∃ x,X.env.cells.lookup x=some c/\X.fn x=true) ∧
      ∀ x i v,(x,i) ∈ L->σ[i]?=some (some v)->∃ c o u,X.env.cells.lookup x=some c/\cs.lookup c=some o/\o.data=.cell (some u)/\RelV v u
  | [],_=>⟨[],⟨fun c o e=>absurd e (by simp),fun x i v e=>absurd e (by simp)⟩⟩
  | (x,i)::L,h=>by
    obtain ⟨cs,h1,h2⟩:=mk_cells I L fun y j hy=>h y j (List.mem_cons_of_mem _ hy)
    obtain ⟨hN,hk,hf,v,hv⟩:=h x i List.mem_cons_self
    obtain ⟨m,hn,hl⟩:=I.loc
    obtain ⟨u,r,l⟩:=hl i x v hN hv (.inr (.inl hk))
    obtain ⟨c,hc,o,ho,hd⟩:∃ c,X.env.cells.lookup x=some c/\s.heap.IsCell c (some u):=by
      rcases l with ⟨z,_⟩ | ⟨_,c,q1,q2⟩
      · have z':X.env.scope.names.lookup x=some .local:=z
        rw [hk] at z';cases z'
      · exact ⟨c,q1,q2⟩
    refine ⟨(c,o)::cs,fun c' o' e=>?_,fun y j v' hy hv'=>?_⟩
    · rw [List.lookup_cons] at e
      cases hb:c' == c with
      | true=>
        rw [hb] at e
        cases e
        rw [beq_iff_eq.mp hb]
        exact ⟨ho,⟨_,hd⟩,x,hc,hf⟩
      | false=>rw [hb] at e;exact h1 c' o' e
    · rcases List.mem_cons.mp hy with e | hy
      · cases e
        rw [hv] at hv'
        cases hv'
        exact ⟨c,o,u,hc,by rw [List.lookup_cons,beq_self_eq_true],hd,r⟩
      · obtain ⟨c',o',u',q1,q2,q3,q4⟩:=h2 y j v' hy hv'
        cases hb:c' == c with
        | true=>
          have eb:=beq_iff_eq.mp hb
          have g:=(h1 c' o' q2).1
          rw [eb,ho] at g
          cases g
          exact ⟨c',o,u',q1,by rw [List.lookup_cons,hb],q3,q4⟩
        | false=>exact ⟨c',o',u',q1,by rw [List.lookup_cons,hb];exact q2,q3,q4⟩
def tCallC (env:Env) (L:List (Str × Nat)) (sp:Sp) (E:XK) (t:TA):TE:=fun σ H Q=>(∀ x i,(x,i) ∈ L->∃ v,σ[i]?=some (some v))/\t σ H fun vs H1=>∀ cs,CellsAt env σ L H1 cs->
  sp vs (ovl H1 cs) (fun v H'=>(∀ c o,cs.lookup c=some o->H' c=some (fz o))->Q v (unt H' cs)) fun a d H'=>(∀ c o,cs.lookup c=some o->H' c=some (fz o))->E a d (unt H' cs)
section
variable {X:Cx} {C:Addr} {k:Nat} {E:XK} {x:Str} {p pos:Pos} {e:Expr} {es:List Expr} {t:TA} {sp:Sp} {ps:List Str} {g:Addr} {fd:FuncData} {L:List (Str × Nat)}
theorem pe_callC (F:FnOk X.prog X.w X.K X.mg X.base (CXF X.prog X.w C) k g fd ps sp) (hr:Room k X.A) (hg:Gl X x) (hm:X.mg x=some (.ref g)) (hk:PySem.W.keepIn X.K (.ref g)=true) (hb:Binds X.K fd ps []) (hx:Passes (CXF X.prog X.w C) X E)
    (hL:∀ y i,(y,i) ∈ L->X.N[i]?=some y/\X.env.scope.names.lookup y=some .cell/\X.fn y=true) (ha:PA X (e::es) t) (hdb:(x == ("__debug__":Str))=false:=by decide)
    (he:starEach (e::es) X.env=(false,eval e X.env)::starEach es X.env:=by rfl) (hpl:(backTo pos (starEach es X.env)).any (·.1)=false:=by rfl):
    PE X (.Call (.Name x p) (e::es) [] pos) (tCallC X.env L sp E t):=by
  intro pins s σ H Q I h
  obtain ⟨hs,h⟩:=h
  refine wpAny_Call_Name_kw (ld_glob I hg hm ?_ hdb)
  refine PySem.W.callWith_K (h₀:=X.base) I.ok.mod.kin hk (thn (ha pos pins s σ H _ I h) fun us s1 ⟨vs,H1,I1,r,q⟩=>⟨I1.kIn,?_⟩) he hpl
  obtain ⟨cs,c1,c2⟩:=mk_cells I1 L fun y i hy=>⟨(hL y i hy).1,(hL y i hy).2.1,(hL y i hy).2.2,hs y i hy⟩
  have cfree:∀ c o,cs.lookup c=some o->H1 c=none:=fun c o z=>by
    obtain ⟨_,_,y,hy,_⟩:=c1 c o z
    exact I1.freeC y c hy
  have cup:∀ c o,cs.lookup c=some o->X.s_0.heap.objs.size<=c:=fun c o z=>by
    obtain ⟨_,_,y,hy,hf⟩:=c1 c o z
    exact I1.ok.cab y c hf hy
  have cnf:∀ c o,cs.lookup c=some o->c ∉ frs X.stack:=fun c o z hb'=>by
    rcases List.mem_cons.mp (I1.stkSub c hb') with w | w
    · obtain ⟨_,_,y,hy,_⟩:=c1 c o z
      exact I1.cne y c hy w
    · obtain ⟨_,o',ho',_⟩:=I1.ok.funs.mem w
      exact absurd (Nat.lt_of_lt_of_le (Heap.lt_size ho') (cup c o z)) (Nat.lt_irrefl _)
  have q:=q cs ⟨fun c o z=>⟨cfree c o z,(c1 c o z).2.1⟩,I1.ok.inj,c2⟩
  have e0:Env0 X.prog X.w X.K X.mg X.base X.A X.stack s1 (ovl H1 cs):=by
    have e1:=I1.env0
    refine ⟨e1.frames,e1.mod,fun b o z=>⟨(e1.bs b o z).1,?_⟩,e1.bsz,e1.funs,fun b hb'=>?_,hok_ovl (fun c o z=>⟨cfree c o z,(c1 c o z).1⟩) e1.hok,e1.bare⟩
    · cases q':cs.lookup b with
      | none=>rw [ovl_out q'];exact (e1.bs b o z).2
      | some o'=>exact absurd (Nat.lt_of_lt_of_le (Nat.lt_of_lt_of_le (Heap.lt_size z) I1.ok.bsz) (cup b o' q')) (Nat.lt_irrefl _)
    · cases q':cs.lookup b with
      | none=>rw [ovl_out q'];exact e1.frf b hb'
      | some o'=>exact absurd hb' (cnf b o' q')
  have hl:us.length=ps.length:=by rw [<- r.length];exact F.len _ _ _ _ q
  have hbb:=hb s1 us I1.kIn (by rw [List.append_nil];exact hl)
  rw [List.append_nil] at hbb
  have hcs:∀ c o,cs.lookup c=some o->s1.heap.get? c=some o/\H1 c=none/\c ∉ frs X.stack:=fun c o z=>⟨(c1 c o z).1,cfree c o z,cnf c o z⟩
  refine wpAny_call (codeAny_mono (F.run X.A X.stack s1 (ovl H1 cs) ⟨us,[]⟩ us vs _ _ hr e0 hbb r q) fun r s' hq=>?_)
  cases r with
  | error e=>
    refine hx pins σ H1 s1 e s' I1 ?_
    obtain ⟨ea,d,T,H',i,rfl,F',e1,e2,n1,n2,ho,hg,un,hok,hd,hE⟩:=hq
    obtain ⟨a1,a2,a3⟩:=un_unt hcs un hok
    have nn:∀ b,s1.heap.get? b=none->cs.lookup b=none:=fun b z=>by
      cases q':cs.lookup b with
      | none=>rfl
      | some o=>rw [(c1 b o q').1] at z;cases z
    exact ⟨ea,d,T,_,i,rfl,F',e1,e2,by rw [unt_out (nn _ e1)];exact n1,by rw [unt_out (nn _ e2)];exact n2,ho,hg,a2,a3,unt_keep a1 hd (fun _ z=>by cases z),hE a1⟩
  | ok fl=>
    cases fl with
    | ret u=>
      obtain ⟨v,H',os,bare,un,hok,rv,q'⟩:=hq
      obtain ⟨a1,a2,a3⟩:=un_unt hcs un hok
      exact I1.after ⟨v,_,os,bare,a2,a3,rv,q' a1⟩
    | next=>exact False.elim hq
    | brk=>exact False.elim hq
    | cont=>exact False.elim hq
end
structure LamAt (P:Program) (w:World) (K:PySem.W.Frag) (mg:Str->Option Value) (base:Heap) (C:Addr) (H:Hp) (f:Addr) (cs:List (Addr × Obj)) (qual:Str) (body:Expr) (scope:Scope) (N ps:List Str) (fr:List V):Prop where
  run:∀ (k:Nat) (sp:Sp),(∀ vs H Q E,sp vs H Q E->vs.length=ps.length)->
    (∀ (cd:Value) (cl:List (Str × Addr)) (A:Around) (outer:List Env) (s:Shared) (H':Hp) (vs:List V) (Q:VK) (E:XK),Frz H H'->Room k (A.deeper (envL qual scope s.heap.objs.size f cd cl))->sp vs H' Q E->
      ∃ t,PE (cxLam P w K mg base C N qual scope f cd cl A outer s (unt H' cs) (fun a d H2=>(∀ c o,cs.lookup c=some o->H2 c=none)->E a d (ovl H2 cs))) body t/\t ((vs++fr).map some) (unt H' cs) fun v H2=>(∀ c o,cs.lookup c=some o->H2 c=none)->Q v (ovl H2 cs))->
    Clb P w K mg base C (k+1) H f ps.length sp
theorem lamAt {P:Program} {w:World} {K:PySem.W.Frag} {mg:Str->Option Value} {base:Heap} {C:Addr} {env:Env} {σ:St} {L:List (Str × Nat)} {H:Hp} {f:Addr} {cs:List (Addr × Obj)} {qual:Str} {params:Arguments} {body:Expr} {scope:Scope} {N ps:List Str} {fr:List V}
    (O:LamObj H f qual params body scope (cloFrom env.cells scope.names [])) (Z:CellsAt env σ L H cs) (hL:∀ x,(x,.free) ∈ scope.names->∃ i v,(x,i) ∈ L/\σ[i]?=some (some v)) (S:LamScope N ps scope) (hlen:N.length=ps.length+fr.length)
    (hfr:∀ (j:Nat) (x:Str) (v:V),fr[j]?=some v->N[ps.length+j]?=some x->∃ i,(x,i) ∈ L/\σ[i]?=some (some v))
    (hb:∀ (cl:List (Str × Addr)) (pm cd ctv:Value) (us:List Value),us.length=ps.length->bindArgs (PySem.W.kla_fn "<lambda>" qual params body scope cl pm cd ctv) ⟨us,[]⟩=pure (ps.zip us)):
    LamAt P w K mg base C (ovl H cs) f cs qual body scope N ps fr:=by
  obtain ⟨c',oc,pm,ctv,h1,h2,h3⟩:=O.ex
  have inn:∀ x c,(cloFrom env.cells scope.names []).lookup x=some c->(x,.free) ∈ scope.names/\env.cells.lookup x=some c:=fun x c e=>by
    rcases cloFrom_mem (PySem.mem_of_lookup e) with z | ⟨z1,z2⟩
    · cases z
    · refine ⟨z1,?_⟩
      obtain ⟨i,v,m1,m2⟩:=hL x z1
      obtain ⟨c2,o,u,q1,_⟩:=Z.val x i v m1 m2
      rw [q1] at z2 ⊢
      rw [z2]
      rfl
  have nz:∀ c o,cs.lookup c=some o->H c=none:=fun c o e=>(Z.free c o e).1
  have has:∀ x,scope.names.lookup x=some .free->∃ c,(cloFrom env.cells scope.names []).lookup x=some c:=fun x e=>mem_lookup (cloFrom_has (PySem.mem_of_lookup e))
  refine ⟨fun k sp len hbody=>lam_clb (cl:=cloFrom env.cells scope.names []) (ovl_keep nz h1) (ovl_keep nz h2) h3 cs (fun c o e=>⟨ovl_in e,(Z.free c o e).2⟩) (fun x c e=>?_) (fun x y c e1 e2=>Z.inj x y c (inn x c e1).2 (inn y c e2).2) S has hlen (fun j x v e1 e2=>?_) (fun us hl=>hb _ _ _ _ us hl) len fun A outer s H' vs Q E=>hbody _ _ A outer s H' vs Q E⟩
  · obtain ⟨z1,z2⟩:=inn x c e
    obtain ⟨i,v,m1,m2⟩:=hL x z1
    obtain ⟨c2,o,u,q1,q2,_⟩:=Z.val x i v m1 m2
    rw [z2] at q1
    cases q1
    exact ⟨o,q2⟩
  · obtain ⟨i,m1,m2⟩:=hfr j x v e1 e2
    obtain ⟨c2,o,u,q1,q2,q3,q4⟩:=Z.val x i v m1 m2
    have hx:scope.names.lookup x=some .free:=S.free x (List.mem_of_getElem? (i:=j) (by rw [List.getElem?_drop];exact e2))
    obtain ⟨c3,hc3⟩:=has x hx
    have:=(inn x c3 hc3).2
    rw [q1] at this
    cases this
    exact ⟨c2,o,u,hc3,q2,q3,q4⟩
structure FunT (K:PySem.W.Frag) (x qual:Str) (st:Stmt) (f:Addr) (fd:FuncData) (c P:Addr):Prop where
  ex:∃ (oc:Value) (od:Option Addr) (kV doc pm:Value) (an:Option Addr) (ct:Value) (osl:Array (Option Value)),
    fd=PySem.W.fnOf x qual (defArgs st) (defBody st) (defScope st) .none kV doc pm an (.ref c) ct/\K.lookup f=some ⟨oc,od,.func fd,osl⟩/\PySem.W.codeIn K (.ref c) qual=true
  hd:PySem.W.codeHdIn K c P=true
  kp:PySem.W.keepIn K (.ref f)=true
theorem FunT.okT {P:Program} {w:World} {K:PySem.W.Frag} {mg:Str->Option Value} {base:Heap} {CX:CXT} {x qual:Str} {st:Stmt} {f:Addr} {fd:FuncData} {c Pt:Addr} {N ps:List Str} {k:Nat} {sp:Sp} (F:FunT K x qual st f fd c Pt) (S:FnScope N ps (defScope st)) (len:∀ vs H Q E,sp vs H Q E->vs.length=ps.length)
    (hbody:∀ (A:Around) (outer:List Env) (s:Shared) (H:Hp) (vs:List V) (Q:VK) (E:XK),Room k (A.deeper (envOfC qual (defScope st) s.heap.objs.size f (.ref c)))->sp vs H Q E->
      ∃ t,PSs (cxOf CX P w K mg base N qual (defScope st) f (.ref c) A outer s H E) (defBody st) t/\t { nx:=fun _ H'=>Q .non H',rt:=Q } (start N vs) H):FnOk P w K mg base CX (k+1) f fd ps sp:=by
  obtain ⟨oc,od,kV,doc,pm,an,ct,osl,rfl,lk,hcd⟩:=F.ex
  exact fn_of lk hcd S len hbody
end L2
namespace Lu
open PySem PySem.Spec PyProof.Rows L2 Lute
def top (i:Nat):Stmt:=PySem.Challenge.pw_lutesettings_s06_ways.main.body.getD i (.Pass ⟨0,0,0,0⟩)
abbrev s_Fault_init:Stmt:=inClass (top 5) 0
abbrev s_Cursor_init:Stmt:=inClass (top 6) 0
abbrev s_Cursor_byte:Stmt:=inClass (top 6) 1
abbrev s_Cursor_advance:Stmt:=inClass (top 6) 2
abbrev s_Cursor_take:Stmt:=inClass (top 6) 3
abbrev s_Cursor_take_word:Stmt:=inClass (top 6) 4
abbrev s_Placings_init:Stmt:=inClass (top 10) 0
abbrev s_Placings_count_from:Stmt:=inClass (top 10) 1
abbrev s_note_units:Stmt:=top 11
abbrev s_choices_on_course:Stmt:=top 12
abbrev s_count_placings:Stmt:=top 13
abbrev s_width:Stmt:=top 27
abbrev s_is_within_bounds:Stmt:=top 28
abbrev s_upon:Stmt:=top 29
abbrev s_common_factor_of_all:Stmt:=top 30
abbrev s_common_factor:Stmt:=top 31
abbrev s_read_interval:Stmt:=top 32
abbrev s_read_factors:Stmt:=top 33
abbrev s_read_digit_of_factor:Stmt:=top 34
abbrev s_read_power:Stmt:=top 35
abbrev s_read_signed_number:Stmt:=top 36
abbrev s_read_number:Stmt:=top 37
abbrev s_with_common_parts:Stmt:=top 38
abbrev s_read_instrument:Stmt:=top 50
abbrev s_read_string_length:Stmt:=top 51
abbrev s_read_fret:Stmt:=top 52
abbrev s_read_course:Stmt:=top 53
abbrev s_read_bass:Stmt:=top 54
abbrev s_begin_line:Stmt:=top 55
abbrev s_read_line_interval:Stmt:=top 56
abbrev s_read_lines:Stmt:=top 61
abbrev s_read_length:Stmt:=top 62
abbrev s_read_length_sign:Stmt:=top 63
abbrev s_read_song:Stmt:=top 68
abbrev s_read_notes:Stmt:=top 69
abbrev s_read_note:Stmt:=top 70
abbrev s_ways:Stmt:=top 78
abbrev s_asked_of_song_and_instrument:Stmt:=top 79
abbrev s_asked_of_texts:Stmt:=top 80
abbrev s_read_or_none:Stmt:=top 81
abbrev s_moments_of:Stmt:=top 82
abbrev s_ways_of_moment:Stmt:=top 83
end Lu
namespace Lu
open PySem PySem.Spec PyProof.Rows L2 Lute
def tx (t:Bytes):List V:=t.map fun c=>V.int (c.toNat:Int)
def st (t:Bytes) (p e:Nat):Bytes:=(t.take e).drop p
def headI:Bytes->Int
  | []=>-1
  | c::_=>(c.toNat:Int)
def cf (a:Addr) (p e:Nat):List (Str × V):=putF "end" (.int (e:Int)) (putF "place" (.int (p:Int)) (putF "text" (.ref a) []))
theorem cf_text (a:Addr) (p e:Nat):(cf a p e).lookup ("text":Str)=some (.ref a):=by
  unfold cf
  rw [lookup_putF,if_neg (by decide),lookup_putF,if_neg (by decide),lookup_putF,if_pos rfl]
theorem cf_place (a:Addr) (p e:Nat):(cf a p e).lookup ("place":Str)=some (.int (p:Int)):=by
  unfold cf
  rw [lookup_putF,if_neg (by decide),lookup_putF,if_pos rfl]
theorem cf_end (a:Addr) (p e:Nat):(cf a p e).lookup ("end":Str)=some (.int (e:Int)):=by
  unfold cf
  rw [lookup_putF,if_pos rfl]
theorem cf_put (a:Addr) (p q e:Nat):putF "place" (.int (q:Int)) (cf a p e)=cf a q e:=by
  have h1:¬ ("text":Str)="place":=by decide
  have h2:¬ ("text":Str)="end":=by decide
  have h3:¬ ("place":Str)="end":=by decide
  simp only [cf,putF,if_neg h1,if_neg h2,if_neg h3,if_true]
theorem cf_no (a:Addr) (p e:Nat) {m:Str} (h:¬ m="text") (h2:¬ m="place") (h3:¬ m="end"):(cf a p e).lookup m=none:=by
  unfold cf
  rw [lookup_putF,if_neg h3,lookup_putF,if_neg h2,lookup_putF,if_neg h]
  rfl
structure Cur (K:PySem.W.Frag) (B:Addr) (H:Hp) (c a:Addr) (t:Bytes) (p e:Nat):Prop where
  at_:∃ dx,H c=some (.ins B dx (cf a p e))
  txt:SqL K H a (tx t)
  le:p<=e
  len:e<=t.length
def Keep (H H':Hp) (c:Addr):Prop:=∀ b o,H b=some o->b ≠ c->H' b=some o
theorem Keep.refl (H:Hp) (c:Addr):Keep H H c:=fun _ _ h _=>h
theorem Keep.trans {H H1 H2:Hp} {c:Addr} (a:Keep H H1 c) (b:Keep H1 H2 c):Keep H H2 c:=fun x o h hx=>b x o (a x o h hx) hx
theorem Keep.of {H H':Hp} {c:Addr} (s:Same H H'):Keep H H' c:=fun b o h _=>s b o h
theorem SqL.keep {K:PySem.W.Frag} {H H':Hp} {c a:Addr} {xs:List V} {B dx:Addr} {fs:List (Str × V)} (k:Keep H H' c) (hc:H c=some (.ins B dx fs)) (h:SqL K H a xs):SqL K H' a xs:=by
  rcases h with (h | ⟨o,h⟩) | h
  · exact .inl (.inl (k _ _ h (ne_of h hc (by intro z;cases z))))
  · exact .inl (.inr ⟨o,k _ _ h (ne_of h hc (by intro z;cases z))⟩)
  · exact .inr h
theorem Cur.move {K:PySem.W.Frag} {B:Addr} {H H':Hp} {c a:Addr} {t:Bytes} {p q e:Nat} (u:Cur K B H c a t p e) (k:Keep H H' c) (h:∃ dx,H' c=some (.ins B dx (cf a q e))) (hq:q<=e):Cur K B H' c a t q e:=
  let ⟨_,hc⟩:=u.at_
  ⟨h,SqL.keep k hc u.txt,hq,u.len⟩
theorem Cur.same {K:PySem.W.Frag} {B:Addr} {H H':Hp} {c a:Addr} {t:Bytes} {p e:Nat} (u:Cur K B H c a t p e) (s:Same H H'):Cur K B H' c a t p e:=
  let ⟨dx,hc⟩:=u.at_
  u.move (Keep.of s) ⟨dx,s _ _ hc⟩ u.le
theorem st_nil {t:Bytes} {p e:Nat} (h:e<=t.length) (hp:p<=e):st t p e=[] ↔ p=e:=by
  unfold st
  rw [List.drop_eq_nil_iff,List.length_take]
  omega
theorem st_cons {t:Bytes} {p e:Nat} (h:e<=t.length) (hp:p < e):∃ c,t[p]?=some c/\st t p e=c::st t (p+1) e:=by
  have hl:p < (t.take e).length:=by rw [List.length_take];omega
  refine ⟨t[p]'(by omega),by rw [List.getElem?_eq_getElem],?_⟩
  unfold st
  rw [List.drop_eq_getElem_cons hl,List.getElem_take]
theorem st_drop (t:Bytes) (p e k:Nat):(st t p e).drop k=st t (p+k) e:=by
  unfold st
  rw [List.drop_drop]
theorem st_len {t:Bytes} {p e:Nat} (h:e<=t.length):(st t p e).length=e - p:=by
  unfold st
  rw [List.length_drop,List.length_take]
  omega
theorem tx_at {t:Bytes} {p:Nat} {c:UInt8} (h:t[p]?=some c):atI (tx t) (p:Int)=some (V.int (c.toNat:Int)):=atI_nat (by
  unfold tx
  rw [List.getElem?_map,h]
  rfl)
def Err (C:Addr) (E:XK) (x:Nat):Prop:=∀ (H':Hp) (d:Addr),H' d=some (.xd (xfs (x:Int)))->E (.ref C) (some d) H'
section
variable (K:PySem.W.Frag) (B C:Addr)
def spInit:Sp:=fun vs H Q _=>∃ (x dx a:Addr) (p e:Nat),vs=[.ref x,.ref a,.int (p:Int),.int (e:Int)]/\H x=some (.ins B dx [])/\∀ H':Hp,H' x=some (.ins B dx (cf a p e))->Keep H H' x->Q .non H'
def spByte:Sp:=fun vs H Q _=>∃ (c a:Addr) (t:Bytes) (p e:Nat),vs=[.ref c]/\Cur K B H c a t p e/\Q (.int (headI (st t p e))) H
def spAdv:Sp:=fun vs H Q _=>∃ (c dx a:Addr) (p e:Nat),vs=[.ref c]/\H c=some (.ins B dx (cf a p e))/\∀ H':Hp,H' c=some (.ins B dx (cf a (p+1) e))->Keep H H' c->Q .non H'
def spTake:Sp:=fun vs H Q E=>∃ (c a:Addr) (t:Bytes) (p e:Nat) (z:UInt8),vs=[.ref c,.int (z.toNat:Int)]/\Cur K B H c a t p e ∧
  (headI (st t p e)=(z.toNat:Int)->∀ H':Hp,Cur K B H' c a t (p+1) e->Keep H H' c->Q .non H')/\(¬ headI (st t p e)=(z.toNat:Int)->Err C E p)
def spRead {α:Type} (vl:α->V->Hp->Prop) (rd:Nat->Bytes->Rd α):Sp:=fun vs H Q E=>∃ (c a:Addr) (t:Bytes) (p e:Nat),vs=[.ref c]/\Cur K B H c a t p e ∧
  match rd p (st t p e) with
  | .error x=>Err C E x
  | .ok (v,q,_)=>∀ (H':Hp) (y:V),Cur K B H' c a t q e->Keep H H' c->vl v y H'->Q y H'
end
structure Txt (K:PySem.W.Frag) (mg:Str->Option Value) (B C:Addr):Prop where
  cl:Cls K B
  nT:NoAttr K B "text"
  nP:NoAttr K B "place"
  nE:NoAttr K B "end"
  xt:XTxt K C s_Fault_init
  mC:mg "Fault"=some (.ref C)
  len:mg "len"=none
  abs:mg "abs"=none
  sum:mg "sum"=none
  zip:mg "zip"=none
  ord:mg "ord"=none
  cEND:Cst mg "END" (.int (-1))
  cMINUS:Cst mg "MINUS" (.int 45)
  cSLASH:Cst mg "SLASH" (.int 47)
  cZERO:Cst mg "ZERO" (.int 48)
  cONE:Cst mg "ONE" (.int 49)
  cNINE:Cst mg "NINE" (.int 57)
  cCARET:Cst mg "CARET" (.int 94)
  cMD:Cst mg "MOST_DIGITS" (.int 4)
  cMP:Cst mg "MOST_POWER" (.int 99)
  cMA:Cst mg "MOST_PARTS" (.int 24)
  cCP:Cst mg "COMMON_PARTS" (.int 5354228880)
  cNL:Cst mg "NEW_LINE" (.int 10)
  cCO:Cst mg "COMMA" (.int 44)
  cPO:Cst mg "POINT" (.int 46)
  cBS:Cst mg "BAR_SIGN" (.int 124)
  cBI:Cst mg "BLANK" (.int 32)
  cBT:Cst mg "BLANK" (.int 32)
  cML:Cst mg "MOST_LINES" (.int 512)
  cMN:Cst mg "MOST_NOTES" (.int 14)
  fac:∃ a,Cst mg "FACTORS" (.ref a)/\KDict K a [(50,0),(51,1),(53,2),(55,3)]
  lgs:∃ a,Cst mg "LENGTHS" (.ref a)/\KDict K a [(120,1),(116,2),(115,4),(101,8),(113,16),(104,32),(119,64)]
  log:∃ a,Cst mg "LOGARITHMS" (.ref a)/\∀ H,SqT K H a [.int 6931471805599453094172321214581765680755,.int 10986122886681096913952452369225257046474,.int 16094379124341003746007593332261876395256,.int 19459101490553133051053527434431797296370]
  fst:Cst mg "FIRST_LINE" (.str "song")
section
variable {P:Program} {w:World} {K:PySem.W.Frag} {mg:Str->Option Value} {base:Heap} {B C:Addr}
theorem scCI:FnScope ["self","text","place","end"] ["self","text","place","end"] (defScope s_Cursor_init):=⟨rfl,rfl,rfl,by decide +kernel,rfl,by decide +kernel,by decide +kernel⟩
theorem ok_cinit {f:Addr} {fd:FuncData} (F:Fun K "__init__" "Cursor.__init__" s_Cursor_init f fd) (T:Txt K mg B C):FnOk P w K mg base (CXF P w C) 1 f fd ["self","text","place","end"] (spInit B):=by
  refine F.okX scCI (fun vs H Q E h=>?_) (fun cdv A outer s H vs Q E hr h=>?_)
  · obtain ⟨x,dx,a,p,e,rfl,_⟩:=h
    rfl
  · obtain ⟨x,dx,a,p,e,rfl,hx,k⟩:=h
    refine ⟨_,pss_cons (ps_fld (pv 0) (pv 1) rfl) (pss_cons (ps_fld (pv 0) (pv 2) rfl) (pss_one (ps_fld (pv 0) (pv 3) rfl))),?_⟩
    refine ⟨_,rfl,_,rfl,x,B,dx,[],rfl,hx,T.cl,T.nT,(by show 0 < 1000;decide),?_⟩
    refine ⟨_,rfl,_,rfl,x,B,dx,_,rfl,upd_same,T.cl,T.nP,(by show 1 < 1000;decide),?_⟩
    refine ⟨_,rfl,_,rfl,x,B,dx,_,rfl,upd_same,T.cl,T.nE,(by show 2 < 1000;decide),?_⟩
    rw [upd_upd,upd_upd]
    exact k _ upd_same fun b o h hb=>by rw [upd_ne hb];exact h
theorem scCB:FnScope ["self"] ["self"] (defScope s_Cursor_byte):=⟨rfl,rfl,rfl,by decide +kernel,rfl,by decide +kernel,by decide +kernel⟩
theorem ok_cbyte {f:Addr} {fd:FuncData} (F:Fun K "byte" "Cursor.byte" s_Cursor_byte f fd) (T:Txt K mg B C):FnOk P w K mg base (CXF P w C) 1 f fd ["self"] (spByte K B):=by
  refine F.okX scCB (fun vs H Q E h=>?_) (fun cdv A outer s H vs Q E hr h=>?_)
  · obtain ⟨c,a,t,p,e,rfl,_⟩:=h
    rfl
  · obtain ⟨c,a,t,p,e,rfl,u,q⟩:=h
    obtain ⟨dx,hc⟩:=u.at_
    refine ⟨_,pss_cons (ps_if (pt_cmpR op_eq (pe_fld (pv 0) rfl) (pe_fld (pv 0) rfl) (nomark _)) (pss_one (ps_ret (pe_cst T.cEND))) pss_nil) (pss_one (ps_ret (pe_ix ix_list (pe_fld (pv 0) rfl) (pe_fld (pv 0) rfl) (fun _ _=>rfl)))),?_⟩
    refine ⟨_,rfl,c,B,dx,_,_,rfl,hc,T.cl,T.nP,cf_place _ _ _,_,rfl,c,B,dx,_,_,rfl,hc,T.cl,T.nE,cf_end _ _ _,rfl,_,rfl,?_⟩
    refine ite2 (fun h=>?_) fun h=>?_
    · have h':(V.int (p:Int))=V.int (e:Int):=of_decide_eq_true h
      have e1:p=e:=by injection h' with h';omega
      have e2:=(st_nil u.len u.le).mpr e1
      show Q (.int (-1)) H
      rw [e2] at q
      exact q
    · have h':¬ (V.int (p:Int))=V.int (e:Int):=fun z=>h (decide_eq_true z)
      have e1:p ≠ e:=fun z=>h' (by rw [z])
      obtain ⟨b,hb,e2⟩:=st_cons u.len (Nat.lt_of_le_of_ne u.le e1)
      rw [e2] at q
      refine ⟨_,rfl,c,B,dx,_,_,rfl,hc,T.cl,T.nT,cf_text _ _ _,_,rfl,c,B,dx,_,_,rfl,hc,T.cl,T.nP,cf_place _ _ _,a,_,_,_,rfl,rfl,u.txt,tx_at hb,q⟩
theorem scCA:FnScope ["self"] ["self"] (defScope s_Cursor_advance):=⟨rfl,rfl,rfl,by decide +kernel,rfl,by decide +kernel,by decide +kernel⟩
theorem ok_cadv {f:Addr} {fd:FuncData} (F:Fun K "advance" "Cursor.advance" s_Cursor_advance f fd) (T:Txt K mg B C):FnOk P w K mg base (CXF P w C) 1 f fd ["self"] (spAdv B):=by
  refine F.okX scCA (fun vs H Q E h=>?_) (fun cdv A outer s H vs Q E hr h=>?_)
  · obtain ⟨c,dx,a,p,e,rfl,_⟩:=h
    rfl
  · obtain ⟨c,dx,a,p,e,rfl,hc,k⟩:=h
    refine ⟨_,pss_one (ps_fldaug (pv 0) pe_int in_add),?_⟩
    refine ⟨_,rfl,c,B,dx,_,_,rfl,hc,T.cl,T.nP,cf_place _ _ _,_,_,rfl,rfl,dx,_,hc,(by show 3 < 1000;decide),?_⟩
    exact k _ (by rw [upd_same];exact congrArg (fun q=>some (HO.ins B dx q)) (cf_put a p (p+1) e)) fun b o h hb=>by rw [upd_ne hb];exact h
structure Crs (P:Program) (w:World) (K:PySem.W.Frag) (mg:Str->Option Value) (base:Heap) (B C:Addr):Prop where
  byte:Mth P w K mg base C B 1 "byte" ["self"] (spByte K B)
  adv:Mth P w K mg base C B 1 "advance" ["self"] (spAdv B)
theorem scCT:FnScope ["self","wanted"] ["self","wanted"] (defScope s_Cursor_take):=⟨rfl,rfl,rfl,by decide +kernel,rfl,by decide +kernel,by decide +kernel⟩
theorem ok_ctake {f:Addr} {fd:FuncData} (F:Fun K "take" "Cursor.take" s_Cursor_take f fd) (T:Txt K mg B C) (M:Crs P w K mg base B C):FnOk P w K mg base (CXF P w C) 3 f fd ["self","wanted"] (spTake K B C):=by
  refine F.okX scCT (fun vs H Q E h=>?_) (fun cdv A outer s H vs Q E hr h=>?_)
  · obtain ⟨c,a,t,p,e,z,rfl,_⟩:=h
    rfl
  · obtain ⟨c,a,t,p,e,z,rfl,u,k1,k2⟩:=h
    obtain ⟨dx,hc⟩:=u.at_
    have hr1:=hr.mono (show 1<=2 by decide)
    refine ⟨_,pss_cons (ps_if (pt_cmpR op_ne (pe_mt0 M.byte hr1 (pv 0)) (pv 1) (nomark _)) (pss_one (ps_raise T.xt hr rfl T.mC (pe_fld (pv 0) rfl))) pss_nil) (pss_one (ps_expr (pe_mt0 M.adv hr1 (pv 0)))),?_⟩
    refine ⟨_,rfl,c,dx,_,rfl,hc,cf_no _ _ _ (by decide) (by decide) (by decide),c,a,t,p,e,rfl,u,_,rfl,rfl,_,rfl,?_⟩
    refine ite2 (fun h=>?_) fun h=>?_
    · have h':¬ (V.int (headI (st t p e)))=V.int (z.toNat:Int):=by
        have:=h
        rw [Bool.not_eq_true'] at this
        exact of_decide_eq_false this
      refine ⟨_,rfl,c,B,dx,_,_,rfl,hc,T.cl,T.nP,cf_place _ _ _,_,rfl,fun d hd=>?_⟩
      exact k2 (fun q=>h' (by rw [q])) _ d upd_same
    · have h':headI (st t p e)=(z.toNat:Int):=by
        by_cases q:headI (st t p e)=(z.toNat:Int)
        · exact q
        · exact absurd (show (!decide (V.int (headI (st t p e))=V.int (z.toNat:Int)))=true by
            rw [Bool.not_eq_true']
            exact decide_eq_false fun y=>q (by injection y)) h
      refine ⟨_,rfl,c,dx,_,rfl,hc,cf_no _ _ _ (by decide) (by decide) (by decide),c,dx,a,p,e,rfl,hc,fun H' h1 h2=>?_⟩
      have hlt:p < e:=by
        refine Nat.lt_of_le_of_ne u.le fun q=>?_
        rw [(st_nil u.len u.le).mpr q] at h'
        have:(-1:Int)=(z.toNat:Int):=h'
        omega
      exact k1 h' H' (u.move h2 ⟨dx,h1⟩ hlt) h2
end
end Lu
namespace Lu
open PySem PySem.Spec PyProof.Rows L2 Lute LuR
def goOn (k n pos:Nat) (r:Bytes):Rd Nat:=if k=0 then number pos r else if n=0 then (match r with
  | x::_=>if (digit x).isSome=true then .error pos else .ok (0,pos,r)
  | []=>.ok (0,pos,[])) else moreDigits (4 - k) n pos r
theorem dig_some {c:UInt8} (h1:48<=c.toNat) (h2:c.toNat<=57):digit c=some (c.toNat - 48):=by rw [digit_eq,if_pos ⟨h1,h2⟩]
theorem dig_none {c:UInt8} (h:¬ (48<=c.toNat/\c.toNat<=57)):digit c=none:=by rw [digit_eq,if_neg h]
theorem goOn_stop {k n pos:Nat} {c:UInt8} {r:Bytes} (h1:48<=c.toNat) (h2:c.toNat<=57) (hk:k<=4) (h:(0 < k/\n=0)\/k=4):goOn k n pos (c::r)=.error pos:=by
  unfold goOn
  have k0:¬ k=0:=by omega
  rw [if_neg k0]
  by_cases hn:n=0
  · rw [if_pos hn]
    dsimp only
    rw [dig_some h1 h2]
    rfl
  · rw [if_neg hn]
    have k4:k=4:=by omega
    subst k4
    show moreDigits 0 n pos (c::r)=_
    unfold moreDigits
    dsimp only
    rw [dig_some h1 h2]
theorem goOn_step {k n pos:Nat} {c:UInt8} {r:Bytes} (h1:48<=c.toNat) (h2:c.toNat<=57) (hk:k<=4) (h0:k=0->n=0) (h:¬ ((0 < k/\n=0)\/k=4)):
    goOn k n pos (c::r)=goOn (k+1) (n * 10+(c.toNat - 48)) (pos+1) r:=by
  by_cases k0:k=0
  · have n0:=h0 k0
    subst k0 n0
    show number pos (c::r)=_
    unfold number
    dsimp only
    rw [dig_some h1 h2]
    unfold goOn
    rw [if_neg (by omega)]
    by_cases x0:c.toNat - 48=0
    · rw [x0,if_pos (by omega)]
      cases r with
      | nil=>rfl
      | cons a r=>rfl
    · rw [if_neg (by omega)]
      have e:0 * 10+(c.toNat - 48)=c.toNat - 48:=by omega
      rw [e]
      generalize hx:c.toNat - 48=x at *
      cases x with
      | zero=>exact absurd rfl x0
      | succ x=>rfl
  · have hn:¬ n=0:=by omega
    unfold goOn
    rw [if_neg k0,if_neg hn,if_neg (by omega),if_neg (by omega)]
    obtain ⟨f,hf⟩:∃ f,4 - k=f+1:=⟨3 - k,by omega⟩
    have hf':4 - (k+1)=f:=by omega
    rw [hf,hf']
    conv=>lhs;unfold moreDigits
    dsimp only
    rw [dig_some h1 h2]
    show moreDigits f (10 * n+(c.toNat - 48)) (pos+1) r=_
    rw [Nat.mul_comm 10 n]
theorem goOn_end {k n pos:Nat} {r:Bytes} (h:∀ c u,r=c::u->¬ (48<=c.toNat/\c.toNat<=57)) (h0:k=0->n=0):goOn k n pos r=if k=0 then .error pos else .ok (n,pos,r):=by
  unfold goOn
  by_cases k0:k=0
  · rw [if_pos k0,if_pos k0]
    cases r with
    | nil=>rfl
    | cons c u=>
      unfold number
      dsimp only
      rw [dig_none (h c u rfl)]
  · rw [if_neg k0,if_neg k0]
    by_cases n0:n=0
    · rw [if_pos n0]
      cases r with
      | nil=>rw [n0]
      | cons c u=>
        dsimp only
        rw [dig_none (h c u rfl),n0]
        rfl
    · rw [if_neg n0]
      cases r with
      | nil=>unfold moreDigits;rfl
      | cons c u=>
        unfold moreDigits
        rw [dig_none (h c u rfl)]
theorem headI_dig {r:Bytes} (h1:48<=headI r) (h2:headI r<=57):∃ c u,r=c::u/\48<=c.toNat/\c.toNat<=57:=by
  cases r with
  | nil=>
    have:(48:Int)<=-1:=h1
    omega
  | cons c u=>
    have h1':(48:Int)<=(c.toNat:Int):=h1
    have h2':(c.toNat:Int)<=57:=h2
    exact ⟨c,u,rfl,by omega,by omega⟩
theorem headI_nodig {r:Bytes} (h:¬ (48<=headI r/\headI r<=57)):∀ c u,r=c::u->¬ (48<=c.toNat/\c.toNat<=57):=fun c u e q=>by
  subst e
  refine h ⟨?_,?_⟩
  · show (48:Int)<=(c.toNat:Int)
    omega
  · show (c.toNat:Int)<=57
    omega
def vNat:Nat->V->Hp->Prop:=fun n y _=>y=.int (n:Int)
def vInt:Int->V->Hp->Prop:=fun n y _=>y=.int n
section
variable {P:Program} {w:World} {K:PySem.W.Frag} {mg:Str->Option Value} {base:Heap} {B C:Addr}
theorem scRN:FnScope ["cursor","start","number","digits","begun_with_zero"] ["cursor"] (defScope s_read_number):=⟨rfl,rfl,rfl,by decide +kernel,rfl,by decide +kernel,by decide +kernel⟩
theorem ok_number {f:Addr} {fd:FuncData} (F:Fun K "read_number" "read_number" s_read_number f fd) (T:Txt K mg B C) (M:Crs P w K mg base B C):FnOk P w K mg base (CXF P w C) 3 f fd ["cursor"] (spRead K B C vNat number):=by
  refine F.okX scRN (fun vs H Q E h=>?_) (fun cdv A outer s H vs Q E hr h=>?_)
  · obtain ⟨c,a,t,p,e,rfl,_⟩:=h
    rfl
  · obtain ⟨c,a,t,p,e,rfl,u,k⟩:=h
    obtain ⟨dx,hc⟩:=u.at_
    have hr1:=hr.mono (show 1<=2 by decide)
    refine ⟨_,pss_cons (ps_set (i:=1) scRN.nd rfl (Or.inl rfl) (pe_fld (pv 0) rfl))
      (pss_cons (ps_set (i:=2) scRN.nd rfl (Or.inl rfl) pe_int)
      (pss_cons (ps_while xown (pt_chain op_le op_le (pe_cst T.cZERO) (pe_mt0 M.byte hr1 (pv 0)) (pe_cst T.cNINE))
        (pss_cons (ps_set (i:=3) scRN.nd rfl (Or.inl rfl) (pe_op op_sub (pe_fld (pv 0) rfl) (pv 1)))
        (pss_cons (ps_set (i:=4) scRN.nd rfl (Or.inl rfl) (pe_and (pe_cmpR op_gt (pv 3) pe_int (nomark _)) (pe_one (pe_cmpR op_eq (pv 2) pe_int (nomark _)))))
        (pss_cons (ps_if (PW.pt (pw_or (pt_val (pv 4)) (pw_or1 (pt_cmpR op_eq (pv 3) (pe_cst T.cMD) (nomark _))))) (pss_one (ps_raise T.xt hr rfl T.mC (pe_fld (pv 0) rfl))) pss_nil)
        (pss_cons (ps_set (i:=2) scRN.nd rfl (Or.inl rfl) (pe_op op_sub (pe_op op_add (pe_op op_mul (pv 2) pe_int) (pe_mt0 M.byte hr1 (pv 0))) (pe_cst T.cZERO)))
        (pss_one (ps_expr (pe_mt0 M.adv hr1 (pv 0)))))))))
      (pss_cons (ps_if (pt_cmpR op_eq (pe_fld (pv 0) rfl) (pv 1) (nomark _)) (pss_one (ps_raise T.xt hr rfl T.mC (pv 1))) pss_nil)
      (pss_one (ps_ret (pv 2)))))),?_⟩
    refine ⟨_,rfl,c,B,dx,_,_,rfl,hc,T.cl,T.nP,cf_place _ _ _,?_⟩
    refine ⟨fun m σ H'=>∃ (pos n:Nat) (v3 v4:Option V),m=e - pos/\σ=[some (.ref c),some (.int (p:Int)),some (.int (n:Int)),v3,v4]/\Cur K B H' c a t pos e/\Keep H H' c/\p<=pos/\pos - p<=4/\(pos - p=0->n=0)/\number p (st t p e)=goOn (pos - p) n pos (st t pos e),
      ⟨_,p,0,none,none,rfl,rfl,u,Keep.refl _ _,Nat.le_refl _,by omega,fun _=>rfl,by rw [Nat.sub_self];rfl⟩,?_⟩
    rintro m σ H1 ⟨pos,n,v3,v4,rfl,rfl,u1,kp,hpp,hk4,h0,inv⟩
    obtain ⟨dx1,hc1⟩:=u1.at_
    have fin:¬ (48<=headI (st t pos e)/\headI (st t pos e)<=57)->∀ (D:Prop),D->D:=fun _ _ d=>d
    have done:¬ (48<=headI (st t pos e)/\headI (st t pos e)<=57)->tSeq (tIfS (tTest (tOp rEq (tFld K (tVar 0) "place") (tVar 1))) (tRaise C E (tVar 1)) tNext) (tRet (tVar 2)) { nx:=fun _ H'=>Q .non H',rt:=Q } [some (.ref c),some (.int (p:Int)),some (.int (n:Int)),v3,v4] H1:=fun hnd=>by
      have inv':=inv.trans (goOn_end (headI_nodig hnd) h0)
      refine ⟨_,rfl,c,B,dx1,_,_,rfl,hc1,T.cl,T.nP,cf_place _ _ _,_,rfl,rfl,_,rfl,?_⟩
      refine ite2 (fun h=>?_) fun h=>?_
      · have h':(V.int (pos:Int))=V.int (p:Int):=of_decide_eq_true h
        have e1:pos=p:=by injection h' with h';omega
        rw [inv',if_pos (by omega)] at k
        refine ⟨_,rfl,_,rfl,fun d hd=>?_⟩
        rw [<- e1]
        exact k _ d (by rw [upd_same,e1])
      · have h':¬ (V.int (pos:Int))=V.int (p:Int):=fun z=>h (decide_eq_true z)
        have e1:pos ≠ p:=fun z=>h' (by rw [z])
        rw [inv',if_neg (by omega)] at k
        exact ⟨_,rfl,k H1 _ u1 kp rfl⟩
    refine ⟨_,rfl,c,dx1,_,rfl,hc1,cf_no _ _ _ (by decide) (by decide) (by decide),c,a,t,pos,e,rfl,u1,_,_,rfl,rfl,_,rfl,?_⟩
    refine ite2 (fun hA=>?_) fun hA=>?_
    · refine ⟨_,_,rfl,rfl,_,rfl,?_⟩
      refine ite2 (fun hB=>?_) fun hB=>?_
      · have hA':48<=headI (st t pos e):=of_decide_eq_true hA
        have hB':headI (st t pos e)<=57:=of_decide_eq_true hB
        obtain ⟨b,r,hr0,b1,b2⟩:=headI_dig hA' hB'
        refine ⟨fun σ' H'=>∃ (n':Nat) (v3 v4:Option V),σ'=[some (.ref c),some (.int (p:Int)),some (.int (n':Int)),v3,v4]/\Cur K B H' c a t (pos+1) e/\Keep H H' c/\pos+1 - p<=4/\number p (st t p e)=goOn (pos+1 - p) n' (pos+1) (st t (pos+1) e),?_,?_⟩
        · rintro σ' H' ⟨n',v3,v4,rfl,u',kp',hk',inv'⟩
          exact ⟨e - (pos+1),by have:=st_len (t:=t) (p:=pos) u1.len;rw [hr0] at this;simp only [List.length_cons] at this;omega,pos+1,n',v3,v4,rfl,rfl,u',kp',by omega,hk',by omega,inv'⟩
        · refine ⟨_,rfl,c,B,dx1,_,_,rfl,hc1,T.cl,T.nP,cf_place _ _ _,_,rfl,_,_,rfl,rfl,?_⟩
          refine ⟨_,rfl,_,_,rfl,rfl,_,rfl,and_val (b2:=decide ((n:Int)=0)) (fun Q' q=>⟨_,rfl,rfl,by rw [dint];exact q⟩) ?_⟩
          refine ⟨_,rfl,_,rfl,or_test (b2:=decide ((pos:Int) - (p:Int)=4)) (fun Q' q=>⟨_,rfl,rfl,_,rfl,by rw [dint];exact q⟩) ?_⟩
          refine ite2 (fun hz=>?_) fun hz=>?_
          · rw [Bool.or_eq_true,Bool.and_eq_true,decide_eq_true_eq,decide_eq_true_eq,decide_eq_true_eq] at hz
            have inv':=inv
            rw [hr0,goOn_stop b1 b2 hk4 (by omega)] at inv'
            rw [inv'] at k
            exact ⟨_,rfl,c,B,dx1,_,_,rfl,hc1,T.cl,T.nP,cf_place _ _ _,_,rfl,fun d hd=>k _ d upd_same⟩
          · rw [Bool.or_eq_true,Bool.and_eq_true,decide_eq_true_eq,decide_eq_true_eq,decide_eq_true_eq] at hz
            have hst:st t (pos+1) e=r:=by
              have:=st_drop t pos e 1
              rw [hr0] at this
              exact this.symm
            have hlt:pos < e:=by have:=st_len (t:=t) (p:=pos) u1.len;rw [hr0] at this;simp only [List.length_cons] at this;omega
            have inv':=inv
            rw [hr0,goOn_step b1 b2 hk4 h0 (by omega)] at inv'
            refine ⟨_,rfl,_,_,rfl,rfl,.inr ⟨by decide,by decide⟩,_,rfl,c,dx1,_,rfl,hc1,cf_no _ _ _ (by decide) (by decide) (by decide),c,a,t,pos,e,rfl,u1,_,_,rfl,rfl,_,_,rfl,rfl,?_⟩
            refine ⟨_,rfl,c,dx1,_,rfl,hc1,cf_no _ _ _ (by decide) (by decide) (by decide),c,dx1,a,pos,e,rfl,hc1,fun H' h1 h2=>?_⟩
            have en:(n:Int) * 10+headI (st t pos e) - 48=((n * 10+(b.toNat - 48):Nat):Int):=by
              rw [hr0]
              show (n:Int) * 10+(b.toNat:Int) - 48=_
              omega
            refine ⟨n * 10+(b.toNat - 48),some (.int ((pos:Int) - (p:Int))),some (.bl (decide (0 < (pos:Int) - (p:Int)) && decide ((n:Int)=0))),?_,u1.move h2 ⟨dx1,h1⟩ hlt,kp.trans h2,by omega,?_⟩
            · rw [<- en]
              rfl
            · rw [inv',hst,show pos+1 - p=pos - p+1 by omega]
      · exact done fun q=>hB (decide_eq_true q.2)
    · exact ⟨_,rfl,iteF (done fun q=>hA (decide_eq_true q.1))⟩
end
end Lu
namespace Lu
open PySem PySem.Spec PyProof.Rows L2 Lute LuR
theorem headI_cons {r:Bytes} {z:UInt8} (h:headI r=(z.toNat:Int)):∃ u,r=z::u:=by
  cases r with
  | nil=>
    have:(-1:Int)=(z.toNat:Int):=h
    omega
  | cons c u=>
    have h':(c.toNat:Int)=(z.toNat:Int):=h
    have:c=z:=UInt8.toNat_inj.mp (by omega)
    exact ⟨u,by rw [this]⟩
theorem headI_ne {r:Bytes} {z:UInt8} (h:¬ headI r=(z.toNat:Int)):∀ c u,r=c::u->¬ c=z:=fun c u e q=>by
  subst e q
  exact h rfl
theorem st_next {t:Bytes} {p e:Nat} {c:UInt8} {r:Bytes} (h:st t p e=c::r):st t (p+1) e=r:=by
  have:=st_drop t p e 1
  rw [h] at this
  exact this.symm
theorem st_lt {t:Bytes} {p e:Nat} {c:UInt8} {r:Bytes} (hl:e<=t.length) (h:st t p e=c::r):p < e:=by
  have:=st_len (t:=t) (p:=p) hl
  rw [h] at this
  simp only [List.length_cons] at this
  omega
theorem Front.at_ {α:Type} {t:Bytes} {p e:Nat} {rd:Rd α} (hl:e<=t.length) (hp:p<=e) (F:Front p (st t p e) rd) {v:α} {q:Nat} {u:Bytes} (h:rd=.ok (v,q,u)):p<=q/\q<=e/\u=st t q e:=by
  obtain ⟨h1,h2,h3⟩:=F v q u h
  rw [st_len hl] at h2
  refine ⟨h1,by omega,?_⟩
  rw [h3,st_drop]
  congr 1
  omega
theorem signed_minus (p:Nat) (r:Bytes):signed p (45::r)=if headI r=48 then .error (p+1) else match number (p+1) r with
    | .error e=>.error e
    | .ok (n,q,u)=>.ok (-((n:Nat):Int),q,u):=by
  unfold signed
  dsimp only
  rw [if_pos rfl]
  cases r with
  | nil=>rfl
  | cons c u=>
    by_cases hc:c=48
    · subst hc
      rfl
    · have:¬ headI (c::u)=48:=fun z=>by
        have z':(c.toNat:Int)=48:=z
        exact hc (UInt8.toNat_inj.mp (by show c.toNat=48;omega))
      rw [if_neg this]
      split
      · rename_i heq
        injection heq with h1 _
        exact absurd h1 hc
      · rfl
theorem signed_plain {p:Nat} {r:Bytes} (h:∀ c u,r=c::u->¬ c=45):signed p r=match number p r with
    | .error e=>.error e
    | .ok (n,q,u)=>.ok (((n:Nat):Int),q,u):=by
  cases r with
  | nil=>rfl
  | cons c u=>
    unfold signed
    dsimp only
    rw [if_neg (h c u rfl)]
    cases number p (c::u) <;> rfl
theorem boot_abs:bootBuiltins "abs"=some (.builtin "abs"):=by decide +kernel
section
variable {P:Program} {w:World} {K:PySem.W.Frag} {mg:Str->Option Value} {base:Heap} {B C:Addr}
theorem scRS:FnScope ["cursor"] ["cursor"] (defScope s_read_signed_number):=⟨rfl,rfl,rfl,by decide +kernel,rfl,by decide +kernel,by decide +kernel⟩
theorem ok_signed {f:Addr} {fd:FuncData} (F:Fun K "read_signed_number" "read_signed_number" s_read_signed_number f fd) (T:Txt K mg B C) (M:Crs P w K mg base B C) (DN:Dfn P w K mg base C 3 "read_number" ["cursor"] (spRead K B C vNat number)):
    FnOk P w K mg base (CXF P w C) 4 f fd ["cursor"] (spRead K B C vInt signed):=by
  refine F.okX scRS (fun vs H Q E h=>?_) (fun cdv A outer s H vs Q E hr h=>?_)
  · obtain ⟨c,a,t,p,e,rfl,_⟩:=h
    rfl
  · obtain ⟨c,a,t,p,e,rfl,u,k⟩:=h
    obtain ⟨dx,hc⟩:=u.at_
    have hr1:=hr.mono (show 1<=3 by decide)
    have hr2:=hr.mono (show 2<=3 by decide)
    refine ⟨_,pss_cons (ps_if (pt_cmpR op_ne (pe_mt0 M.byte hr1 (pv 0)) (pe_cst T.cMINUS) (nomark _)) (pss_one (ps_ret (pe_fn DN hr rfl (pa_cons (pv 0) pa_nil)))) pss_nil)
      (pss_cons (ps_expr (pe_mt0 M.adv hr1 (pv 0)))
      (pss_cons (ps_if (pt_cmpR op_eq (pe_mt0 M.byte hr1 (pv 0)) (pe_cst T.cZERO) (nomark _)) (pss_one (ps_raise T.xt hr2 rfl T.mC (pe_fld (pv 0) rfl))) pss_nil)
      (pss_one (ps_ret (pe_un un_neg (pe_fn DN hr rfl (pa_cons (pv 0) pa_nil))))))),?_⟩
    refine ⟨_,rfl,c,dx,_,rfl,hc,cf_no _ _ _ (by decide) (by decide) (by decide),c,a,t,p,e,rfl,u,rfl,_,rfl,?_⟩
    rw [dint]
    refine ite2 (fun h=>?_) fun h=>?_
    · have hne:¬ headI (st t p e)=((45:UInt8).toNat:Int):=fun z=>by rw [show headI (st t p e)=45 from z] at h;exact absurd h (by decide)
      rw [signed_plain (headI_ne hne)] at k
      refine ⟨_,rfl,c,a,t,p,e,rfl,u,?_⟩
      cases hn:number p (st t p e) with
      | error x=>rw [hn] at k;exact k
      | ok z=>
        obtain ⟨n,q,v⟩:=z
        rw [hn] at k
        exact fun H' y h1 h2 h3=>k H' y h1 h2 h3
    · have heq:headI (st t p e)=((45:UInt8).toNat:Int):=by
        by_cases z:headI (st t p e)=45
        · exact z
        · exact absurd (by rw [decide_eq_false z];rfl) h
      obtain ⟨r,hr0⟩:=headI_cons heq
      have hst:=st_next hr0
      have hlt:=st_lt u.len hr0
      rw [hr0,signed_minus] at k
      refine ⟨_,rfl,c,dx,_,rfl,hc,cf_no _ _ _ (by decide) (by decide) (by decide),c,dx,a,p,e,rfl,hc,fun H1 h1 h2=>?_⟩
      have u1:=u.move h2 ⟨dx,h1⟩ hlt
      refine ⟨_,rfl,c,dx,_,rfl,h1,cf_no _ _ _ (by decide) (by decide) (by decide),c,a,t,p+1,e,rfl,u1,rfl,_,rfl,?_⟩
      rw [dint,hst]
      refine ite2 (fun h=>?_) fun h=>?_
      · rw [if_pos (of_decide_eq_true h)] at k
        exact ⟨_,rfl,c,B,dx,_,_,rfl,h1,T.cl,T.nP,cf_place _ _ _,_,rfl,fun d hd=>k _ d upd_same⟩
      · rw [if_neg (fun z=>h (decide_eq_true z))] at k
        refine ⟨_,rfl,c,a,t,p+1,e,rfl,u1,?_⟩
        rw [hst]
        cases hn:number (p+1) r with
        | error x=>rw [hn] at k;exact k
        | ok z=>
          obtain ⟨n,q,v⟩:=z
          rw [hn] at k
          intro H' y k1 k2 k3
          obtain rfl:y=.int (n:Int):=k3
          exact ⟨_,rfl,k H' _ k1 (h2.trans k2) rfl⟩
def spGcd:Sp:=fun vs H Q _=>∃ (a b:Int),vs=[.int a,.int b]/\0<=b/\Q (.int ((Int.gcd a b:Nat):Int)) H
theorem scGC:FnScope ["a","b","rest"] ["a","b"] (defScope s_common_factor):=⟨rfl,rfl,rfl,by decide +kernel,rfl,by decide +kernel,by decide +kernel⟩
def spGcdZ:Sp:=fun vs H Q _=>∃ (a b:Int),vs=[.int a,.int b]/\Q (.int ((Int.gcd a b:Nat):Int)) H
theorem fmod_gcd (x y:Int):Int.gcd y (x.fmod y)=Int.gcd x y:=by
  rw [Int.gcd_comm x y]
  have e:x=x.fmod y+y * x.fdiv y:=(Int.fmod_add_mul_fdiv x y).symm
  conv=>rhs;rw [e]
  rw [Int.gcd_add_mul_left_right]
theorem fmod_less (x:Int) {y:Int} (hy:y ≠ 0):(x.fmod y).natAbs < y.natAbs:=by
  have e:x.fmod y=_:=Int.fmod_eq_emod (a:=x) (b:=y)
  have h1:=Int.emod_nonneg x hy
  have h2:x % y < (y.natAbs:Int):=Int.emod_lt x hy
  by_cases h:0<=y\/y ∣ x
  · rw [if_pos h] at e
    omega
  · rw [if_neg h] at e
    have h3:¬ x % y=0:=fun z=>h (.inr (Int.dvd_of_emod_eq_zero z))
    omega
theorem ok_gcdZ {f:Addr} {fd:FuncData} (F:Fun K "common_factor" "common_factor" s_common_factor f fd) (T:Txt K mg B C):FnOk P w K mg base (CXF P w C) 1 f fd ["a","b"] spGcdZ:=by
  refine F.okX scGC (fun vs H Q E h=>?_) (fun cdv A outer s H vs Q E hr h=>?_)
  · obtain ⟨a,b,rfl,_⟩:=h
    rfl
  · obtain ⟨a,b,rfl,k⟩:=h
    refine ⟨_,pss_cons (ps_while xown (pt_cmpR op_ne (pv 1) pe_int (nomark _))
        (pss_cons (ps_set (i:=2) scGC.nd rfl (Or.inl rfl) (pe_op op_modN (pv 0) (pv 1)))
        (pss_cons (ps_set (i:=0) scGC.nd rfl (Or.inl rfl) (pv 1)) (pss_one (ps_set (i:=1) scGC.nd rfl (Or.inl rfl) (pv 2))))))
      (pss_one (ps_ret (pe_callB call_abs (by rfl) T.abs boot_abs (pa_cons (pv 0) pa_nil)))),?_⟩
    refine ⟨fun m σ H'=>∃ (x y:Int) (v:Option V),m=y.natAbs/\σ=[some (.int x),some (.int y),v]/\H'=H/\Int.gcd x y=Int.gcd a b,⟨_,a,b,none,rfl,rfl,rfl,rfl⟩,?_⟩
    rintro m σ H1 ⟨x,y,v,rfl,rfl,rfl,inv⟩
    refine ⟨_,rfl,rfl,_,rfl,?_⟩
    rw [dint]
    refine ite2 (fun h=>?_) fun h=>?_
    · have hy0:¬ y=0:=fun z=>by rw [z] at h;exact absurd h (by decide)
      refine ⟨fun σ' H'=>∃ (v:Option V),σ'=[some (.int y),some (.int (x.fmod y)),v]/\H'=H1,?_,?_⟩
      · rintro σ' H' ⟨v,rfl,rfl⟩
        exact ⟨(x.fmod y).natAbs,fmod_less x hy0,y,x.fmod y,v,rfl,rfl,rfl,by rw [fmod_gcd];exact inv⟩
      · refine ⟨_,rfl,_,rfl,_,_,rfl,rfl,hy0,?_⟩
        exact ⟨_,rfl,_,rfl,some (.int (x.fmod y)),rfl,rfl⟩
    · have hy0:y=0:=by
        by_cases z:y=0
        · exact z
        · exact absurd (by rw [decide_eq_false z];rfl) h
      subst hy0
      refine ⟨_,rfl,_,rfl,?_⟩
      have e:(if x < 0 then -x else x)=((Int.gcd a b:Nat):Int):=by
        rw [<- inv,Int.gcd_zero_right]
        omega
      rw [e]
      exact k
theorem ok_gcd {f:Addr} {fd:FuncData} (F:Fun K "common_factor" "common_factor" s_common_factor f fd) (T:Txt K mg B C):FnOk P w K mg base (CXF P w C) 1 f fd ["a","b"] spGcd:=
  (ok_gcdZ F T).imp fun vs H Q E ⟨a,b,e,_,q⟩=>⟨a,b,e,q⟩
end
end Lu
namespace Lu
open PySem PySem.Spec PyProof.Rows L2 Lute LuR LuW
def digAt (p:Nat):Bytes->Rd Nat
  | []=>.error p
  | c::r=>match [(50:UInt8),51,53,55].idxOf? c with
    | none=>.error p
    | some k=>.ok (k,p+1,r)
theorem fac_look (c:UInt8):List.lookup (c.toNat:Int) [((50:Int),(0:Int)),(51,1),(53,2),(55,3)]=([(50:UInt8),51,53,55].idxOf? c).map fun k=>(k:Int):=by
  have h:∀ n:Fin 256,List.lookup ((UInt8.ofNat n.val).toNat:Int) [((50:Int),(0:Int)),(51,1),(53,2),(55,3)]=([(50:UInt8),51,53,55].idxOf? (UInt8.ofNat n.val)).map fun k=>(k:Int):=by decide +kernel
  have e:=h ⟨c.toNat,c.toNat_lt⟩
  simpa using e
theorem fac_none:List.lookup (-1:Int) [((50:Int),(0:Int)),(51,1),(53,2),(55,3)]=none:=by decide +kernel
def powAt (s p:Nat):Bytes->Rd (Int × Nat)
  | []=>.ok ((1,1),p,[])
  | c::u=>if c=94 then (match signed (p+1) u with
      | .error e=>.error e
      | .ok (n,q,v)=>match v with
        | []=>if n=0\/n=1 then .error s else .ok ((n,1),q,[])
        | b::w=>if b=47 then (match number (q+1) w with
            | .error e=>.error e
            | .ok (d,z,t)=>if 2<=d/\Nat.gcd n.natAbs d=1 then .ok ((n,d),z,t) else .error s)
          else if n=0\/n=1 then .error s else .ok ((n,1),q,b::w))
    else .ok ((1,1),p,c::u)
theorem front_pow (s p:Nat) (t:Bytes):Front p t (powAt s p t):=by
  intro v q u h
  cases t with
  | nil=>cases h;simp
  | cons c r=>
    unfold powAt at h
    dsimp only at h
    by_cases hc:c=94
    · rw [if_pos hc] at h
      cases hs:signed (p+1) r with
      | error e=>rw [hs] at h;cases h
      | ok z=>
        obtain ⟨n,q1,v1⟩:=z
        obtain ⟨a1,a2,a3⟩:=front_signed (p+1) r n q1 v1 hs
        rw [hs] at h
        dsimp only at h
        have fin:(q,u)=(q1,v1)->p<=q/\q - p<=(c::r).length/\u=(c::r).drop (q - p):=fun z=>by
          cases z
          refine ⟨by omega,by simp only [List.length_cons];omega,?_⟩
          rw [a3,show q - p=(q - (p+1))+1 by omega,List.drop_succ_cons]
        cases v1 with
        | nil=>
          dsimp only at h
          split at h
          · cases h
          · cases h;exact fin rfl
        | cons b w=>
          dsimp only at h
          split at h
          · cases hn:number (q1+1) w with
            | error e=>rw [hn] at h;cases h
            | ok z=>
              obtain ⟨d,z1,t1⟩:=z
              obtain ⟨b1,b2,b3⟩:=front_number (q1+1) w d z1 t1 hn
              rw [hn] at h
              dsimp only at h
              split at h
              · cases h
                have lw:w.length+1=r.length - (q1 - (p+1)):=by
                  have:=congrArg List.length a3
                  rw [List.length_drop,List.length_cons] at this
                  exact this
                refine ⟨by omega,by simp only [List.length_cons];omega,?_⟩
                have e1:w=r.drop (q1 - (p+1)+1):=by
                  have:=congrArg (List.drop 1) a3
                  rw [List.drop_drop] at this
                  exact this
                rw [b3,e1,List.drop_drop,show q - p=(q1 - (p+1)+1+(q - (q1+1)))+1 by omega,List.drop_succ_cons]
              · cases h
          · split at h
            · cases h
            · cases h;exact fin rfl
    · rw [if_neg hc] at h
      cases h
      simp
def facAt (p:Nat) (t:Bytes):Rd (Nat × Int × Nat):=match digAt p t with
  | .error e=>.error e
  | .ok (k,q,u)=>match powAt p q u with
    | .error e=>.error e
    | .ok (nd,z,v)=>.ok ((k,nd),z,v)
theorem factorAt_94 {p:Nat} {c:UInt8} {k:Nat} (hi:[(50:UInt8),51,53,55].idxOf? c=some k) (u:Bytes):factorAt p (c::94::u)=match signed (p+1+1) u with
    | .error e=>.error e
    | .ok (n,q,v)=>match v with
      | []=>.ok ((k,if n=0\/n=1 then none else some (n,1)),q,[])
      | x::w=>if x=47 then (match number (q+1) w with
          | .error e=>.error e
          | .ok (d,z,t)=>.ok ((k,if 2<=d/\Nat.gcd n.natAbs d=1 then some (n,d) else none),z,t))
        else .ok ((k,if n=0\/n=1 then none else some (n,1)),q,x::w):=by
  unfold factorAt
  dsimp only
  rw [hi]
  dsimp only
  split
  · rename_i u' h2
    injection h2 with _ h3
    subst h3
    cases signed (p+1+1) u with
    | error e=>rfl
    | ok z=>
      obtain ⟨n,q,v⟩:=z
      dsimp only
      cases v with
      | nil=>rfl
      | cons x w=>
        dsimp only
        by_cases hx:x=47
        · rw [if_pos hx]
          split
          · rename_i w' h4
            injection h4 with _ h5
            subst h5
            cases number (q+1) w <;> rfl
          · rename_i h4
            exact absurd (by rw [hx]) (h4 w)
        · rw [if_neg hx]
          split
          · rename_i heq
            injection heq with h1 _
            exact absurd h1 hx
          · rfl
  · rename_i h2
    exact absurd rfl (h2 u)
theorem factorAt_other {p:Nat} {c b:UInt8} {k:Nat} (hi:[(50:UInt8),51,53,55].idxOf? c=some k) (hb:¬ b=94) (u:Bytes):factorAt p (c::b::u)=.ok ((k,some (1,1)),p+1,b::u):=by
  unfold factorAt
  dsimp only
  rw [hi]
  dsimp only
  split
  · rename_i h2
    injection h2 with h1 _
    exact absurd h1 hb
  · rfl
theorem factorAt_fac (p:Nat) (t:Bytes):facAt p t=match factorAt p t with
    | .error e=>.error e
    | .ok ((k,none),_,_)=>.error p
    | .ok ((k,some nd),q,u)=>.ok ((k,nd),q,u):=by
  unfold facAt
  cases t with
  | nil=>rfl
  | cons c r=>
    unfold digAt
    dsimp only
    cases hi:[(50:UInt8),51,53,55].idxOf? c with
    | none=>
      unfold factorAt
      dsimp only
      rw [hi]
    | some k=>
      dsimp only
      cases r with
      | nil=>
        unfold factorAt
        dsimp only
        rw [hi]
        rfl
      | cons b u=>
        unfold powAt
        dsimp only
        by_cases hb:b=94
        · subst hb
          rw [if_pos rfl,factorAt_94 hi]
          cases hs:signed (p+1+1) u with
          | error e=>rfl
          | ok z=>
            obtain ⟨n,q,v⟩:=z
            dsimp only
            cases v with
            | nil=>
              dsimp only
              by_cases hn:n=0\/n=1
              · rw [if_pos hn,if_pos hn]
              · rw [if_neg hn,if_neg hn]
            | cons x w=>
              dsimp only
              by_cases hx:x=47
              · rw [if_pos hx,if_pos hx]
                cases number (q+1) w with
                | error e=>rfl
                | ok z=>
                  obtain ⟨d,z,t⟩:=z
                  dsimp only
                  by_cases hd:2<=d/\Nat.gcd n.natAbs d=1
                  · rw [if_pos hd,if_pos hd]
                  · rw [if_neg hd,if_neg hd]
              · rw [if_neg hx,if_neg hx]
                by_cases hn:n=0\/n=1
                · rw [if_pos hn,if_pos hn]
                · rw [if_neg hn,if_neg hn]
        · rw [if_neg hb,factorAt_other hi hb]
theorem more_lt:∀ (f n p:Nat) (t:Bytes) (v q:Nat) (u:Bytes),n < 10 ^ (4 - f)->f<=4->moreDigits f n p t=.ok (v,q,u)->v < 10000
  | f,n,p,[],v,q,u,hn,hf,h=>by
    unfold moreDigits at h
    cases h
    exact Nat.lt_of_lt_of_le hn (Nat.pow_le_pow_right (by decide) (show 4 - f<=4 by omega))
  | f,n,p,c::r,v,q,u,hn,hf,h=>by
    unfold moreDigits at h
    cases hd:digit c with
    | none=>
      rw [hd] at h
      cases h
      exact Nat.lt_of_lt_of_le hn (Nat.pow_le_pow_right (by decide) (show 4 - f<=4 by omega))
    | some x=>
      rw [hd] at h
      cases f with
      | zero=>cases h
      | succ f=>
        dsimp only at h
        have hx:x < 10:=by
          rw [digit_eq] at hd
          split at hd
          · cases hd;omega
          · cases hd
        refine more_lt f (10 * n+x) (p+1) r v q u ?_ (by omega) h
        have e:4 - f=(4 - (f+1))+1:=by omega
        rw [e,Nat.pow_succ]
        omega
theorem number_lt {p:Nat} {t:Bytes} {v q:Nat} {u:Bytes} (h:number p t=.ok (v,q,u)):v < 10000:=by
  unfold number at h
  cases t with
  | nil=>cases h
  | cons c r=>
    dsimp only at h
    cases hd:digit c with
    | none=>rw [hd] at h;cases h
    | some x=>
      rw [hd] at h
      have hx:x < 10:=by
        rw [digit_eq] at hd
        split at hd
        · cases hd;omega
        · cases hd
      cases x with
      | zero=>
        cases r with
        | nil=>
          have h':(.ok (0,p+1,[]):Rd Nat)=.ok (v,q,u):=h
          cases h'
          decide
        | cons y r=>
          have h':(if (digit y).isSome=true then .error (p+1) else .ok (0,p+1,y::r):Rd Nat)=.ok (v,q,u):=h
          split at h'
          · cases h'
          · cases h'
            decide
      | succ x=>exact more_lt 3 (x+1) (p+1) r v q u (by simpa using hx) (by decide) h
theorem signed_lt {p:Nat} {t:Bytes} {v:Int} {q:Nat} {u:Bytes} (h:signed p t=.ok (v,q,u)):-10000 < v/\v < 10000:=by
  cases t with
  | nil=>cases h
  | cons c r=>
    by_cases hc:c=45
    · subst hc
      rw [signed_minus] at h
      split at h
      · cases h
      · cases hn:number (p+1) r with
        | error e=>rw [hn] at h;cases h
        | ok z=>
          obtain ⟨n,q',u'⟩:=z
          rw [hn] at h
          have:=number_lt hn
          cases h
          omega
    · rw [signed_plain (fun c' u' e=>by cases e;exact hc)] at h
      cases hn:number p (c::r) with
      | error e=>rw [hn] at h;cases h
      | ok z=>
        obtain ⟨n,q',u'⟩:=z
        rw [hn] at h
        have:=number_lt hn
        cases h
        omega
def PowFine (n:Int) (d:Nat):Prop:=1<=d/\d < 10000/\-10000 < n/\n < 10000/\Nat.gcd n.natAbs d=1
theorem pow_fine {s p:Nat} {t:Bytes} {n:Int} {d q:Nat} {u:Bytes} (h:powAt s p t=.ok ((n,d),q,u)):PowFine n d:=by
  have one:PowFine 1 1:=by unfold PowFine;decide
  cases t with
  | nil=>cases h;exact one
  | cons c r=>
    unfold powAt at h
    dsimp only at h
    split at h
    · cases hs:signed (p+1) r with
      | error e=>rw [hs] at h;cases h
      | ok z=>
        obtain ⟨n1,q1,v1⟩:=z
        have hl:=signed_lt hs
        rw [hs] at h
        dsimp only at h
        have fin:(n,d)=(n1,1)->PowFine n d:=fun z=>by
          cases z
          exact ⟨by decide,by decide,hl.1,hl.2,Nat.gcd_one_right _⟩
        cases v1 with
        | nil=>
          dsimp only at h
          split at h
          · cases h
          · cases h;exact fin rfl
        | cons b w=>
          dsimp only at h
          split at h
          · cases hn:number (q1+1) w with
            | error e=>rw [hn] at h;cases h
            | ok z=>
              obtain ⟨d1,z1,t1⟩:=z
              have hd:=number_lt hn
              rw [hn] at h
              dsimp only at h
              split at h
              · rename_i hg
                cases h
                exact ⟨by omega,hd,hl.1,hl.2,hg.2⟩
              · cases h
          · split at h
            · cases h
            · cases h;exact fin rfl
    · cases h;exact one
end Lu
namespace Lu
open PySem PySem.Spec PyProof.Rows L2 Lute LuR LuW
theorem not_dec {p:Prop} [Decidable p] (h:¬ (!decide p)=true):p:=by
  by_cases z:p
  · exact z
  · exact absurd (by rw [decide_eq_false z];rfl) h
theorem is_dec {p:Prop} [Decidable p] (h:(!decide p)=true):¬ p:=fun z=>by rw [decide_eq_true z] at h;exact absurd h (by decide)
theorem front_dig (p:Nat) (t:Bytes):Front p t (digAt p t):=by
  intro v q u h
  cases t with
  | nil=>cases h
  | cons c r=>
    unfold digAt at h
    dsimp only at h
    split at h
    · cases h
    · cases h
      simp
theorem dig_lt {p:Nat} {t:Bytes} {k q:Nat} {u:Bytes} (h:digAt p t=.ok (k,q,u)):k < 4/\q=p+1:=by
  cases t with
  | nil=>cases h
  | cons c r=>
    unfold digAt at h
    dsimp only at h
    split at h
    · cases h
    · rename_i k' hk
      cases h
      refine ⟨?_,rfl⟩
      obtain ⟨h1,_⟩:=List.findIdx?_eq_some_iff_findIdx_eq.mp (show List.findIdx? (fun x=>x == c) [(50:UInt8),51,53,55]=some k by simpa [List.idxOf?] using hk)
      simpa using h1
def spPow (K:PySem.W.Frag) (B C:Addr):Sp:=fun vs H Q E=>∃ (c a:Addr) (t:Bytes) (p e s:Nat),vs=[.ref c,.int (s:Int)]/\Cur K B H c a t p e ∧
  match powAt s p (st t p e) with
  | .error x=>Err C E x
  | .ok (nd,q,_)=>∀ (H':Hp) (b:Addr),Cur K B H' c a t q e->Keep H H' c->H' b=some (.tup [.int nd.1,.int (nd.2:Int)])->Q (.ref b) H'
section
variable {P:Program} {w:World} {K:PySem.W.Frag} {mg:Str->Option Value} {base:Heap} {B C:Addr}
theorem scRD:FnScope ["cursor","digit"] ["cursor"] (defScope s_read_digit_of_factor):=⟨rfl,rfl,rfl,by decide +kernel,rfl,by decide +kernel,by decide +kernel⟩
theorem ok_digit {f:Addr} {fd:FuncData} (F:Fun K "read_digit_of_factor" "read_digit_of_factor" s_read_digit_of_factor f fd) (T:Txt K mg B C) (M:Crs P w K mg base B C):
    FnOk P w K mg base (CXF P w C) 3 f fd ["cursor"] (spRead K B C vNat digAt):=by
  refine F.okX scRD (fun vs H Q E h=>?_) (fun cdv A outer s H vs Q E hr h=>?_)
  · obtain ⟨c,a,t,p,e,rfl,_⟩:=h
    rfl
  · obtain ⟨c,a,t,p,e,rfl,u,k⟩:=h
    obtain ⟨dx,hc⟩:=u.at_
    obtain ⟨af,hf,hD⟩:=T.fac
    have hr1:=hr.mono (show 1<=2 by decide)
    refine ⟨_,pss_cons (ps_set (i:=1) scRD.nd rfl (Or.inl rfl) (pe_mt0 M.byte hr1 (pv 0)))
      (pss_cons (ps_if (pt_cmp (pc_kdnotin hD (pv 1) (pe_cst hf))) (pss_one (ps_raise T.xt hr rfl T.mC (pe_fld (pv 0) rfl))) pss_nil)
      (pss_cons (ps_expr (pe_mt0 M.adv hr1 (pv 0)))
      (pss_one (ps_ret (pe_kdget hD (pe_cst hf) (pv 1) (fun _ _=>rfl)))))),?_⟩
    refine ⟨_,rfl,c,dx,_,rfl,hc,cf_no _ _ _ (by decide) (by decide) (by decide),c,a,t,p,e,rfl,u,?_⟩
    refine ⟨_,rfl,_,rfl,rfl,_,rfl,?_⟩
    cases hr0:st t p e with
    | nil=>
      rw [hr0] at k
      show if (!(List.lookup (-1:Int) _).isSome)=true then _ else _
      rw [fac_none]
      exact ⟨_,rfl,c,B,dx,_,_,rfl,hc,T.cl,T.nP,cf_place _ _ _,_,rfl,fun d hd=>k _ d upd_same⟩
    | cons z r=>
      rw [hr0] at k
      have hlt:=st_lt u.len hr0
      show if (!(List.lookup (z.toNat:Int) _).isSome)=true then _ else _
      unfold digAt at k
      dsimp only at k
      cases hi:[(50:UInt8),51,53,55].idxOf? z with
      | none=>
        rw [hi] at k
        rw [fac_look,hi]
        exact ⟨_,rfl,c,B,dx,_,_,rfl,hc,T.cl,T.nP,cf_place _ _ _,_,rfl,fun d hd=>k _ d upd_same⟩
      | some j=>
        rw [hi] at k
        have hl:=fac_look z
        rw [hi] at hl
        rw [hl]
        refine ⟨_,rfl,c,dx,_,rfl,hc,cf_no _ _ _ (by decide) (by decide) (by decide),c,dx,a,p,e,rfl,hc,fun H1 h1 h2=>?_⟩
        refine ⟨_,rfl,_,_,rfl,rfl,hl,?_⟩
        exact k H1 _ (u.move h2 ⟨dx,h1⟩ hlt) h2 rfl
theorem scRP:FnScope ["cursor","start","n","d"] ["cursor","start"] (defScope s_read_power):=⟨rfl,rfl,rfl,by decide +kernel,rfl,by decide +kernel,by decide +kernel⟩
theorem ok_power {f:Addr} {fd:FuncData} (F:Fun K "read_power" "read_power" s_read_power f fd) (T:Txt K mg B C) (M:Crs P w K mg base B C) (DN:Dfn P w K mg base C 3 "read_number" ["cursor"] (spRead K B C vNat number))
    (DS:Dfn P w K mg base C 4 "read_signed_number" ["cursor"] (spRead K B C vInt signed)) (DG:Dfn P w K mg base C 1 "common_factor" ["a","b"] spGcd):
    FnOk P w K mg base (CXF P w C) 5 f fd ["cursor","start"] (spPow K B C):=by
  refine F.okX scRP (fun vs H Q E h=>?_) (fun cdv A outer s H vs Q E hr h=>?_)
  · obtain ⟨c,a,t,p,e,s,rfl,_⟩:=h
    rfl
  · obtain ⟨c,a,t,p,e,s',rfl,u,k⟩:=h
    obtain ⟨dx,hc⟩:=u.at_
    have hr1:=hr.mono (show 1<=4 by decide)
    have hr2:=hr.mono (show 2<=4 by decide)
    have hr3:=hr.mono (show 3<=4 by decide)
    refine ⟨_,pss_cons (ps_if (pt_cmpR op_ne (pe_mt0 M.byte hr1 (pv 0)) (pe_cst T.cCARET) (nomark _)) (pss_one (ps_ret (pe_tup (pa_cons pe_int (pa_cons pe_int pa_nil))))) pss_nil)
      (pss_cons (ps_expr (pe_mt0 M.adv hr1 (pv 0)))
      (pss_cons (ps_set (i:=2) scRP.nd rfl (Or.inl rfl) (pe_fn DS hr rfl (pa_cons (pv 0) pa_nil)))
      (pss_cons (ps_if (pt_cmpR op_ne (pe_mt0 M.byte hr1 (pv 0)) (pe_cst T.cSLASH) (nomark _))
        (pss_cons (ps_if (PW.pt (pw_or (pt_cmpR op_eq (pv 2) pe_int (nomark _)) (pw_or1 (pt_cmpR op_eq (pv 2) pe_int (nomark _))))) (pss_one (ps_raise T.xt hr2 rfl T.mC (pv 1))) pss_nil) (pss_one (ps_ret (pe_tup (pa_cons (pv 2) (pa_cons pe_int pa_nil)))))) pss_nil)
      (pss_cons (ps_expr (pe_mt0 M.adv hr1 (pv 0)))
      (pss_cons (ps_set (i:=3) scRP.nd rfl (Or.inl rfl) (pe_fn DN hr3 rfl (pa_cons (pv 0) pa_nil)))
      (pss_cons (ps_if (PW.pt (pw_or (pt_cmpR op_lt (pv 3) pe_int (nomark _)) (pw_or1 (pt_cmpR op_ne (pe_fn DG hr1 rfl (pa_cons (pv 2) (pa_cons (pv 3) pa_nil))) pe_int (nomark _))))) (pss_one (ps_raise T.xt hr2 rfl T.mC (pv 1))) pss_nil)
      (pss_one (ps_ret (pe_tup (pa_cons (pv 2) (pa_cons (pv 3) pa_nil))))))))))),?_⟩
    refine ⟨_,rfl,c,dx,_,rfl,hc,cf_no _ _ _ (by decide) (by decide) (by decide),c,a,t,p,e,rfl,u,rfl,_,rfl,?_⟩
    rw [dint]
    have pair:∀ {H1:Hp} {b:Addr} {o:HO},H1 b=Option.none->Keep H1 (upd H1 b o) c:=fun {H1 b o} hb x o' hx _=>by rw [upd_ne (ne_of_none hx hb)];exact hx
    refine ite2 (fun h=>?_) fun h=>?_
    · have hne:¬ headI (st t p e)=((94:UInt8).toNat:Int):=is_dec h
      have e1:powAt s' p (st t p e)=.ok ((1,1),p,st t p e):=by
        cases hr0:st t p e with
        | nil=>rfl
        | cons z r=>
          unfold powAt
          dsimp only
          rw [if_neg (headI_ne hne z r hr0)]
      rw [e1] at k
      refine ⟨(by show 2<=sizeLine;decide),fun b hb=>?_⟩
      exact k _ b (u.same (fun x o hx=>by rw [upd_ne (ne_of_none hx hb)];exact hx)) (pair hb) upd_same
    · have heq:headI (st t p e)=((94:UInt8).toNat:Int):=not_dec h
      obtain ⟨r,hr0⟩:=headI_cons heq
      have hst:=st_next hr0
      have hlt:=st_lt u.len hr0
      rw [hr0] at k
      unfold powAt at k
      dsimp only at k
      rw [if_pos rfl] at k
      refine ⟨_,rfl,c,dx,_,rfl,hc,cf_no _ _ _ (by decide) (by decide) (by decide),c,dx,a,p,e,rfl,hc,fun H1 h1 h2=>?_⟩
      have u1:=u.move h2 ⟨dx,h1⟩ hlt
      refine ⟨_,rfl,c,a,t,p+1,e,rfl,u1,?_⟩
      rw [hst]
      cases hs:signed (p+1) r with
      | error x=>rw [hs] at k;exact k
      | ok z=>
        obtain ⟨n,q,v⟩:=z
        rw [hs] at k
        dsimp only at k
        intro H2 y u2 k2 hy
        obtain rfl:y=.int n:=hy
        obtain ⟨a1,a2,a3⟩:=Front.at_ u.len hlt (by rw [hst];exact front_signed (p+1) r) hs
        subst a3
        obtain ⟨dx2,hc2⟩:=u2.at_
        have hgt:∀ (R:Prop),R->R:=fun _ r=>r
        refine ⟨_,rfl,c,dx2,_,rfl,hc2,cf_no _ _ _ (by decide) (by decide) (by decide),c,a,t,q,e,rfl,u2,rfl,_,rfl,?_⟩
        rw [dint]
        refine ite2 (fun h=>?_) fun h=>?_
        · have hne:¬ headI (st t q e)=((47:UInt8).toNat:Int):=is_dec h
          have k':match (if n=0\/n=1 then .error s' else .ok ((n,1),q,st t q e):Rd (Int × Nat)) with
              | .error x=>Err C E x
              | .ok (nd,q,_)=>∀ (H':Hp) (b:Addr),Cur K B H' c a t q e->Keep H H' c->H' b=some (.tup [.int nd.1,.int (nd.2:Int)])->Q (.ref b) H':=by
            cases hq:st t q e with
            | nil=>rw [hq] at k;exact k
            | cons b w=>
              rw [hq] at k
              dsimp only at k
              rw [if_neg (headI_ne hne b w hq)] at k
              exact k
          refine ⟨_,rfl,rfl,_,rfl,or_test (b2:=decide (n=1)) (fun Q' q'=>⟨_,rfl,rfl,_,rfl,by rw [dint];exact q'⟩) ?_⟩
          rw [dint]
          refine ite2 (fun h=>?_) fun h=>?_
          · rw [Bool.or_eq_true,decide_eq_true_eq,decide_eq_true_eq] at h
            rw [if_pos h] at k'
            exact ⟨_,rfl,_,rfl,fun d hd=>k' _ d upd_same⟩
          · rw [Bool.or_eq_true,decide_eq_true_eq,decide_eq_true_eq] at h
            rw [if_neg h] at k'
            refine ⟨_,rfl,(by show 2<=sizeLine;decide),fun b hb=>?_⟩
            exact k' _ b (u2.same (fun x o hx=>by rw [upd_ne (ne_of_none hx hb)];exact hx)) ((h2.trans k2).trans (pair hb)) upd_same
        · have heq:headI (st t q e)=((47:UInt8).toNat:Int):=not_dec h
          obtain ⟨w',hr1'⟩:=headI_cons heq
          have hst2:=st_next hr1'
          have hlt2:=st_lt u.len hr1'
          rw [hr1'] at k
          dsimp only at k
          rw [if_pos rfl] at k
          refine ⟨_,rfl,c,dx2,_,rfl,hc2,cf_no _ _ _ (by decide) (by decide) (by decide),c,dx2,a,q,e,rfl,hc2,fun H3 h3 k3=>?_⟩
          have u3:=u2.move k3 ⟨dx2,h3⟩ hlt2
          refine ⟨_,rfl,c,a,t,q+1,e,rfl,u3,?_⟩
          rw [hst2]
          cases hn:number (q+1) w' with
          | error x=>rw [hn] at k;exact k
          | ok z=>
            obtain ⟨d,z1,t1⟩:=z
            rw [hn] at k
            dsimp only at k
            intro H4 y u4 k4 hy
            obtain rfl:y=.int (d:Int):=hy
            refine ⟨_,rfl,_,_,rfl,rfl,_,rfl,or_test (b2:=!decide (((Int.gcd n (d:Int):Nat):Int)=1)) (fun Q' q'=>⟨_,rfl,_,rfl,n,(d:Int),rfl,by omega,rfl,_,rfl,by rw [dint];exact q'⟩) ?_⟩
            have hg:Int.gcd n (d:Int)=Nat.gcd n.natAbs d:=rfl
            refine ite2 (fun h=>?_) fun h=>?_
            · rw [Bool.or_eq_true,decide_eq_true_eq] at h
              rw [if_neg (by
                rintro ⟨g1,g2⟩
                rcases h with h | h
                · omega
                · exact is_dec h (by rw [hg,g2];rfl))] at k
              exact ⟨_,rfl,_,rfl,fun d' hd'=>k _ d' upd_same⟩
            · rw [Bool.or_eq_true,decide_eq_true_eq] at h
              have h1':¬ ((d:Int) < 2):=fun z=>h (.inl z)
              have h2':((Int.gcd n (d:Int):Nat):Int)=1:=not_dec fun z=>h (.inr z)
              rw [if_pos ⟨by omega,by rw [<- hg];omega⟩] at k
              refine ⟨_,rfl,_,rfl,(by show 2<=sizeLine;decide),fun b hb=>?_⟩
              exact k _ b (u4.same (fun x o hx=>by rw [upd_ne (ne_of_none hx hb)];exact hx)) (((h2.trans k2).trans (k3.trans k4)).trans (pair hb)) upd_same
end
end Lu
namespace Lu
open PySem PySem.Spec PyProof.Rows L2 Lute LuR LuW
def finA (y:Iv) (q:Nat):Bytes->Except Nat Iv
  | []=>if y.ok=true then .ok y else .error q
  | _::_=>.error q
theorem fa_fac (least:Nat) (x:Iv) (p:Nat) (t:Bytes):fa least x p t=match facAt p t with
    | .error e=>.error e
    | .ok ((k,n,d),q,u)=>if k < least then .error p else match u with
      | []=>finA (x.plus (powerOf k n d)) q []
      | c::v=>if c=32 then fa (k+1) (x.plus (powerOf k n d)) (q+1) v else .error q:=by
  rw [fa_eq,factorAt_fac]
  cases factorAt p t with
  | error e=>rfl
  | ok z=>
    obtain ⟨⟨k,w⟩,q,u⟩:=z
    cases w with
    | none=>
      dsimp only
      split <;> rfl
    | some nd=>
      obtain ⟨n,d⟩:=nd
      rfl
def PowAt (H:Hp) (l:Addr) (P:Pows):Prop:=∃ b0 b1 b2 b3:Addr,H l=some (.lst [.ref b0,.ref b1,.ref b2,.ref b3])/\H b0=some (.tup [.int (P 0).1,.int ((P 0).2:Int)])/\H b1=some (.tup [.int (P 1).1,.int ((P 1).2:Int)]) ∧
  H b2=some (.tup [.int (P 2).1,.int ((P 2).2:Int)])/\H b3=some (.tup [.int (P 3).1,.int ((P 3).2:Int)])
def Keep2 (H H':Hp) (c l:Addr):Prop:=∀ b o,H b=some o->b ≠ c->b ≠ l->H' b=some o
theorem Keep2.refl (H:Hp) (c l:Addr):Keep2 H H c l:=fun _ _ h _ _=>h
theorem Keep2.trans {H H1 H2:Hp} {c l:Addr} (a:Keep2 H H1 c l) (b:Keep2 H1 H2 c l):Keep2 H H2 c l:=fun x o h h1 h2=>b x o (a x o h h1 h2) h1 h2
theorem Keep2.of {H H':Hp} {c l:Addr} (a:Keep H H' c):Keep2 H H' c l:=fun x o h h1 _=>a x o h h1
theorem PowAt.keep {H H':Hp} {c l:Addr} {P:Pows} {B dx:Addr} {fs:List (Str × V)} (h:PowAt H l P) (k:Keep H H' c) (hc:H c=some (.ins B dx fs)):PowAt H' l P:=by
  obtain ⟨b0,b1,b2,b3,h0,h1,h2,h3,h4⟩:=h
  exact ⟨b0,b1,b2,b3,k _ _ h0 (ne_of h0 hc (by intro z;cases z)),k _ _ h1 (ne_of h1 hc (by intro z;cases z)),k _ _ h2 (ne_of h2 hc (by intro z;cases z)),k _ _ h3 (ne_of h3 hc (by intro z;cases z)),k _ _ h4 (ne_of h4 hc (by intro z;cases z))⟩
theorem PowAt.set {H:Hp} {l b:Addr} {P:Pows} {k:Nat} {n:Int} {d:Nat} {xs:List V} (h:PowAt H l P) (hx:H l=some (.lst xs)) (hk:k < 4) (hb:H b=some (.tup [.int n,.int (d:Int)])):PowAt (upd H l (.lst (xs.set k (.ref b)))) l (setP P k (n,d)):=by
  obtain ⟨b0,b1,b2,b3,h0,h1,h2,h3,h4⟩:=h
  rw [h0] at hx
  cases hx
  have n0:=ne_of h1 h0 (by intro z;cases z)
  have n1:=ne_of h2 h0 (by intro z;cases z)
  have n2:=ne_of h3 h0 (by intro z;cases z)
  have n3:=ne_of h4 h0 (by intro z;cases z)
  have nb:=ne_of hb h0 (by intro z;cases z)
  have c:k=0\/k=1\/k=2\/k=3:=by omega
  rcases c with rfl | rfl | rfl | rfl
  · exact ⟨b,b1,b2,b3,upd_same,by rw [upd_ne nb];exact hb,by rw [upd_ne n1];exact h2,by rw [upd_ne n2];exact h3,by rw [upd_ne n3];exact h4⟩
  · exact ⟨b0,b,b2,b3,upd_same,by rw [upd_ne n0];exact h1,by rw [upd_ne nb];exact hb,by rw [upd_ne n2];exact h3,by rw [upd_ne n3];exact h4⟩
  · exact ⟨b0,b1,b,b3,upd_same,by rw [upd_ne n0];exact h1,by rw [upd_ne n1];exact h2,by rw [upd_ne nb];exact hb,by rw [upd_ne n3];exact h4⟩
  · exact ⟨b0,b1,b2,b,upd_same,by rw [upd_ne n0];exact h1,by rw [upd_ne n1];exact h2,by rw [upd_ne n2];exact h3,by rw [upd_ne nb];exact hb⟩
def Small (P:Pows):Prop:=∀ j,(P j).2 < 10000/\-10000 < (P j).1/\(P j).1 < 10000
theorem small_no:Small noP:=fun _=>by unfold noP;decide
theorem Small.set {P:Pows} {k:Nat} {n:Int} {d:Nat} (h:Small P) (hd:d < 10000) (h1:-10000 < n) (h2:n < 10000):Small (setP P k (n,d)):=fun j=>by
  unfold setP
  split
  · exact ⟨hd,h1,h2⟩
  · exact h j
def spFactors (K:PySem.W.Frag) (B C:Addr):Sp:=fun vs H Q E=>∃ (c a l:Addr) (t:Bytes) (p e:Nat),vs=[.ref c,.ref l]/\Cur K B H c a t p e/\PowAt H l noP ∧
  (∀ x,fa 0 unison p (st t p e)=.error x->Err C E x) ∧
  (∀ (H':Hp) (P:Pows) (k q:Nat),Cur K B H' c a t q e->PowAt H' l P->PowsOk P k->Small P->fa 0 unison p (st t p e)=finA (com P) q (st t q e)->Keep2 H H' c l->Q .non H')
section
variable {P:Program} {w:World} {K:PySem.W.Frag} {mg:Str->Option Value} {base:Heap} {B C:Addr}
theorem scRF:FnScope ["cursor","powers","before","more","start","which","power"] ["cursor","powers"] (defScope s_read_factors):=⟨rfl,rfl,rfl,by decide +kernel,rfl,by decide +kernel,by decide +kernel⟩
theorem ok_factors {f:Addr} {fd:FuncData} (F:Fun K "read_factors" "read_factors" s_read_factors f fd) (T:Txt K mg B C) (M:Crs P w K mg base B C) (DD:Dfn P w K mg base C 3 "read_digit_of_factor" ["cursor"] (spRead K B C vNat digAt))
    (DP:Dfn P w K mg base C 5 "read_power" ["cursor","start"] (spPow K B C)):
    FnOk P w K mg base (CXF P w C) 6 f fd ["cursor","powers"] (spFactors K B C):=by
  refine F.okX scRF (fun vs H Q E h=>?_) (fun cdv A outer s H vs Q E hr h=>?_)
  · obtain ⟨c,a,l,t,p,e,rfl,_⟩:=h
    rfl
  · obtain ⟨c,a,l,t,p,e,rfl,u,hP,kE,kQ⟩:=h
    have hr1:=hr.mono (show 1<=5 by decide)
    have hr2:=hr.mono (show 2<=5 by decide)
    have hr3:=hr.mono (show 3<=5 by decide)
    refine ⟨_,pss_cons (ps_set (i:=2) scRF.nd rfl (Or.inl rfl) (pe_un un_neg pe_int))
      (pss_cons (ps_set (i:=3) scRF.nd rfl (Or.inl rfl) pe_bl)
      (pss_one (ps_while xown (pt_val (pv 3))
        (pss_cons (ps_set (i:=4) scRF.nd rfl (Or.inl rfl) (pe_fld (pv 0) rfl))
        (pss_cons (ps_set (i:=5) scRF.nd rfl (Or.inl rfl) (pe_fn DD hr3 rfl (pa_cons (pv 0) pa_nil)))
        (pss_cons (ps_set (i:=6) scRF.nd rfl (Or.inl rfl) (pe_fn DP hr rfl (pa_cons (pv 0) (pa_cons (pv 4) pa_nil))))
        (pss_cons (ps_if (pt_cmpR op_le (pv 5) (pv 2) (nomark _)) (pss_one (ps_raise T.xt hr2 rfl T.mC (pv 4))) pss_nil)
        (pss_cons (ps_asg (pv 6) (pg_sub (pv 1) (pv 5) set_list))
        (pss_cons (ps_set (i:=2) scRF.nd rfl (Or.inl rfl) (pv 5))
        (pss_cons (ps_set (i:=3) scRF.nd rfl (Or.inl rfl) (pe_cmpR op_eq (pe_mt0 M.byte hr1 (pv 0)) (pe_cst T.cBI) (nomark _)))
        (pss_one (ps_if (pt_val (pv 3)) (pss_one (ps_expr (pe_mt0 M.adv hr1 (pv 0)))) pss_nil))))))))))))
      ,?_⟩
    refine ⟨_,rfl,?_⟩
    refine ⟨fun m σ H'=>∃ (more:Bool) (least pos:Nat) (PP:Pows) (v4 v5 v6:Option V),m=(if more=true then e - pos+1 else 0)/\σ=[some (.ref c),some (.ref l),some (.int ((least:Int) - 1)),some (.bl more),v4,v5,v6]/\Cur K B H' c a t pos e/\PowAt H' l PP/\PowsOk PP least/\Small PP/\Keep2 H H' c l ∧
        fa 0 unison p (st t p e)=(if more=true then fa least (com PP) pos (st t pos e) else finA (com PP) pos (st t pos e)),
      ⟨_,true,0,p,noP,none,none,none,rfl,rfl,u,hP,noP_ok,small_no,Keep2.refl _ _ _,by rw [com_noP];rfl⟩,?_⟩
    rintro m σ H1 ⟨more,least,pos,PP,v4,v5,v6,rfl,rfl,u1,hP1,ok1,sm1,kp1,inv⟩
    refine ⟨_,rfl,_,rfl,?_⟩
    cases more with
    | false=>exact kQ H1 PP least pos u1 hP1 ok1 sm1 inv kp1
    | true=>
      rw [if_pos rfl] at inv ⊢
      obtain ⟨dx,hc⟩:=u1.at_
      refine ⟨fun σ' H'=>∃ (more:Bool) (least q:Nat) (PP:Pows) (v4 v5 v6:Option V),pos < q/\σ'=[some (.ref c),some (.ref l),some (.int ((least:Int) - 1)),some (.bl more),v4,v5,v6]/\Cur K B H' c a t q e/\PowAt H' l PP/\PowsOk PP least/\Small PP/\Keep2 H H' c l ∧
        fa 0 unison p (st t p e)=(if more=true then fa least (com PP) q (st t q e) else finA (com PP) q (st t q e)),?_,?_⟩
      · rintro σ' H' ⟨more,least,q,PP,v4,v5,v6,hq,rfl,a1,a2,a3,a4,a5,a6⟩
        refine ⟨_,?_,more,least,q,PP,v4,v5,v6,rfl,rfl,a1,a2,a3,a4,a5,a6⟩
        have:=a1.le
        show (if more=true then e - q+1 else 0) < e - pos+1
        split <;> omega
      · refine ⟨_,rfl,c,B,dx,_,_,rfl,hc,T.cl,T.nP,cf_place _ _ _,?_⟩
        refine ⟨_,rfl,c,a,t,pos,e,rfl,u1,?_⟩
        rw [fa_fac least (com PP) pos (st t pos e)] at inv
        unfold facAt at inv
        cases hd:digAt pos (st t pos e) with
        | error x=>rw [hd] at inv;exact kE x inv
        | ok z=>
          obtain ⟨k,q1,r1⟩:=z
          obtain ⟨hk4,rfl⟩:=dig_lt hd
          obtain ⟨a1,a2,a3⟩:=Front.at_ u1.len u1.le (front_dig pos (st t pos e)) hd
          subst a3
          rw [hd] at inv
          dsimp only at inv
          intro H2 y u2 k2 hy
          obtain rfl:y=.int (k:Int):=hy
          refine ⟨_,rfl,_,rfl,c,a,t,pos+1,e,pos,rfl,u2,?_⟩
          cases hp:powAt pos (pos+1) (st t (pos+1) e) with
          | error x=>rw [hp] at inv;exact kE x inv
          | ok z=>
            obtain ⟨⟨n,d⟩,q2,r2⟩:=z
            have pf:=pow_fine hp
            obtain ⟨b1,b2,b3⟩:=Front.at_ u1.len u2.le (front_pow pos (pos+1) (st t (pos+1) e)) hp
            subst b3
            rw [hp] at inv
            dsimp only at inv
            intro H3 b u3 k3 hb
            have hP2:=hP1.keep k2 hc
            obtain ⟨dx2,hc2⟩:=u2.at_
            have hP3:=hP2.keep k3 hc2
            obtain ⟨dx3,hc3⟩:=u3.at_
            refine ⟨_,rfl,_,rfl,_,_,rfl,rfl,_,rfl,?_⟩
            refine ite2 (fun h=>?_) fun h=>?_
            · have hlt:(k:Int)<=(least:Int) - 1:=of_decide_eq_true h
              rw [if_pos (by omega)] at inv
              exact ⟨_,rfl,_,rfl,fun d' hd'=>kE pos inv _ d' upd_same⟩
            · have hge:¬ (k:Int)<=(least:Int) - 1:=fun z=>h (decide_eq_true z)
              rw [if_neg (by omega)] at inv
              obtain ⟨xs,hxs,hlen⟩:∃ xs,H3 l=some (.lst xs)/\xs.length=4:=by
                obtain ⟨b0,b1,b2,b3,h0,_⟩:=hP3
                exact ⟨_,h0,rfl⟩
              have hix:ixN xs.length (k:Int)=some k:=by
                unfold ixN
                rw [if_pos (by omega),if_pos (by rw [hlen];omega)]
                rfl
              refine ⟨_,rfl,_,rfl,_,rfl,l,xs,_,k,rfl,rfl,hxs,hix,?_⟩
              have hP4:=hP3.set hxs hk4 hb
              have ncl:c ≠ l:=ne_of hc3 hxs (by intro z;cases z)
              obtain ⟨cs1,cs2⟩:=com_step ok1 (show least<=k by omega) hk4 pf.1 pf.2.2.2.2
              have sm4:=Small.set (k:=k) sm1 pf.2.1 pf.2.2.1 pf.2.2.2.1
              have u4:Cur K B (upd H3 l (.lst (xs.set k (.ref b)))) c a t q2 e:=by
                refine ⟨⟨dx3,by rw [upd_ne ncl];exact hc3⟩,?_,u3.le,u3.len⟩
                rcases u3.txt with (h | ⟨o,h⟩) | h
                · by_cases z:a=l
                  · exfalso
                    obtain ⟨b0,b1,b2,b3,h0,_⟩:=hP3
                    rw [z,h0] at h
                    have h':[V.ref b0,.ref b1,.ref b2,.ref b3]=tx t:=by injection h with h;injection h
                    unfold tx at h'
                    cases t with
                    | nil=>cases h'
                    | cons x r=>injection h' with h' _;cases h'
                  · exact .inl (.inl (by rw [upd_ne z];exact h))
                · exact .inl (.inr ⟨o,by rw [upd_ne (ne_of h hxs (by intro z;cases z))];exact h⟩)
                · exact .inr h
              have kp4:Keep2 H (upd H3 l (.lst (xs.set k (.ref b)))) c l:=fun x o hx n1 n2=>by
                rw [upd_ne n2]
                exact k3 _ _ (k2 _ _ (kp1 _ _ hx n1 n2) n1) n1
              obtain ⟨dx4,hc4⟩:=u4.at_
              refine ⟨_,rfl,?_⟩
              refine ⟨_,rfl,c,dx4,_,rfl,hc4,cf_no _ _ _ (by decide) (by decide) (by decide),c,a,t,q2,e,rfl,u4,rfl,?_⟩
              rw [dint]
              refine ⟨_,rfl,_,rfl,?_⟩
              have vals:∀ (mm:Bool),([some (V.ref c),some (.ref l),some (.int ((k:Int))),some (.bl mm),some (.int (pos:Int)),some (.int (k:Int)),some (.ref b)]:List (Option V))=[some (V.ref c),some (.ref l),some (.int (((k+1:Nat):Int) - 1)),some (.bl mm),some (.int (pos:Int)),some (.int (k:Int)),some (.ref b)]:=fun mm=>by
                rw [show (((k+1:Nat):Int) - 1)=(k:Int) by omega]
              refine ite2 (fun h=>?_) fun h=>?_
              · have heq:headI (st t q2 e)=((32:UInt8).toNat:Int):=of_decide_eq_true h
                obtain ⟨r,hr0⟩:=headI_cons heq
                have hst:=st_next hr0
                have hlt:=st_lt u1.len hr0
                rw [hr0] at inv
                dsimp only at inv
                rw [if_pos rfl,cs1] at inv
                refine ⟨_,rfl,c,dx4,_,rfl,hc4,cf_no _ _ _ (by decide) (by decide) (by decide),c,dx4,a,q2,e,rfl,hc4,fun H5 h5 k5=>?_⟩
                refine ⟨true,k+1,q2+1,_,some (.int (pos:Int)),some (.int (k:Int)),some (.ref b),by omega,?_,u4.move k5 ⟨dx4,h5⟩ hlt,hP4.keep k5 hc4,cs2,sm4,kp4.trans (Keep2.of k5),?_⟩
                · rw [<- vals true]
                  show _=[some (V.ref c),some (.ref l),some (.int ((k:Int))),some (.bl true),some (.int (pos:Int)),some (.int (k:Int)),some (.ref b)]
                  rw [show (decide (headI (st t q2 e)=32))=true from h]
                  rfl
                · rw [hst]
                  exact inv
              · have hne:¬ headI (st t q2 e)=((32:UInt8).toNat:Int):=fun z=>h (decide_eq_true z)
                refine ⟨false,k+1,q2,_,some (.int (pos:Int)),some (.int (k:Int)),some (.ref b),by omega,?_,u4,hP4,cs2,sm4,kp4,?_⟩
                · rw [<- vals false]
                  show _=[some (V.ref c),some (.ref l),some (.int ((k:Int))),some (.bl false),some (.int (pos:Int)),some (.int (k:Int)),some (.ref b)]
                  have hf:(decide (headI (st t q2 e)=32))=false:=decide_eq_false hne
                  rw [hf]
                  rfl
                · show _=finA _ _ _
                  rw [inv,<- cs1]
                  cases hr0:st t q2 e with
                  | nil=>rfl
                  | cons z r=>
                    dsimp only
                    rw [if_neg (headI_ne hne z r hr0)]
                    rfl
end
end Lu
namespace LZ
open PySem
inductive Src where
  | lst (a:Addr) | tup (a:Addr) | txt (x:Str) (t:Tok)
def Src.has:Src->Addr->Prop
  | .lst a,l=>l=a
  | .tup a,l=>l=a
  | .txt _ _,_=>False
def Src.val:Src->Value
  | .lst a=>.ref a
  | .tup a=>.ref a
  | .txt x t=>.str x t
def Src.ty:Src->String
  | .lst _=>"list_iterator"
  | .tup _=>"tuple_iterator"
  | .txt _ _=>"str_ascii_iterator"
abbrev Src.obj (r:Src):Obj:={ cls:=.type r.ty,data:=.fields #[r.val,.int 0 0] }
def Iter (h:Heap) (it:Addr):Src->Nat->Prop
  | .lst a,i=>h.IsListIter it a i
  | .tup a,i=>h.IsTupleIter it a i
  | .txt x t,i=>h.IsStrIter it "str_ascii_iterator" x t i
def At (h:Heap):Src->List L2.V->Prop
  | .lst a,vs=>∃ us:List Value,L2.Vals vs us/\h.IsList a us.toArray
  | .tup a,vs=>∃ us:List Value,L2.Vals vs us/\h.IsTuple a us.toArray
  | .txt x _,vs=>x.cps.all (· < 128)=true/\vs=x.cps.toList.map fun c=>L2.V.str ⟨#[c]⟩
theorem At.keeps {h h':Heap} {r:Src} {vs:List L2.V} (x:At h r vs) (k:∀ l o,r.has l->h.get? l=some o->h'.get? l=some o):At h' r vs:=by
  cases r with
  | lst a=>obtain ⟨us,r,o,ho,c⟩:=x;exact ⟨us,r,o,k a o rfl ho,c⟩
  | tup a=>obtain ⟨us,r,o,ho,c⟩:=x;exact ⟨us,r,o,k a o rfl ho,c⟩
  | txt x t=>exact x
theorem Iter.at_ {h h':Heap} {it:Addr} {r:Src} {i:Nat} (x:Iter h it r i) (k:∀ o,h.get? it=some o->h'.get? it=some o):Iter h' it r i:=by
  cases r with
  | lst a=>obtain ⟨o,ho,c⟩:=x;exact ⟨o,k o ho,c⟩
  | tup a=>obtain ⟨o,ho,c⟩:=x;exact ⟨o,k o ho,c⟩
  | txt x t=>obtain ⟨o,ho,c⟩:=x;exact ⟨o,k o ho,c⟩
theorem Iter.some_ {h:Heap} {it:Addr} {r:Src} {i:Nat} (x:Iter h it r i):∃ o,h.get? it=some o/\∀ v,o.data ≠ .cell v:=by
  cases r with
  | lst a=>obtain ⟨o,ho,_,d⟩:=x;exact ⟨o,ho,fun v q=>by rw [d] at q;cases q⟩
  | tup a=>obtain ⟨o,ho,_,d⟩:=x;exact ⟨o,ho,fun v q=>by rw [d] at q;cases q⟩
  | txt x t=>obtain ⟨o,ho,_,d⟩:=x;exact ⟨o,ho,fun v q=>by rw [d] at q;cases q⟩
section
variable {prog:Program} {w:World} {A:Around} {E:Value->Shared->Prop} {s:Shared}
theorem next_t {it l:Addr} {i:Nat} {vs:Array Value} {x:Value} {Q:Value->Shared->Prop} (a:s.heap.IsTupleIter it l i) (b:s.heap.IsTuple l vs) (e:vs[i]?=some x)
    (k:∀ h',h'.IsTupleIter it l (i+1)->Heap.SameBut it s.heap h'->Q x { s with heap:=h' }):wpAny (model prog w) A (Builtin.SmallTypes.nextOf (.ref it)) Q E s:=by
  obtain ⟨o,h1,h2,h3⟩:=id a
  obtain ⟨ol,g1,_,nl,g2⟩:=b
  unfold Builtin.SmallTypes.nextOf
  refine wpAny_bind (wpAny_callSpecial?_slot (name:=Str.ofString "__next__") a.typeIs F.slot_tuple_iterator_next (wpAny_call_entry F.slot_tuple_iterator_next a.typeIs F.entry_tuple_iterator_next ?_ (F.args_tuple_iterator_next_1 _)))
  show wpAny _ _ (field (.ref it) 0 >>= _) _ _ s;refine wpAny_bind (wpAny_field h1 h3 (x:=.ref l) rfl ?_)
  show wpAny _ _ (if (Value.ref l == Value.none)=true then _ else _) _ _ s;rw [if_neg (show ¬ ((Value.ref l == Value.none)=true) from Bool.false_ne_true)]
  show wpAny _ _ (field (.ref it) 1 >>= _) _ _ s;refine wpAny_bind (wpAny_field h1 h3 (x:=.int i 0) rfl ?_)
  show wpAny _ _ (seqItems? (.ref l) >>= _) _ _ s;refine wpAny_bind (wpAny_seqItems g1 g2 ?_)
  simp only [Int.toNat_natCast,e]
  refine wpAny_bind (wpAny_setField h1 h3 (by simp) (wpAny_pure ⟨x,rfl,wpAny_pure (k _ ?_ (Heap.SameBut.update ..))⟩))
  refine ⟨_,Heap.get?_update_self _ h1 (Obj.isFreed_of_fields (Obj.data_mapFields h3 _)),(Obj.cls_mapFields ..).trans h2,?_⟩
  rw [Obj.data_mapFields h3]
  simp [rawInt]
theorem next_t_end {it l:Addr} {i:Nat} {vs:Array Value} {Q:Value->Shared->Prop} (hh:A.handled=none) (a:s.heap.IsTupleIter it l i) (b:s.heap.IsTuple l vs) (e:vs[i]?=none)
    (k:∀ h' x,Heap.ExtBut it s.heap h'->(∃ o,h'.get? x=some o/\o.cls=.type "StopIteration")->E (.ref x) { s with heap:=h' }):wpAny (model prog w) A (Builtin.SmallTypes.nextOf (.ref it)) Q E s:=by
  obtain ⟨o,h1,h2,h3⟩:=id a
  obtain ⟨ol,g1,_,nl,g2⟩:=b
  unfold Builtin.SmallTypes.nextOf
  refine wpAny_bind (wpAny_callSpecial?_slot (name:=Str.ofString "__next__") a.typeIs F.slot_tuple_iterator_next (wpAny_call_entry F.slot_tuple_iterator_next a.typeIs F.entry_tuple_iterator_next ?_ (F.args_tuple_iterator_next_1 _)))
  show wpAny _ _ (field (.ref it) 0 >>= _) _ _ s;refine wpAny_bind (wpAny_field h1 h3 (x:=.ref l) rfl ?_)
  show wpAny _ _ (if (Value.ref l == Value.none)=true then _ else _) _ _ s;rw [if_neg (show ¬ ((Value.ref l == Value.none)=true) from Bool.false_ne_true)]
  show wpAny _ _ (field (.ref it) 1 >>= _) _ _ s;refine wpAny_bind (wpAny_field h1 h3 (x:=.int i 0) rfl ?_)
  show wpAny _ _ (seqItems? (.ref l) >>= _) _ _ s;refine wpAny_bind (wpAny_seqItems g1 g2 ?_)
  simp only [Int.toNat_natCast,e]
  refine wpAny_bind (wpAny_rule (wpAny_bind (wpAny_setField h1 h3 (by simp) ?_)));show wpAny _ _ (newExc (.type "StopIteration") [] >>= _) _ _ _
  refine wpAny_bind ?_;simp only [newExc,newTuple]
  refine wpAny_bind (wpAny_newObj_type ?_ (by size_fits));refine wpAny_bind (m:=firstArgMember _ _) (wpAny_of_eq (a:=Value.none) (by first | rfl | (simp only [firstArgMember];rfl)) ?_)
  refine wpAny_newObj_type ?_ (by size_fits);simp only [raiseNew]
  refine wpAny_bind (wpAny_handled ?_);first | rw [show A.in1.handled=none from hh] | rw [hh]
  exact wpAny_bind (wpAny_pure (wpAny_throw (k _ _ (((Heap.SameBut.update ..).extBut.push _).push _) ⟨_,Heap.get?_push_size _ rfl,rfl⟩)))
theorem next_g {it:Addr} {r:Src} {i:Nat} {vs:List L2.V} {x:L2.V} {Q:Value->Shared->Prop} (a:Iter s.heap it r i) (b:At s.heap r vs) (e:vs[i]?=some x)
    (k:∀ u h' tk,L2.RelV x u->Iter h' it r (i+1)->Heap.SameBut it s.heap h'->Q u { s with heap:=h',toks:=tk }):wpAny (model prog w) A (Builtin.SmallTypes.nextOf (.ref it)) Q E s:=by
  cases r with
  | lst l=>
    obtain ⟨us,rv,hl⟩:=b
    obtain ⟨u,hu,ru⟩:=rv.get e
    exact wpAny_nextOf_list_item a hl (x:=u) (by simpa using hu) fun h' t sb=>k u h' s.toks ru t sb
  | tup l=>
    obtain ⟨us,rv,hl⟩:=b
    obtain ⟨u,hu,ru⟩:=rv.get e
    exact next_t a hl (x:=u) (by simpa using hu) fun h' t sb=>k u h' s.toks ru t sb
  | txt y t=>
    obtain ⟨_,rfl⟩:=b
    rw [List.getElem?_map] at e
    cases hc:y.cps.toList[i]? with
    | none=>rw [hc] at e;cases e
    | some c=>
      rw [hc] at e
      cases e
      exact wpAny_nextOf_ascii_item a (c:=c) (by simpa using hc) fun h' t' sb=>k _ h' _ ⟨_,rfl⟩ t' sb
theorem next_g_end {it:Addr} {r:Src} {i:Nat} {vs:List L2.V} {Q:Value->Shared->Prop} (hh:A.handled=none) (a:Iter s.heap it r i) (b:At s.heap r vs) (e:vs[i]?=none)
    (k:∀ h' x,Heap.ExtBut it s.heap h'->(∃ o,h'.get? x=some o/\o.cls=.type "StopIteration")->E (.ref x) { s with heap:=h' }):wpAny (model prog w) A (Builtin.SmallTypes.nextOf (.ref it)) Q E s:=by
  cases r with
  | lst l=>
    obtain ⟨us,rv,hl⟩:=b
    have:=rv.length
    have e':=List.getElem?_eq_none_iff.mp e
    exact wpAny_nextOf_list_end hh a hl (by simp;omega) k
  | tup l=>
    obtain ⟨us,rv,hl⟩:=b
    have:=rv.length
    have e':=List.getElem?_eq_none_iff.mp e
    exact next_t_end hh a hl (by simp;omega) k
  | txt y t=>
    obtain ⟨_,rfl⟩:=b
    have e':=List.getElem?_eq_none_iff.mp e
    rw [List.length_map] at e'
    exact wpAny_nextOf_ascii_end hh a (Array.getElem?_eq_none (by simpa using e')) k
theorem iter_g {r:Src} {vs:List L2.V} {Q:Value->Shared->Prop} (b:At s.heap r vs) (h:Q (.ref s.heap.objs.size) { s with heap:=s.heap.push r.obj }):wpAny (model prog w) A (pyIter r.val) Q E s:=by
  cases r with
  | lst l=>obtain ⟨us,rv,hl⟩:=b;exact wpAny_pyIter_list hl h
  | tup l=>obtain ⟨us,rv,hl⟩:=b;exact wpAny_pyIter_tuple hl h
  | txt y t=>exact wpAny_pyIter_ascii b.1 h
theorem Iter.zero {h:Heap} {it:Addr} {r:Src} (e:h.get? it=some r.obj):Iter h it r 0:=by
  cases r with
  | lst l=>exact ⟨_,e,rfl,rfl⟩
  | tup l=>exact ⟨_,e,rfl,rfl⟩
  | txt y t=>exact ⟨_,e,rfl,rfl⟩
structure Apart (z TI TO i1 i2:Addr) (r1 r2:Src):Prop where
  TIz:TI ≠ z
  TOz:TO ≠ z
  i1z:i1 ≠ z
  i2z:i2 ≠ z
  TITO:TI ≠ TO
  TIi1:TI ≠ i1
  TIi2:TI ≠ i2
  TOi1:TO ≠ i1
  TOi2:TO ≠ i2
  i12:i1 ≠ i2
  r1:∀ l,r1.has l->l ≠ z/\l ≠ TO/\l ≠ i1/\l ≠ i2
  r2:∀ l,r2.has l->l ≠ z/\l ≠ TO/\l ≠ i1/\l ≠ i2
theorem zip_item {z TI TO i1 i2:Addr} {r1 r2:Src} {k1 k2:Nat} {xs ys:List L2.V} {x y:L2.V} {a b:Value} {Q:Value->Shared->Prop} (D:Apart z TI TO i1 i2 r1 r2)
    (hz:IsZip s.heap z TI TO .none) (hTI:IsPair s.heap TI (.ref i1) (.ref i2)) (hTO:IsPair s.heap TO a b) (h1:Iter s.heap i1 r1 k1) (h2:Iter s.heap i2 r2 k2) (hl1:At s.heap r1 xs) (hl2:At s.heap r2 ys) (hx:xs[k1]?=some x) (hy:ys[k2]?=some y)
    (hQ:∀ u v h' tk,L2.RelV x u->L2.RelV y v->IsZip h' z TI TO (rawInt s.heap.objs.size)->IsPair h' TO u v->Iter h' i1 r1 (k1+1)->Iter h' i2 r2 (k2+1)->IsPair h' s.heap.objs.size u v->h'.objs.size=s.heap.objs.size+1->(∀ c o,c ≠ z->c ≠ TO->c ≠ i1->c ≠ i2->s.heap.get? c=some o->h'.get? c=some o)->Q (.ref s.heap.objs.size) { s with heap:=h',toks:=tk }):
    wpAny (model prog w) A (Builtin.«zip.__next__» ⟨[.ref z],[]⟩) (fun fin s'=>∃ v,fin=.done (.ret v)/\Q v s') E s:=by
  show wpAny _ _ (field (.ref z) 2 >>= _) _ _ _;refine wpAny_bind (wpAny_field hz rfl (x:=.bool false) rfl ?_)
  show wpAny _ _ (field (.ref z) 3 >>= _) _ _ _;refine wpAny_bind (wpAny_field hz rfl (x:=.ref TI) rfl ?_);refine wpAny_bind (wpAny_seqItems hTI rfl ?_)
  show wpAny _ _ (Builtin.SmallTypes.ownedTupleIsFree (.ref z) >>= _) _ _ _;refine wpAny_bind ?_;unfold Builtin.SmallTypes.ownedTupleIsFree
  refine wpAny_bind (wpAny_field hz rfl (x:=.none) rfl (wpAny_pure ?_));simp only [if_true];refine wpAny_bind (wpAny_rule ?_);refine wpAny_bind (wpAny_field hz rfl (x:=.ref TO) rfl ?_)
  refine wpAny_bind (wpAny_setField_rec hz (by simp) fun g1 z1 s1=>?_);replace z1:IsZip g1 z TI TO .ellipsis:=z1;refine wpAny_bind ?_
  simp only [List.zipIdx_cons,List.zipIdx_nil,List.forIn_cons,List.forIn_nil];refine wpAny_bind (wpAny_bind (wpAny_onRaise ?_))
  show wpAny _ _ (Builtin.SmallTypes.nextOf (.ref i1) >>= _) _ _ _;refine wpAny_bind (next_g (h1.at_ fun o e=>s1.extBut _ _ D.i1z e) (hl1.keeps fun l o hl e=>s1.extBut _ _ (D.r1 l hl).1 e) hx fun u g2 tk2 ru t2 s2=>wpAny_pure ?_)
  have o2:IsPair g2 TO a b:=s2.extBut _ _ D.TOi1 (s1.extBut _ _ D.TOz hTO)
  refine wpAny_bind (wpAny_seqItems o2 rfl ?_);refine wpAny_bind (wpAny_updateSeq_pair o2 fun g3 o3 s3=>?_);replace o3:IsPair g3 TO u b:=o3
  refine wpAny_bind (wpAny_letGo (wpAny_pure ?_));refine wpAny_bind (wpAny_bind (wpAny_onRaise ?_));show wpAny _ _ (Builtin.SmallTypes.nextOf (.ref i2) >>= _) _ _ _
  refine wpAny_bind (next_g (r:=r2) (h2.at_ fun o e=>s3.extBut _ _ D.TOi2.symm (s2.extBut _ _ D.i12.symm (s1.extBut _ _ D.i2z e))) (hl2.keeps fun l o hl e=>s3.extBut _ _ (D.r2 l hl).2.1 (s2.extBut _ _ (D.r2 l hl).2.2.1 (s1.extBut _ _ (D.r2 l hl).1 e))) hy fun v g4 tk4 rv t4 s4=>wpAny_pure ?_)
  have o4:IsPair g4 TO u b:=s4.extBut _ _ D.TOi2 o3
  refine wpAny_bind (wpAny_seqItems o4 rfl ?_);refine wpAny_bind (wpAny_updateSeq_pair o4 fun g5 o5 s5=>?_);replace o5:IsPair g5 TO u v:=o5
  refine wpAny_bind (wpAny_letGo (wpAny_pure (wpAny_pure ?_)));refine wpAny_bind (wpAny_seqItems o5 rfl ?_);refine wpAny_bind (wpAny_newTuple ?_)
  have sz:g5.objs.size=s.heap.objs.size:=by rw [s5.1,s4.1,s3.1,s2.1,s1.1]
  have z5:IsZip g5 z TI TO .ellipsis:=s5.extBut _ _ D.TOz.symm (s4.extBut _ _ D.i2z.symm (s3.extBut _ _ D.TOz.symm (s2.extBut _ _ D.i1z.symm z1)))
  have k5:∀ c o,c ≠ z->c ≠ TO->c ≠ i1->c ≠ i2->s.heap.get? c=some o->g5.get? c=some o:=fun c o c1 c2 c3 c4 e=>s5.extBut _ _ c2 (s4.extBut _ _ c4 (s3.extBut _ _ c2 (s2.extBut _ _ c3 (s1.extBut _ _ c1 e))))
  have t15:Iter g5 i1 r1 (k1+1):=t2.at_ fun o e=>s5.extBut _ _ D.TOi1.symm (s4.extBut _ _ D.i12 (s3.extBut _ _ D.TOi1.symm e))
  have t25:Iter g5 i2 r2 (k2+1):=t4.at_ fun o e=>s5.extBut _ _ D.TOi2.symm e
  have zl:z < g5.objs.size:=Heap.lt_size z5
  show wpAny _ _ (Builtin.SmallTypes.ownedTupleHandOut (.ref z) (.ref g5.objs.size) >>= _) _ _ _;refine wpAny_bind ?_;unfold Builtin.SmallTypes.ownedTupleHandOut
  have z6:IsZip (g5.push { cls:=.type "tuple",data:=.seq #[u,v] }) z TI TO .ellipsis:=Heap.get?_push_of_some _ z5
  refine wpAny_bind (wpAny_setField_rec z6 (by simp) fun g7 z7 s7=>?_);replace z7:IsZip g7 z TI TO (rawInt g5.objs.size):=z7
  refine wpAny_setField_rec z7 (by simp) fun g8 z8 s8=>?_;replace z8:IsZip g8 z TI TO (rawInt g5.objs.size):=z8
  have up:∀ c o,c ≠ z->g5.get? c=some o->g8.get? c=some o:=fun c o c1 e=>s8.extBut _ _ c1 (s7.extBut _ _ c1 (Heap.get?_push_of_some _ e))
  have T8:IsPair g8 g5.objs.size u v:=s8.extBut _ _ (Nat.ne_of_gt zl) (s7.extBut _ _ (Nat.ne_of_gt zl) (Heap.get?_push_size _ rfl))
  have n8:g8.objs.size=g5.objs.size+1:=by rw [s8.1,s7.1,Heap.size_push]
  rw [sz] at z8 T8 n8
  refine wpAny_pure ⟨_,rfl,?_⟩;show Q (.ref g5.objs.size) _;rw [sz]
  exact hQ u v g8 _ ru rv z8 (up _ _ D.TOz o5) (t15.at_ fun o e=>up _ o D.i1z e) (t25.at_ fun o e=>up _ o D.i2z e) T8 n8 fun c o c1 c2 c3 c4 e=>up c o c1 (k5 c o c1 c2 c3 c4 e)
theorem zip_end {z TI TO i1 i2:Addr} {r1 r2:Src} {k1:Nat} {xs:List L2.V} {a b:Value} {Q:Fin->Shared->Prop} (hh:A.handled=none) (D:Apart z TI TO i1 i2 r1 r2)
    (hz:IsZip s.heap z TI TO .none) (hTI:IsPair s.heap TI (.ref i1) (.ref i2)) (hTO:IsPair s.heap TO a b) (h1:Iter s.heap i1 r1 k1) (hl1:At s.heap r1 xs) (hx:xs[k1]?=none)
    (hE:∀ h' e,(∀ c o,c ≠ z->c ≠ TO->c ≠ i1->c ≠ i2->s.heap.get? c=some o->h'.get? c=some o)->(∃ o,h'.get? e=some o/\o.cls=.type "StopIteration")->E (.ref e) { s with heap:=h' }):
    wpAny (model prog w) A (Builtin.«zip.__next__» ⟨[.ref z],[]⟩) Q E s:=by
  show wpAny _ _ (field (.ref z) 2 >>= _) _ _ _;refine wpAny_bind (wpAny_field hz rfl (x:=.bool false) rfl ?_)
  show wpAny _ _ (field (.ref z) 3 >>= _) _ _ _;refine wpAny_bind (wpAny_field hz rfl (x:=.ref TI) rfl ?_);refine wpAny_bind (wpAny_seqItems hTI rfl ?_)
  show wpAny _ _ (Builtin.SmallTypes.ownedTupleIsFree (.ref z) >>= _) _ _ _;refine wpAny_bind ?_;unfold Builtin.SmallTypes.ownedTupleIsFree
  refine wpAny_bind (wpAny_field hz rfl (x:=.none) rfl (wpAny_pure ?_));simp only [if_true];refine wpAny_bind (wpAny_rule ?_);refine wpAny_bind (wpAny_field hz rfl (x:=.ref TO) rfl ?_)
  refine wpAny_bind (wpAny_setField_rec hz (by simp) fun g1 z1 s1=>?_);replace z1:IsZip g1 z TI TO .ellipsis:=z1;refine wpAny_bind ?_
  simp only [List.zipIdx_cons,List.zipIdx_nil,List.forIn_cons,List.forIn_nil];refine wpAny_bind (wpAny_bind (wpAny_onRaise ?_))
  show wpAny _ _ (Builtin.SmallTypes.nextOf (.ref i1) >>= _) _ _ _;refine wpAny_bind (next_g_end hh (h1.at_ fun o e=>s1.extBut _ _ D.i1z e) (hl1.keeps fun l o hl e=>s1.extBut _ _ (D.r1 l hl).1 e) hx fun g2 e s2 he=>?_)
  obtain ⟨oe,p1,p2⟩:=he
  have z2:IsZip g2 z TI TO .ellipsis:=s2 _ _ D.i1z.symm z1
  have ez:e ≠ z:=fun q=>by subst q;rw [z2] at p1;cases p1;simp at p2
  exact wpAny_setField_rec z2 (by simp) fun g3 _ s3=>hE g3 e (fun c o c1 _ c3 _ q=>s3.extBut _ _ c1 (s2 _ _ c3 (s1.extBut _ _ c1 q))) ⟨oe,s3.extBut _ _ ez p1,p2⟩
theorem py_item {z TI TO i1 i2:Addr} {r1 r2:Src} {k1 k2:Nat} {xs ys:List L2.V} {x y:L2.V} {a b:Value} {Q:Option Value->Shared->Prop} (D:Apart z TI TO i1 i2 r1 r2)
    (hz:IsZip s.heap z TI TO .none) (hTI:IsPair s.heap TI (.ref i1) (.ref i2)) (hTO:IsPair s.heap TO a b) (h1:Iter s.heap i1 r1 k1) (h2:Iter s.heap i2 r2 k2) (hl1:At s.heap r1 xs) (hl2:At s.heap r2 ys) (hx:xs[k1]?=some x) (hy:ys[k2]?=some y)
    (hQ:∀ u v h' tk,L2.RelV x u->L2.RelV y v->IsZip h' z TI TO (rawInt s.heap.objs.size)->IsPair h' TO u v->Iter h' i1 r1 (k1+1)->Iter h' i2 r2 (k2+1)->IsPair h' s.heap.objs.size u v->h'.objs.size=s.heap.objs.size+1->(∀ c o,c ≠ z->c ≠ TO->c ≠ i1->c ≠ i2->s.heap.get? c=some o->h'.get? c=some o)->Q (some (.ref s.heap.objs.size)) { s with heap:=h',toks:=tk }):
    wpAny (model prog w) A (pyNext (.ref z)) Q E s:=by
  have hT:s.TypeIs (.ref z) "zip":=⟨_,hz,rfl⟩
  unfold pyNext
  exact wpAny_bind (wpAny_attempt (wpAny_callSpecial?_slot (name:=Str.ofString "__next__") hT F.slot_zip_next (wpAny_call_entry F.slot_zip_next hT F.entry_zip_next (zip_item D hz hTI hTO h1 h2 hl1 hl2 hx hy fun u v h' tk b1 b2 a1 a2 a3 a4 a5 a6 a7=>wpAny_pure (hQ u v h' tk b1 b2 a1 a2 a3 a4 a5 a6 a7)) (F.args_zip_next_1 _))))
theorem py_end {z TI TO i1 i2:Addr} {r1 r2:Src} {k1:Nat} {xs:List L2.V} {a b:Value} {Q:Option Value->Shared->Prop} (hh:A.handled=none) (D:Apart z TI TO i1 i2 r1 r2)
    (hz:IsZip s.heap z TI TO .none) (hTI:IsPair s.heap TI (.ref i1) (.ref i2)) (hTO:IsPair s.heap TO a b) (h1:Iter s.heap i1 r1 k1) (hl1:At s.heap r1 xs) (hx:xs[k1]?=none)
    (hQ:∀ h',(∀ c o,c ≠ z->c ≠ TO->c ≠ i1->c ≠ i2->s.heap.get? c=some o->h'.get? c=some o)->Q none { s with heap:=h' }):wpAny (model prog w) A (pyNext (.ref z)) Q E s:=by
  have hT:s.TypeIs (.ref z) "zip":=⟨_,hz,rfl⟩
  unfold pyNext
  refine wpAny_bind (wpAny_attempt (wpAny_callSpecial?_slot (name:=Str.ofString "__next__") hT F.slot_zip_next (wpAny_call_entry F.slot_zip_next hT F.entry_zip_next (zip_end hh D hz hTI hTO h1 hl1 hx fun h' e hk he=>?_) (F.args_zip_next_1 _))))
  obtain ⟨o,ho,hc⟩:=he
  exact wpAny_bind (wpAny_isInstance (T:="StopIteration") (b:=true) ⟨o,ho,hc⟩ isSubtype_stop (wpAny_pure (hQ _ hk)))
end
abbrev g1 (h:Heap) (a:Src):Heap:=h.push a.obj
abbrev g2 (h:Heap) (a b:Src):Heap:=(g1 h a).push b.obj
abbrev g3 (h:Heap) (a b:Src):Heap:=(g2 h a b).push { cls:=.type "tuple",data:=.seq #[.ref h.objs.size,.ref (g1 h a).objs.size] }
abbrev g4 (h:Heap) (a b:Src):Heap:=(g3 h a b).push { cls:=.type "tuple",data:=.seq #[.none,.none] }
abbrev g5 (h:Heap) (a b:Src):Heap:=(g4 h a b).push { cls:=.type "zip",data:=.fields #[.none,.bool false,.bool false,.ref (g2 h a b).objs.size,.ref (g3 h a b).objs.size] }
theorem meets_new (a b:Src) (xs ys:List L2.V):Meets (Builtin.«zip.__new__» ⟨[.type "zip",a.val,b.val],[]⟩) (fun _ R s=>At s.heap a xs/\At s.heap b ys/\R (.ok (.ret (.ref (g4 s.heap a b).objs.size))) { s with heap:=g5 s.heap a b }):=
  .of_wp fun prog w A R s h=>by
    obtain ⟨hp,g,d,tk,os⟩:=s
    obtain ⟨k1,k2,h⟩:=h
    have hsub:=sub_zip
    have L1:At (Shared.heap ⟨hp,g,d,tk,os⟩) a xs:=k1
    have L2:At (Shared.heap ⟨hp.push a.obj,g,d,tk,os⟩) b ys:=k2.keeps fun l o _ e=>Heap.get?_push_of_some _ e
    wp_walk using iter_g L1,iter_g L2
    exact ⟨_,rfl,h⟩
section
variable {prog:Program} {w:World} {A:Around} {E:Value->Shared->Prop} {s:Shared}
theorem call_zip {a b:Src} {xs ys:List L2.V} {Q:Value->Shared->Prop} (k1:At s.heap a xs) (k2:At s.heap b ys)
    (h:∀ h',IsZip h' (s.heap.objs.size+4) (s.heap.objs.size+2) (s.heap.objs.size+3) .none->IsPair h' (s.heap.objs.size+2) (.ref s.heap.objs.size) (.ref (s.heap.objs.size+1))->IsPair h' (s.heap.objs.size+3) .none .none->Iter h' s.heap.objs.size a 0->Iter h' (s.heap.objs.size+1) b 0->h'.objs.size=s.heap.objs.size+5->(∀ c o,s.heap.get? c=some o->h'.get? c=some o)->Q (.ref (s.heap.objs.size+4)) { s with heap:=h' }):
    wpAny (model prog w) A (call (.type "zip") [a.val,b.val]) Q E s:=by
  refine callType_new F.called_zip (by decide) (F.typeCall_zip_2 _ _) (F.newCall_zip_2 _ _) (fun obj=>F.args_object_init_3 obj _ _) F.entry_zip_new (meets_new a b xs ys) ⟨k1,k2,?_⟩
  have z1:(g1 s.heap a).objs.size=s.heap.objs.size+1:=Heap.size_push ..
  have z2:(g2 s.heap a b).objs.size=s.heap.objs.size+2:=by rw [Heap.size_push,z1]
  have z3:(g3 s.heap a b).objs.size=s.heap.objs.size+3:=by rw [Heap.size_push,z2]
  have z4:(g4 s.heap a b).objs.size=s.heap.objs.size+4:=by rw [Heap.size_push,z3]
  have z5:(g5 s.heap a b).objs.size=s.heap.objs.size+5:=by rw [Heap.size_push,z4]
  have e5:(g5 s.heap a b).get? (g4 s.heap a b).objs.size=some _:=Heap.get?_push_size _ rfl
  have e4:(g5 s.heap a b).get? (g3 s.heap a b).objs.size=some _:=Heap.get?_push_of_some _ (Heap.get?_push_size _ rfl)
  have e3:(g5 s.heap a b).get? (g2 s.heap a b).objs.size=some _:=Heap.get?_push_of_some _ (Heap.get?_push_of_some _ (Heap.get?_push_size _ rfl))
  have e2:(g5 s.heap a b).get? (g1 s.heap a).objs.size=some b.obj:=Heap.get?_push_of_some _ (Heap.get?_push_of_some _ (Heap.get?_push_of_some _ (Heap.get?_push_size _ rfl)))
  have e1:(g5 s.heap a b).get? s.heap.objs.size=some a.obj:=Heap.get?_push_of_some _ (Heap.get?_push_of_some _ (Heap.get?_push_of_some _ (Heap.get?_push_of_some _ (Heap.get?_push_size _ rfl))))
  show _/\_
  rw [z2,z3,z4] at e5;rw [z1,z2] at e3;rw [z3] at e4;rw [z1] at e2;rw [z4]
  exact ⟨⟨_,e5,rfl⟩,h _ e5 e3 e4 (.zero e1) (.zero e2) z5 fun c o q=>Heap.get?_push_of_some _ (Heap.get?_push_of_some _ (Heap.get?_push_of_some _ (Heap.get?_push_of_some _ (Heap.get?_push_of_some _ q))))⟩
end
end LZ
namespace L2
open PySem PySem.Spec PyProof.Rows
open LZ (Src)
def SrcV (K:PySem.W.Frag) (H:Hp):Src->List V->Prop
  | .lst a,xs=>SqL K H a xs
  | .tup a,xs=>SqT K H a xs
  | .txt x _,xs=>x.cps.all (· < 128)=true/\xs=x.cps.toList.map fun c=>V.str ⟨#[c]⟩
theorem Inv.src {X:Cx} {pins:List (Addr × Obj)} {σ:St} {H:Hp} {s:Shared} {r:Src} {xs:List V} (I:Inv X pins σ H s) (h:SrcV X.K H r xs):LZ.At s.heap r xs:=by
  cases r with
  | lst a=>obtain ⟨its,rv,p,_⟩:=I.list h;exact ⟨its,rv,p.isList⟩
  | tup a=>obtain ⟨its,rv,p,_⟩:=I.tuple h;exact ⟨its,rv,p⟩
  | txt x t=>exact h
theorem Inv.src_inj {X:Cx} {pins:List (Addr × Obj)} {σ:St} {H:Hp} {s:Shared} {r:Src} {xs ys:List V} (I:Inv X pins σ H s) (h:SrcV X.K H r xs) (h':SrcV X.K H r ys):xs=ys:=by
  cases r with
  | lst a=>exact I.list_inj h h'
  | tup a=>exact I.tuple_inj h h'
  | txt x t=>exact h.2.trans h'.2.symm
def ItzG (K:PySem.W.Frag) (a b:Src):It:=
  ⟨fun i H=>∃ (xs ys:List V) (x y:V),SrcV K H a xs/\SrcV K H b ys/\xs[i]?=some x/\ys[i]?=some y,
    fun i H v H'=>∃ T x y,v=.ref T/\H T=none/\H'=upd H T (.tup [x,y])/\(∀ xs,SrcV K H a xs->xs[i]?=some x)/\∀ ys,SrcV K H b ys->ys[i]?=some y,
    fun i H=>∃ xs ys:List V,SrcV K H a xs/\SrcV K H b ys/\xs.length<=i⟩
theorem turn_zipG {P:Program} {w:World} {K:PySem.W.Frag} {elts:List Expr} {kk:Nat} {tpos:Pos} {a b:Src} {z TI TO i1 i2:Addr} (D:LZ.Apart z TI TO i1 i2 a b):
    Turn P w K (.Tuple elts kk tpos) (ItzG K a b) [z,TI,TO,i1,i2] z (fun i h=>IsZip h z TI TO .none/\IsPair h TI (.ref i1) (.ref i2)/\(∃ x y,IsPair h TO x y)/\LZ.Iter h i1 a i/\LZ.Iter h i2 b i) where
  mem:=by simp
  obj:=fun i h st c hc=>by
    obtain ⟨hz,hTI,⟨x,y,hTO⟩,h1,h2⟩:=st
    have e':c=z\/c=TI\/c=TO\/c=i1\/c=i2:=by simpa using hc
    rcases e' with q | q | q | q | q
    · rw [q];exact ⟨_,hz,fun v q=>nomatch q⟩
    · rw [q];exact ⟨_,hTI,fun v q=>nomatch q⟩
    · rw [q];exact ⟨_,hTO,fun v q=>nomatch q⟩
    · rw [q];exact h1.some_
    · rw [q];exact h2.some_
  keep:=fun i h h' st k=>by
    obtain ⟨hz,hTI,⟨x,y,hTO⟩,h1,h2⟩:=st
    exact ⟨k z (by simp) _ hz,k TI (by simp) _ hTI,⟨x,y,k TO (by simp) _ hTO⟩,h1.at_ fun o q=>k i1 (by simp) o q,h2.at_ fun o q=>k i2 (by simp) o q⟩
  item:=by
    intro X hP hw hK hc i pins s σ H E I hf st hg
    subst hP hw hK
    obtain ⟨hz,hTI,⟨x0,y0,hTO⟩,h1,h2⟩:=st
    obtain ⟨xs,ys,x,y,hqx,hqy,hx,hy⟩:=hg
    have hzl:z < s.heap.objs.size:=Heap.lt_size hz
    refine LZ.py_item D hz hTI hTO h1 h2 (I.src hqx) (I.src hqy) hx hy fun u u2 h' tk ru ru2 z' TO' h1' h2' hT hsz hk=>?_
    refine ⟨_,rfl,wpAny_letOwnedTupleGo_zip (s:={ s with heap:=h',toks:=tk }) z' fun h'' z'' sb=>?_⟩
    have hT2:h''.get? s.heap.objs.size=some { cls:=.type "tuple",data:=.seq #[u,u2] }:=(sb.2 _ (Nat.ne_of_gt hzl)).trans hT
    have new:ObjOk X.prog X.w (upd H s.heap.objs.size (.tup [x,y])) h'' s.heap.objs.size (.tup [x,y]):=
      ⟨by show 2<=sizeLine;decide,[u,u2],.cons ru (.cons ru2 .nil),⟨_,hT2,rfl,_,rfl⟩⟩
    have I1:Inv X pins σ (upd H s.heap.objs.size (.tup [x,y])) { s with heap:=h'',toks:=tk }:=
      I.turnedNew (t':=tk) (ch:=[z,TI,TO,i1,i2]) (fun c o hb q=>(sb.2 c (fun q'=>hb (by simp [q']))).trans (hk c o (fun q'=>hb (by simp [q'])) (fun q'=>hb (by simp [q'])) (fun q'=>hb (by simp [q'])) (fun q'=>hb (by simp [q'])) q)) hf (Nat.le_refl _) new
    refine ⟨.ref s.heap.objs.size,_,I1,rfl,⟨_,x,y,rfl,I.hok.fresh (Nat.le_refl _),rfl,fun l hl=>by rw [I.src_inj hl hqx];exact hx,fun l hl=>by rw [I.src_inj hl hqy];exact hy⟩,⟨z'',?_,⟨u,u2,?_⟩,?_,?_⟩,fun c hcm=>?_⟩
    · exact (sb.2 _ D.TIz).trans (hk _ _ D.TIz D.TITO D.TIi1 D.TIi2 hTI)
    · exact (sb.2 _ D.TOz).trans TO'
    · exact h1'.at_ fun o q=>(sb.2 _ D.i1z).trans q
    · exact h2'.at_ fun o q=>(sb.2 _ D.i2z).trans q
    · have hlt:c < s.heap.objs.size:=by
        have e':c=z\/c=TI\/c=TO\/c=i1\/c=i2:=by simpa using hcm
        rcases e' with q | q | q | q | q
        · rw [q];exact hzl
        · rw [q];exact Heap.lt_size hTI
        · rw [q];exact Heap.lt_size hTO
        · rw [q];obtain ⟨_,e1,_⟩:=h1.some_;exact Heap.lt_size e1
        · rw [q];obtain ⟨_,e2,_⟩:=h2.some_;exact Heap.lt_size e2
      rw [upd_ne (Nat.ne_of_lt hlt)]
      exact (hf c hcm).1
  done:=by
    intro X hP hw hK hc i pins s σ H E I hf st hg
    subst hP hw hK
    obtain ⟨hz,hTI,⟨x0,y0,hTO⟩,h1,h2⟩:=st
    obtain ⟨xs,ys,hqx,hqy,hend⟩:=hg
    exact LZ.py_end (I.ok.hd hc) D hz hTI hTO h1 (I.src hqx) (List.getElem?_eq_none hend) fun h' hk=>⟨rfl,I.turnedL (t':=s.toks) (ch:=[z,TI,TO,i1,i2]) (fun c o hb q=>
      hk c o (fun q'=>hb (by simp [q'])) (fun q'=>hb (by simp [q'])) (fun q'=>hb (by simp [q'])) (fun q'=>hb (by simp [q'])) q) hf⟩
  self:=fun A i s Q E st h=>wpAny_pyIter_zip st.1 h
def iZipC (cond:List V->Hp->(It->Hp->Prop)->Prop) (ta:TA):TI:=fun σ H R=>ta σ H fun vs H1=>cond vs H1 R
theorem pi_zipC {X:Cx} {cond:List V->Hp->(It->Hp->Prop)->Prop} {e e2:Expr} {ta:TA} {p pos tpos:Pos} {elts:List Expr} {kk:Nat} (hc:∀ vs H1 R,cond vs H1 R->∃ v1 v2,vs=[v1,v2]/\∀ u1 u2,RelV v1 u1->RelV v2 u2->∃ a b xs ys,Src.val a=u1/\Src.val b=u2/\SrcV X.K H1 a xs/\SrcV X.K H1 b ys/\R (ItzG X.K a b) H1) (hg:Gl X "zip") (hm:X.mg "zip"=none) (ha:PA X [e,e2] ta)
    (hs:starEach [e,e2] X.env=(false,eval e X.env)::starEach [e2] X.env:=by rfl) (hpl:(backTo pos (starEach [e2] X.env)).any (·.1)=false:=by rfl):
    PI X (.Tuple elts kk tpos) (.Call (.Name "zip" p) [e,e2] [] pos) (iZipC cond ta):=by
  intro pins s σ H R I h
  refine Call_ (ld_blt I hg hm boot_zip5 (PyProof.Rows.callWith_type1 (thn (ha pos pins s σ H _ I h) fun us s1 ⟨vs,H1,I1,r1,q1⟩=>?_) hs hpl))
  obtain ⟨v1,v2,ex,q2⟩:=hc _ _ _ q1
  clear q1
  subst ex
  cases r1 with
  | cons r rr=>
    cases rr with
    | cons r' rr=>
      cases rr
      obtain ⟨a,b,xs,ys,e1,e2,hqx,hqy,q⟩:=q2 _ _ r r'
      subst e1 e2
      have lt_of:∀ {c:Src} {zs:List V} {l:Addr},SrcV X.K H1 c zs->c.has l->l < s1.heap.objs.size:=fun {c zs l} hc hl=>by
        have at_:=I1.src hc
        cases c with
        | lst a=>cases hl;obtain ⟨_,_,o,ho,_⟩:=at_;exact Heap.lt_size ho
        | tup a=>cases hl;obtain ⟨_,_,o,ho,_⟩:=at_;exact Heap.lt_size ho
        | txt x t=>exact hl.elim
      refine LZ.call_zip (I1.src hqx) (I1.src hqy) fun h' hz hTI hTO h1 h2 hsz hk=>wpAny_pyIter_zip hz ?_
      have I2:Inv X pins σ H1 { s1 with heap:=h' }:=I1.kept (t':=s1.toks) hk
      have D:LZ.Apart (s1.heap.objs.size+4) (s1.heap.objs.size+2) (s1.heap.objs.size+3) s1.heap.objs.size (s1.heap.objs.size+1) a b:=by
        have ne:∀ {x y:Nat},x < y\/y < x->(x:Addr) ≠ y:=fun h q=>by
          have q:(_:Nat)=_:=q
          omega
        have n4:∀ l:Nat,l < s1.heap.objs.size->(l:Addr) ≠ s1.heap.objs.size+4/\(l:Addr) ≠ s1.heap.objs.size+3/\(l:Addr) ≠ s1.heap.objs.size/\(l:Addr) ≠ s1.heap.objs.size+1:=fun l h=>⟨ne (.inl (by omega)),ne (.inl (by omega)),ne (.inl h),ne (.inl (by omega))⟩
        exact ⟨ne (.inl (by omega)),ne (.inl (by omega)),ne (.inl (by omega)),ne (.inl (by omega)),ne (.inl (by omega)),ne (.inr (by omega)),ne (.inr (by omega)),ne (.inr (by omega)),ne (.inr (by omega)),ne (.inl (by omega)),fun l hl=>n4 l (lt_of hqx hl),fun l hl=>n4 l (lt_of hqy hl)⟩
      refine ⟨s1.heap.objs.size+4,[s1.heap.objs.size+4,s1.heap.objs.size+2,s1.heap.objs.size+3,s1.heap.objs.size,s1.heap.objs.size+1],_,_,H1,rfl,I2,turn_zipG D,⟨hz,hTI,⟨_,_,hTO⟩,h1,h2⟩,fun c hcm=>?_,q⟩
      have e':c=s1.heap.objs.size+4\/c=s1.heap.objs.size+2\/c=s1.heap.objs.size+3\/c=s1.heap.objs.size\/c=s1.heap.objs.size+1:=by simpa using hcm
      have hle:s1.heap.objs.size<=c:=by
        rcases e' with z | z | z | z | z
        · rw [z];exact Nat.le_add_right _ _
        · rw [z];exact Nat.le_add_right _ _
        · rw [z];exact Nat.le_add_right _ _
        · rw [z];exact Nat.le_refl _
        · rw [z];exact Nat.le_add_right _ _
      exact I1.fpOk hle (I1.hok.fresh hle)
abbrev ItzT (K:PySem.W.Frag) (a b:Addr):It:=ItzG K (.tup a) (.tup b)
def iZipT (K:PySem.W.Frag) (ta:TA):TI:=iZipC (fun vs H1 R=>∃ a b xs ys,vs=[.ref a,.ref b]/\SqT K H1 a xs/\SqT K H1 b ys/\R (ItzT K a b) H1) ta
theorem pi_zipT {X:Cx} {e e2:Expr} {ta:TA} {p pos tpos:Pos} {elts:List Expr} {kk:Nat} (hg:Gl X "zip") (hm:X.mg "zip"=none) (ha:PA X [e,e2] ta)
    (hs:starEach [e,e2] X.env=(false,eval e X.env)::starEach [e2] X.env:=by rfl) (hpl:(backTo pos (starEach [e2] X.env)).any (·.1)=false:=by rfl):
    PI X (.Tuple elts kk tpos) (.Call (.Name "zip" p) [e,e2] [] pos) (iZipT X.K ta):=
  pi_zipC (fun vs H1 R ⟨a,b,xs,ys,e,h1,h2,q⟩=>⟨_,_,e,fun u1 u2 r1 r2=>⟨.tup a,.tup b,xs,ys,r1.symm,r2.symm,h1,h2,q⟩⟩) hg hm ha hs hpl
end L2
namespace L2
open PySem PySem.Spec PyProof.Rows
theorem lc_map {K:PySem.W.Frag} {a:Addr} {xs ys:List V} {g:TG} {te:TE} {σ:List (Option V)} {vs:List Nat} {Qd:Hp->Prop} {H1:Hp} {D:Addr} (hS:SqL K H1 a xs) (hl:ys.length=xs.length) (hz:ys.length<=1000) (hD:H1 D=none)
    (step:∀ (i:Nat) (x y:V) (Hi:Hp),xs[i]?=some x->ys[i]?=some y->Same H1 Hi->∀ (R:VK) (Z:Hp->Prop),R y Hi->g x (wipe σ vs) Hi fun σ2 H2=>wipe σ2 vs=wipe σ vs/\tYes σ2 H2 fun b H3=>if b=true then te σ2 H3 R else Z H3)
    (hQ:∀ H',Same H1 H'->H' D=some (.lst ys)->Qd H'):
    ∃ W:Nat->Nat->Hp->Prop,(∃ m,W 0 m (upd H1 D (.lst [])))/\∀ i m H,W i m H->((Itl K a).stop i H/\Qd H)\/((Itl K a).go i H/\∃ Nx:Hp->Prop,(∀ H',Nx H'->∃ m',m' < m/\W (i+1) m' H') ∧
      ∀ x H',(Itl K a).yld i H x H'->g x (wipe σ vs) H' fun σ2 H2=>wipe σ2 vs=wipe σ vs/\tYes σ2 H2 fun b H3=>if b=true then te σ2 H3 fun y H4=>∃ acc,H4 D=some (.lst acc)/\acc.length < sizeLine/\Nx (upd H4 D (.lst (acc++[y]))) else Nx H3):=by
  refine ⟨fun i m H=>m=xs.length - i/\i<=xs.length/\Same H1 H/\H D=some (.lst (ys.take i)),⟨xs.length,by simp,Nat.zero_le _,fun b o h=>by rw [upd_ne (ne_of_none h hD)];exact h,upd_same⟩,?_⟩
  rintro i m H ⟨rfl,hi,sm,hd⟩
  by_cases hlt:i < xs.length
  · have hy:ys[i]?=some (ys[i]'(by omega)):=List.getElem?_eq_getElem _
    refine .inr ⟨⟨xs,xs[i],sm.seq hS,by simp [hlt]⟩,fun H'=>Same H1 H'/\H' D=some (.lst (ys.take (i+1))),fun H' ⟨h1,h2⟩=>⟨xs.length - (i+1),by omega,rfl,hlt,h1,h2⟩,fun x H' yl=>?_⟩
    obtain ⟨e,yl⟩:=yl
    subst e
    refine step i x _ _ (yl xs (sm.seq hS)) hy sm _ _ ⟨_,hd,?_,fun b o h=>?_,?_⟩
    · rw [List.length_take]
      exact Nat.lt_of_le_of_lt (Nat.min_le_right _ _) (small1000 hz)
    · rw [upd_ne (ne_of_none h hD)]
      exact sm _ _ h
    · rw [upd_same,List.take_add_one,hy]
      rfl
  · have e:i=xs.length:=by omega
    subst e
    refine .inl ⟨⟨xs,sm.seq hS,Nat.le_refl _⟩,hQ H sm ?_⟩
    rw [hd,<- hl,List.take_length]
end L2
namespace Lu
open PySem PySem.Spec PyProof.Rows L2 Lute LuR LuW
def ivV (x:Iv):List V:=[.int x.a,.int x.b,.int x.c,.int x.e,.int (x.d:Int)]
def dN (P:Pows):Nat->Nat
  | 0=>1
  | i+1=>Nat.lcm (dN P i) (P i).2
theorem PowAt.items {H:Hp} {l:Addr} {P:Pows} (h:PowAt H l P):∃ bs:List Addr,H l=some (.lst (bs.map V.ref))/\bs.length=4/\∀ i b,bs[i]?=some b->H b=some (.tup [.int (P i).1,.int ((P i).2:Int)]):=by
  obtain ⟨b0,b1,b2,b3,h0,h1,h2,h3,h4⟩:=h
  refine ⟨[b0,b1,b2,b3],h0,rfl,fun i b hb=>?_⟩
  match i,hb with
  | 0,hb=>cases hb;exact h1
  | 1,hb=>cases hb;exact h2
  | 2,hb=>cases hb;exact h3
  | 3,hb=>cases hb;exact h4
  | i+4,hb=>simp at hb
def spCommon (K:PySem.W.Frag):Sp:=fun vs H Q _=>∃ (l:Addr) (P:Pows),vs=[.ref l]/\PowAt H l P/\(∀ j,1<=(P j).2)/\Small P/\∀ (H':Hp) (b:Addr),Same H H'->H' b=some (.tup (ivV (com P)))->Q (.ref b) H'
section
variable {P:Program} {w:World} {K:PySem.W.Frag} {mg:Str->Option Value} {base:Heap} {B C:Addr}
theorem scWC:FnScope ["powers","d","power","numbers"] ["powers"] (defScope s_with_common_parts):=⟨rfl,rfl,rfl,by decide +kernel,rfl,by decide +kernel,by decide +kernel⟩
theorem ok_common {f:Addr} {fd:FuncData} (F:Fun K "with_common_parts" "with_common_parts" s_with_common_parts f fd) (T:Txt K mg B C) (DG:Dfn P w K mg base C 1 "common_factor" ["a","b"] spGcd):
    FnOk P w K mg base (CXF P w C) 2 f fd ["powers"] (spCommon K):=by
  refine F.okX scWC (fun vs H Q E h=>?_) (fun cdv A outer s H vs Q E hr h=>?_)
  · obtain ⟨l,PP,rfl,_⟩:=h
    rfl
  · obtain ⟨l,PP,rfl,hP,pos,sm,k⟩:=h
    refine ⟨_,pss_cons (ps_set (i:=1) scWC.nd rfl (Or.inr rfl) pe_int)
      (pss_cons (ps_for xown rfl (pi_list (pv 0)) (pg_name (i:=2) scWC.nd rfl (Or.inl rfl))
        (pss_one (ps_set (i:=1) scWC.nd rfl (Or.inr rfl) (pe_op op_fdiv (pe_op op_mul (pv 1) (pe_ix ix_tup (pv 2) pe_int (fun _ _=>rfl))) (pe_fn DG hr rfl (pa_cons (pv 1) (pa_cons (pe_ix ix_tup (pv 2) pe_int (fun _ _=>rfl)) pa_nil)))))))
      (pss_cons (ps_setLc (i:=3) (own:=[("power",2)]) (te:=tOp (rI CMul fun i j=>.int (i * j)) (tOp (rIxT K) (tVar 2) (tC (.int 0))) (tOp (rI CDiv fun i j=>.int (i / j)) (tVar 1) (tOp (rIxT K) (tVar 2) (tC (.int 1))))) rfl scWC.nd rfl rfl rfl (pi_list (pv 0)) (show BlkOk ["powers","d","power","numbers"] (defScope s_with_common_parts) _ [("power",2)] from ⟨rfl,by decide +kernel,by decide +kernel,by decide +kernel,by decide +kernel⟩)
        (fun _ _ _ _ _=>pg_name (i:=2) scWC.nd rfl (Or.inl rfl)) (fun _ _ _ _ _=>pts_nil)
        (fun _ _ _ _ _=>pe_op op_mul (pe_ix ix_tup (pv 2) pe_int (fun _ _=>rfl)) (pe_op op_fdiv (pv 1) (pe_ix ix_tup (pv 2) pe_int (fun _ _=>rfl)))))
      (pss_one (ps_ret (pe_tup (pa_cons (pe_ix ix_list (pv 3) pe_int (fun _ _=>rfl)) (pa_cons (pe_ix ix_list (pv 3) pe_int (fun _ _=>rfl)) (pa_cons (pe_ix ix_list (pv 3) pe_int (fun _ _=>rfl)) (pa_cons (pe_ix ix_list (pv 3) pe_int (fun _ _=>rfl)) (pa_cons (pv 1) pa_nil))))))))))
      ,?_⟩
    obtain ⟨bs,hl,hlen,hb⟩:=hP.items
    have item:∀ (i:Nat) (y:V),(bs.map V.ref)[i]?=some y->∃ b,y=.ref b/\i < 4/\H b=some (.tup [.int (PP i).1,.int ((PP i).2:Int)]):=fun i y hy=>by
      rw [List.getElem?_map] at hy
      cases hb':bs[i]? with
      | none=>rw [hb'] at hy;cases hy
      | some b=>
        rw [hb'] at hy
        exact ⟨b,(Option.some.inj hy).symm,by rw [<- hlen];exact (List.getElem?_eq_some_iff.mp hb').1,hb i b hb'⟩
    refine ⟨_,rfl,l,rfl,⟨_,SqL.of hl⟩,for_list (K:=K) (a:=l) (xs:=bs.map V.ref) (fun i σ H'=>∃ v2:Option V,σ=[some (.ref l),some (.int ((dN PP i:Nat):Int)),v2,none]/\H'=H) ⟨none,rfl,rfl⟩ (fun i σ H' _ ⟨_,_,e⟩=>by rw [e];exact SqL.of hl) ?_ ?_⟩
    · rintro i y σ H' hi ⟨v2,rfl,rfl⟩
      obtain ⟨b,rfl,hi4,hbi⟩:=item i y hi
      have p1:=pos i
      have s1:=sm i
      have hg:Int.gcd ((dN PP i:Nat):Int) ((PP i).2:Int)=Nat.gcd (dN PP i) (PP i).2:=rfl
      have g1:1<=Nat.gcd (dN PP i) (PP i).2:=Nat.gcd_pos_of_pos_right _ p1
      have g2:Nat.gcd (dN PP i) (PP i).2<=(PP i).2:=Nat.gcd_le_right _ p1
      refine ⟨_,rfl,_,rfl,b,_,_,_,rfl,rfl,SqT.of hbi,at_of (j:=1) rfl rfl,_,_,rfl,rfl,.inr ⟨by omega,by omega⟩,?_⟩
      refine ⟨_,rfl,_,rfl,b,_,_,_,rfl,rfl,SqT.of hbi,at_of (j:=1) rfl rfl,_,_,rfl,by omega,_,_,rfl,rfl,⟨by rw [hg];omega,by rw [hg];omega⟩,?_⟩
      refine ⟨some (.ref b),?_,rfl⟩
      have e:((dN PP i:Nat):Int) * ((PP i).2:Int) / ((Int.gcd ((dN PP i:Nat):Int) ((PP i).2:Int):Nat):Int)=((dN PP (i+1):Nat):Int):=by
        rw [hg]
        show _=((Nat.lcm (dN PP i) (PP i).2:Nat):Int)
        unfold Nat.lcm
        rw [Int.natCast_ediv,Int.natCast_mul]
      rw [<- e]
      rfl
    · rintro σ H1 ⟨v2,rfl,rfl⟩
      have e4:(bs.map V.ref).length=4:=by rw [List.length_map,hlen]
      rw [e4]
      have eD:dN PP 4=comD PP:=rfl
      rw [eD]
      have cp:=comD_pos pos
      refine ⟨_,rfl,l,rfl,⟨_,SqL.of hl⟩,fun D hD=>lc_map (K:=K) (xs:=bs.map V.ref) (ys:=[.int (com PP).a,.int (com PP).b,.int (com PP).c,.int (com PP).e]) (SqL.of hl) (by rw [e4];rfl) (by show 4<=1000;decide) hD ?_ ?_⟩
      · intro i x y Hi hx hy sm' R Z hR
        obtain ⟨b,rfl,hi4,hbi⟩:=item i x hx
        have p1:=pos i
        have s1:=sm i
        refine ⟨rfl,?_⟩
        have ey:y=.int ((PP i).1 * (((comD PP:Nat):Int) / ((PP i).2:Int))):=by
          match i,hi4,hy with
          | 0,_,hy=>cases hy;show V.int ((PP 0).1 * ((comD PP / (PP 0).2:Nat):Int))=_;rw [Int.natCast_ediv]
          | 1,_,hy=>cases hy;show V.int ((PP 1).1 * ((comD PP / (PP 1).2:Nat):Int))=_;rw [Int.natCast_ediv]
          | 2,_,hy=>cases hy;show V.int ((PP 2).1 * ((comD PP / (PP 2).2:Nat):Int))=_;rw [Int.natCast_ediv]
          | 3,_,hy=>cases hy;show V.int ((PP 3).1 * ((comD PP / (PP 3).2:Nat):Int))=_;rw [Int.natCast_ediv]
        rw [ey] at hR
        exact ⟨_,rfl,b,_,_,_,rfl,rfl,SqT.of (sm' _ _ hbi),at_of (j:=0) rfl rfl,_,rfl,_,rfl,b,_,_,_,rfl,rfl,SqT.of (sm' _ _ hbi),at_of (j:=1) rfl rfl,_,_,rfl,rfl,⟨by omega,by omega⟩,_,_,rfl,rfl,.inl ⟨by omega,by omega⟩,hR⟩
      · intro H' sm' hd
        refine ⟨_,rfl,D,_,_,_,rfl,rfl,SqL.of hd,at_of (j:=0) rfl rfl,_,rfl,D,_,_,_,rfl,rfl,SqL.of hd,at_of (j:=1) rfl rfl,_,rfl,D,_,_,_,rfl,rfl,SqL.of hd,at_of (j:=2) rfl rfl,_,rfl,D,_,_,_,rfl,rfl,SqL.of hd,at_of (j:=3) rfl rfl,_,rfl,(by show 5<=sizeLine;decide),fun b hb=>?_⟩
        exact k _ b (fun x o hx=>by rw [upd_ne (ne_of_none (sm' _ _ hx) hb)];exact sm' _ _ hx) upd_same
end
end Lu
namespace L2
open PySem PySem.Spec PyProof.Rows
theorem Same.tup {K:PySem.W.Frag} {H H':Hp} {a:Addr} {xs:List V} (e:Same H H') (h:SqT K H a xs):SqT K H' a xs:=by
  rcases h with (h | ⟨o,h⟩) | h
  · exact .inl (.inl (e _ _ h))
  · exact .inl (.inr ⟨o,e _ _ h⟩)
  · exact .inr h
theorem lc_zipT {K:PySem.W.Frag} {a b:Addr} {xs ys zs:List V} {g:TG} {te:TE} {σ:List (Option V)} {vs:List Nat} {Qd:Hp->Prop} {H1:Hp} {D:Addr} (hA:SqT K H1 a xs) (hB:SqT K H1 b ys) (h1:ys.length=xs.length) (hl:zs.length=xs.length) (hz:zs.length<=1000) (hD:H1 D=none)
    (step:∀ (i:Nat) (x y z:V) (Hi:Hp) (T:Addr),xs[i]?=some x->ys[i]?=some y->zs[i]?=some z->Hi T=some (.tup [x,y])->∀ (R:VK) (Z:Hp->Prop),R z Hi->g (.ref T) (wipe σ vs) Hi fun σ2 H2=>wipe σ2 vs=wipe σ vs/\tYes σ2 H2 fun b H3=>if b=true then te σ2 H3 R else Z H3)
    (hQ:∀ H',Same H1 H'->H' D=some (.lst zs)->Qd H'):
    ∃ W:Nat->Nat->Hp->Prop,(∃ m,W 0 m (upd H1 D (.lst [])))/\∀ i m H,W i m H->((ItzT K a b).stop i H/\Qd H)\/((ItzT K a b).go i H/\∃ Nx:Hp->Prop,(∀ H',Nx H'->∃ m',m' < m/\W (i+1) m' H') ∧
      ∀ x H',(ItzT K a b).yld i H x H'->g x (wipe σ vs) H' fun σ2 H2=>wipe σ2 vs=wipe σ vs/\tYes σ2 H2 fun b H3=>if b=true then te σ2 H3 fun y H4=>∃ acc,H4 D=some (.lst acc)/\acc.length < sizeLine/\Nx (upd H4 D (.lst (acc++[y]))) else Nx H3):=by
  refine ⟨fun i m H=>m=xs.length - i/\i<=xs.length/\Same H1 H/\H D=some (.lst (zs.take i)),⟨xs.length,by simp,Nat.zero_le _,fun b o h=>by rw [upd_ne (ne_of_none h hD)];exact h,upd_same⟩,?_⟩
  rintro i m H ⟨rfl,hi,sm,hd⟩
  by_cases hlt:i < xs.length
  · have hzi:zs[i]?=some (zs[i]'(by omega)):=List.getElem?_eq_getElem _
    refine .inr ⟨⟨xs,ys,xs[i],ys[i]'(by omega),sm.tup hA,sm.tup hB,by simp [hlt],List.getElem?_eq_getElem _⟩,fun H'=>Same H1 H'/\H' D=some (.lst (zs.take (i+1))),fun H' ⟨h1,h2⟩=>⟨xs.length - (i+1),by omega,rfl,hlt,h1,h2⟩,fun v H' yl=>?_⟩
    obtain ⟨T,x,y,rfl,hT,rfl,hx,hy⟩:=yl
    have nT:D ≠ T:=ne_of_none hd hT
    refine step i x y _ _ T (hx xs (sm.tup hA)) (hy ys (sm.tup hB)) hzi upd_same _ _ ⟨_,by rw [upd_ne nT];exact hd,?_,fun b o h=>?_,?_⟩
    · rw [List.length_take]
      exact Nat.lt_of_le_of_lt (Nat.min_le_right _ _) (small1000 hz)
    · rw [upd_ne (ne_of_none h hD),upd_ne (ne_of_none (sm _ _ h) hT)]
      exact sm _ _ h
    · rw [upd_same,List.take_add_one,hzi]
      rfl
  · have e:i=xs.length:=by omega
    subst e
    refine .inl ⟨⟨xs,ys,sm.tup hA,sm.tup hB,Nat.le_refl _⟩,hQ H sm ?_⟩
    rw [hd,<- hl,List.take_length]
end L2
namespace Lu
open PySem PySem.Spec PyProof.Rows L2 Lute LuR LuW
def okB (x:Iv):Bool:=decide (-99<=x.a/\x.a<=99) && (decide (-99<=x.b/\x.b<=99) && (decide (-99<=x.c/\x.c<=99) && (decide (-99<=x.e/\x.e<=99) && decide (x.d<=24))))
theorem okB_ok {x:Iv} (h1:x.common=1) (h2:1<=x.d):okB x=x.ok:=by
  have w:∀ z:Int,within z=decide (-99<=z/\z<=99):=fun z=>by
    unfold within MOST
    rw [Bool.eq_iff_iff]
    simp
  unfold okB Iv.ok
  rw [w,w,w,w,h1,decide_eq_true h2]
  simp only [Bool.true_and,beq_self_eq_true,Bool.and_true]
  rfl
def spBounds (K:PySem.W.Frag):Sp:=fun vs H Q _=>∃ (b:Addr) (x:Iv),vs=[.ref b]/\SqT K H b (ivV x)/\∀ H',Same H H'->Q (.bl (okB x)) H'
def spWidth (K:PySem.W.Frag):Sp:=fun vs H Q _=>∃ (b:Addr) (x:Iv),vs=[.ref b]/\SqT K H b (ivV x)/\x.ok=true/\∀ H',Same H H'->Q (.int (width x)) H'
theorem cut4 (x:Iv):cutV (ivV x) none (some 4)=[.int x.a,.int x.b,.int x.c,.int x.e]:=by
  unfold cutV ivV
  rw [show (some (4:Int))=some ((4:Nat):Int) from rfl,HT.sIx_none,HT.sIx_nat]
  rfl
theorem cut4_no (x:Iv):¬ (HT.sIx (ivV x).length 0 none=0/\HT.sIx (ivV x).length (ivV x).length (some 4)=(ivV x).length):=by
  rw [show (some (4:Int))=some ((4:Nat):Int) from rfl,HT.sIx_none,HT.sIx_nat]
  unfold ivV
  simp
section
variable {P:Program} {w:World} {K:PySem.W.Frag} {mg:Str->Option Value} {base:Heap} {B C:Addr}
theorem scIB:FnScope ["numbers","power"] ["numbers"] (defScope s_is_within_bounds):=⟨rfl,rfl,rfl,by decide +kernel,rfl,by decide +kernel,by decide +kernel⟩
theorem ok_bounds {f:Addr} {fd:FuncData} (F:Fun K "is_within_bounds" "is_within_bounds" s_is_within_bounds f fd) (T:Txt K mg B C):FnOk P w K mg base (CXF P w C) 1 f fd ["numbers"] (spBounds K):=by
  refine F.okX scIB (fun vs H Q E h=>?_) (fun cdv A outer s H vs Q E hr h=>?_)
  · obtain ⟨b,x,rfl,_⟩:=h
    rfl
  · obtain ⟨b,x,rfl,hb,k⟩:=h
    refine ⟨_,pss_cons (ps_for xown rfl (pi_tup (pe_slice sl_tup (pv 0) po_none (po_some pe_int))) (pg_name (i:=1) scIB.nd rfl (Or.inl rfl))
        (pss_one (ps_if (pt_cmpR op_gt (pe_callB call_abs (by rfl) T.abs boot_abs (pa_cons (pv 1) pa_nil)) (pe_cst T.cMP) (nomark _)) (pss_one (ps_ret pe_bl)) pss_nil)))
      (pss_one (ps_ret (pe_cmpR op_le (pe_ix ix_tup (pv 0) pe_int (fun _ _=>rfl)) (pe_cst T.cMA) (nomark _)))),?_⟩
    refine ⟨_,rfl,_,rfl,b,_,rfl,hb,cut4_no x,fun p hp=>?_⟩
    rw [cut4]
    have sm:Same H (upd H p (.tup [.int x.a,.int x.b,.int x.c,.int x.e])):=fun c o h=>by rw [upd_ne (ne_of_none h hp)];exact h
    have bad:∀ z:Int,99 < (if z < 0 then -z else z)->¬ (-99<=z/\z<=99):=fun z h q=>by split at h <;> omega
    have fine:∀ z:Int,¬ 99 < (if z < 0 then -z else z)->(-99<=z/\z<=99):=fun z h=>by split at h <;> omega
    refine ⟨p,rfl,⟨_,SqT.of upd_same⟩,for_tup (K:=K) (a:=p) (xs:=[.int x.a,.int x.b,.int x.c,.int x.e]) (fun i σ H'=>∃ v:Option V,σ=[some (.ref b),v]/\H'=upd H p (.tup [.int x.a,.int x.b,.int x.c,.int x.e])/\∀ j,j < i->∀ z,[x.a,x.b,x.c,x.e][j]?=some z->(-99<=z/\z<=99)) ⟨none,rfl,rfl,fun j hj=>by omega⟩ (fun i σ H' _ ⟨_,_,e,_⟩=>by rw [e];exact SqT.of upd_same) ?_ ?_⟩
    · rintro i y σ H' hi ⟨v,rfl,rfl,all⟩
      obtain ⟨z,hz,rfl⟩:∃ z,[x.a,x.b,x.c,x.e][i]?=some z/\y=.int z:=by
        match i,hi with
        | 0,hi=>cases hi;exact ⟨_,rfl,rfl⟩
        | 1,hi=>cases hi;exact ⟨_,rfl,rfl⟩
        | 2,hi=>cases hi;exact ⟨_,rfl,rfl⟩
        | 3,hi=>cases hi;exact ⟨_,rfl,rfl⟩
        | i+4,hi=>simp at hi
      refine ⟨_,rfl,_,rfl,_,_,rfl,rfl,_,rfl,?_⟩
      refine ite2 (fun h=>?_) fun h=>?_
      · have h':=bad z (of_decide_eq_true h)
        have e:okB x=false:=by
          unfold okB
          match i,hz with
          | 0,hz=>cases hz;rw [decide_eq_false h'];rfl
          | 1,hz=>cases hz;rw [decide_eq_false h'];simp
          | 2,hz=>cases hz;rw [decide_eq_false h'];simp
          | 3,hz=>cases hz;rw [decide_eq_false h'];simp
          | i+4,hz=>simp at hz
        have:=k _ sm
        rw [e] at this
        exact this
      · refine ⟨some (.int z),rfl,rfl,fun j hj z' hz'=>?_⟩
        by_cases q:j=i
        · subst q
          rw [hz] at hz'
          cases hz'
          exact fine z fun z=>h (decide_eq_true z)
        · exact all j (by omega) z' hz'
    · rintro σ H' ⟨v,rfl,rfl,all⟩
      refine ⟨_,rfl,b,_,_,_,rfl,rfl,sm.tup hb,at_of (j:=4) rfl rfl,_,_,rfl,rfl,?_⟩
      have e:okB x=decide ((x.d:Int)<=24):=by
        unfold okB
        rw [decide_eq_true (all 0 (by simp) _ rfl),decide_eq_true (all 1 (by simp) _ rfl),decide_eq_true (all 2 (by simp) _ rfl),decide_eq_true (all 3 (by simp) _ rfl)]
        simp only [Bool.true_and]
        rw [Bool.eq_iff_iff,decide_eq_true_eq,decide_eq_true_eq]
        omega
      have:=k _ sm
      rw [e] at this
      exact this
theorem scWI:FnScope ["interval","powers","total","power","logarithm"] ["interval"] (defScope s_width):=⟨rfl,rfl,rfl,by decide +kernel,rfl,by decide +kernel,by decide +kernel⟩
theorem boot_sum':bootBuiltins "sum"=some (.builtin "sum"):=by decide +kernel
theorem ok_width {f:Addr} {fd:FuncData} (F:Fun K "width" "width" s_width f fd) (T:Txt K mg B C):FnOk P w K mg base (CXF P w C) 1 f fd ["interval"] (spWidth K):=by
  refine F.okX scWI (fun vs H Q E h=>?_) (fun cdv A outer s H vs Q E hr h=>?_)
  · obtain ⟨b,x,rfl,_⟩:=h
    rfl
  · obtain ⟨b,x,rfl,hb,hok,k⟩:=h
    obtain ⟨al,hal,hL⟩:=T.log
    obtain ⟨ba,bb,bc,be,d1,d2,_⟩:=ok_parts hok
    refine ⟨_,pss_cons (ps_set (i:=1) scWI.nd rfl (Or.inl rfl) (pe_slice sl_tup (pv 0) po_none (po_some pe_int)))
      (pss_cons (ps_set (i:=2) scWI.nd rfl (Or.inl rfl) (pe_callB (cr_sum rfl) (by rfl) T.sum boot_sum' (pa_cons (pe_lc (own:=[("power",3),("logarithm",4)]) (g:=gTup K 2 (gCons (gName 3) (gCons (gName 4) gNil))) (te:=tOp (rI CMul fun i j=>.int (i * j)) (tVar 3) (tVar 4)) rfl scWI.nd (pi_zipT (by rfl) T.zip (pa_cons (pv 1) (pa_cons (pe_cst hal) pa_nil)))
          (show BlkOk ["interval","powers","total","power","logarithm"] (defScope s_width) _ [("power",3),("logarithm",4)] from ⟨rfl,by decide +kernel,by decide +kernel,by decide +kernel,by decide +kernel⟩)
          (fun _ _ _ _ _=>pg_tup rfl (pgs_cons (pg_name (i:=3) scWI.nd rfl (Or.inl rfl)) (pgs_cons (pg_name (i:=4) scWI.nd rfl (Or.inl rfl)) pgs_nil))) (fun _ _ _ _ _=>pts_nil)
          (fun _ _ _ _ _=>pe_op op_mul (pv 3) (pv 4))) pa_nil)))
      (pss_one (ps_ret (pe_op op_mul (pv 2) (pe_op op_fdiv (pe_cst T.cCP) (pe_ix ix_tup (pv 0) pe_int (fun _ _=>rfl))))))),?_⟩
    refine ⟨_,rfl,_,rfl,b,_,rfl,hb,cut4_no x,fun p hp=>?_⟩
    rw [cut4]
    have sm:Same H (upd H p (.tup [.int x.a,.int x.b,.int x.c,.int x.e])):=fun c o h=>by rw [upd_ne (ne_of_none h hp)];exact h
    generalize hl0:(6931471805599453094172321214581765680755:Int)=l0 at *
    generalize hl1:(10986122886681096913952452369225257046474:Int)=l1 at *
    generalize hl2:(16094379124341003746007593332261876395256:Int)=l2 at *
    generalize hl3:(19459101490553133051053527434431797296370:Int)=l3 at *
    refine ⟨_,rfl,p,al,_,_,rfl,SqT.of upd_same,hL _,fun D hD=>lc_zipT (K:=K) (a:=p) (b:=al) (xs:=[.int x.a,.int x.b,.int x.c,.int x.e]) (ys:=[.int l0,.int l1,.int l2,.int l3]) (zs:=[x.a * l0,x.b * l1,x.c * l2,x.e * l3].map V.int) (SqT.of upd_same) (hL _) rfl rfl (by show 4<=1000;decide) hD ?_ ?_⟩
    · intro i u v z Hi TT hu hv hz hT R Z hR
      obtain ⟨n,m,rfl,rfl,rfl,hn⟩:∃ n m:Int,u=.int n/\v=.int m/\z=.int (n * m)/\(-99<=n/\n<=99):=by
        match i,hu,hv,hz with
        | 0,hu,hv,hz=>cases hu;cases hv;cases hz;exact ⟨_,_,rfl,rfl,rfl,ba⟩
        | 1,hu,hv,hz=>cases hu;cases hv;cases hz;exact ⟨_,_,rfl,rfl,rfl,bb⟩
        | 2,hu,hv,hz=>cases hu;cases hv;cases hz;exact ⟨_,_,rfl,rfl,rfl,bc⟩
        | 3,hu,hv,hz=>cases hu;cases hv;cases hz;exact ⟨_,_,rfl,rfl,rfl,be⟩
        | i+4,hu,_,_=>simp at hu
      exact ⟨TT,_,rfl,SqT.of hT,rfl,_,_,rfl,_,_,rfl,rfl,rfl,_,rfl,_,rfl,_,_,rfl,rfl,.inl ⟨by omega,by omega⟩,hR⟩
    · intro H' sm' hd
      refine ⟨D,[x.a * l0,x.b * l1,x.c * l2,x.e * l3],rfl,SqL.of hd,?_⟩
      refine ⟨_,rfl,_,rfl,b,_,_,_,rfl,rfl,(sm.trans sm').tup hb,at_of (j:=4) rfl rfl,_,_,rfl,rfl,⟨by omega,by omega⟩,_,_,rfl,rfl,.inr ?_,?_⟩
      · have h0:(0:Int)<=5354228880 / (x.d:Int):=Int.ediv_nonneg (by decide) (by omega)
        have h1:(5354228880:Int) / (x.d:Int)<=5354228880:=Int.ediv_le_self _ (by decide)
        exact ⟨by omega,by omega⟩
      · have e:[x.a * l0,x.b * l1,x.c * l2,x.e * l3].sum * (5354228880 / (x.d:Int))=width x:=by
          unfold width dot
          rw [hl0,hl1,hl2,hl3]
          congr 1
          simp only [List.sum_cons,List.sum_nil]
          omega
        have q:=k _ (sm.trans sm')
        rw [<- e] at q
        exact q
end
end Lu
namespace Lu
open PySem PySem.Spec PyProof.Rows L2 Lute LuR LuW
theorem same_new {H:Hp} {b:Addr} {o:HO} (h:H b=none):Same H (upd H b o):=fun c u hc=>by rw [upd_ne (ne_of_none hc h)];exact hc
theorem headI_end {r:Bytes} (h:headI r=-1):r=[]:=by
  cases r with
  | nil=>rfl
  | cons c u=>
    have:(c.toNat:Int)=-1:=h
    omega
theorem headI_more {r:Bytes} (h:¬ headI r=-1):∃ c u,r=c::u:=by
  cases r with
  | nil=>exact absurd rfl h
  | cons c u=>exact ⟨c,u,rfl⟩
theorem fa_nil (p:Nat):fa 0 unison p []=.error p:=by rw [fa_fac];rfl
def spInterval (K:PySem.W.Frag) (C:Addr):Sp:=fun vs H Q E=>∃ (a:Addr) (t:Bytes) (s e:Nat),vs=[.ref a,.int (s:Int),.int (e:Int)]/\SqL K H a (tx t)/\s<=e/\e<=t.length ∧
  match readAt s (st t s e) with
  | .error x=>Err C E x
  | .ok x=>∀ (H':Hp) (b:Addr),Same H H'->H' b=some (.tup (ivV x))->x.ok=true->Q (.ref b) H'
section
variable {P:Program} {w:World} {K:PySem.W.Frag} {mg:Str->Option Value} {base:Heap} {B C:Addr}
theorem scRI:FnScope ["text","start","end","cursor","powers","interval"] ["text","start","end"] (defScope s_read_interval):=⟨rfl,rfl,rfl,by decide +kernel,rfl,by decide +kernel,by decide +kernel⟩
theorem ok_interval {f:Addr} {fd:FuncData} (F:Fun K "read_interval" "read_interval" s_read_interval f fd) (T:Txt K mg B C) (M:Crs P w K mg base B C) (DI:Mke P w K mg base C B 1 "Cursor" ["self","text","place","end"] (spInit B))
    (DF:Dfn P w K mg base C 6 "read_factors" ["cursor","powers"] (spFactors K B C)) (DC:Dfn P w K mg base C 2 "with_common_parts" ["powers"] (spCommon K)) (DB:Dfn P w K mg base C 1 "is_within_bounds" ["numbers"] (spBounds K)):
    FnOk P w K mg base (CXF P w C) 7 f fd ["text","start","end"] (spInterval K C):=by
  refine F.okX scRI (fun vs H Q E h=>?_) (fun cdv A outer s H vs Q E hr h=>?_)
  · obtain ⟨a,t,s,e,rfl,_⟩:=h
    rfl
  · obtain ⟨a,t,s0,e,rfl,hS,hse,hel,k⟩:=h
    have hr1:=hr.mono (show 1<=6 by decide)
    have hr2:=hr.mono (show 2<=6 by decide)
    have nz:∀ {i:Int} {j:Nat} {q:Pos} (v:Expr) (p:Pos),Expr.Constant (.int i) j q ≠ .Starred v p:=fun v p h=>by cases h
    have nt:∀ {l:List Expr} {j:Nat} {q:Pos} (v:Expr) (p:Pos),Expr.Tuple l j q ≠ .Starred v p:=fun v p h=>by cases h
    refine ⟨_,PSsx.h (PSsx.cons ⟨ps_set (i:=3) scRI.nd rfl (Or.inl rfl) (pe_mk DI hr2 rfl (pa_cons (pv 0) (pa_cons (pv 1) (pa_cons (pv 2) pa_nil))))⟩
      (PSsx.cons (PSx.set (i:=4) scRI.nd rfl (Or.inl rfl) (PEx.lst4 nt nt nt nt (PEx.tup2 nz nz PEx.int PEx.int) (PEx.tup2 nz nz PEx.int PEx.int) (PEx.tup2 nz nz PEx.int PEx.int) (PEx.tup2 nz nz PEx.int PEx.int)) sw_list (.inl rfl))
      (PSsx.cons ⟨ps_if (pt_cmpR op_eq (pe_mt0 M.byte hr1 (pv 3)) (pe_cst T.cONE) (nomark _)) (pss_one (ps_expr (pe_mt0 M.adv hr1 (pv 3)))) (pss_one (ps_expr (pe_fn DF hr rfl (pa_cons (pv 3) (pa_cons (pv 4) pa_nil)))))⟩
      (PSsx.cons ⟨ps_if (pt_cmpR op_ne (pe_mt0 M.byte hr1 (pv 3)) (pe_cst T.cEND) (nomark _)) (pss_one (ps_raise T.xt hr2 rfl T.mC (pe_fld (pv 3) rfl))) pss_nil⟩
      (PSsx.cons ⟨ps_set (i:=5) scRI.nd rfl (Or.inl rfl) (pe_fn DC hr2 rfl (pa_cons (pv 4) pa_nil))⟩
      (PSsx.cons ⟨ps_if (pt_not (pt_val (pe_fn DB hr1 rfl (pa_cons (pv 5) pa_nil)))) (pss_one (ps_raise T.xt hr2 rfl T.mC (pv 2))) pss_nil⟩
      (PSsx.one ⟨ps_ret (pv 5)⟩))))))),?_⟩
    refine ⟨_,rfl,_,rfl,_,rfl,fun c dx hc0 hdx hne=>?_⟩
    refine ⟨c,dx,a,s0,e,rfl,upd_same,fun H1 hc1 k1=>⟨rfl,?_⟩⟩
    have s1:Same H H1:=Same.made hc0 hdx k1
    refine ⟨(by show 2<=sizeLine;decide),fun b0 h0=>⟨(by show 2<=sizeLine;decide),fun b1 h1=>⟨(by show 2<=sizeLine;decide),fun b2 h2=>⟨(by show 2<=sizeLine;decide),fun b3 h3=>⟨(by show 4<=sizeLine;decide),fun l hl=>?_⟩⟩⟩⟩⟩
    generalize hA1:upd H1 b0 (.tup [.int 0,.int 1])=A1 at *
    generalize hA2:upd A1 b1 (.tup [.int 0,.int 1])=A2 at *
    generalize hA3:upd A2 b2 (.tup [.int 0,.int 1])=A3 at *
    generalize hA4:upd A3 b3 (.tup [.int 0,.int 1])=A4 at *
    have t1:Same H1 A1:=by rw [<- hA1];exact same_new h0
    have t2:Same A1 A2:=by rw [<- hA2];exact same_new h1
    have t3:Same A2 A3:=by rw [<- hA3];exact same_new h2
    have t4:Same A3 A4:=by rw [<- hA4];exact same_new h3
    have t5:Same A4 (upd A4 l (.lst [.ref b0,.ref b1,.ref b2,.ref b3])):=same_new hl
    have e0:A1 b0=some (.tup [.int 0,.int 1]):=by rw [<- hA1];exact upd_same
    have e1:A2 b1=some (.tup [.int 0,.int 1]):=by rw [<- hA2];exact upd_same
    have e2:A3 b2=some (.tup [.int 0,.int 1]):=by rw [<- hA3];exact upd_same
    have e3:A4 b3=some (.tup [.int 0,.int 1]):=by rw [<- hA4];exact upd_same
    have hP:PowAt (upd A4 l (.lst [.ref b0,.ref b1,.ref b2,.ref b3])) l noP:=⟨b0,b1,b2,b3,upd_same,t5 _ _ (t4 _ _ (t3 _ _ (t2 _ _ e0))),t5 _ _ (t4 _ _ (t3 _ _ e1)),t5 _ _ (t4 _ _ e2),t5 _ _ e3⟩
    have sA:Same H1 (upd A4 l (.lst [.ref b0,.ref b1,.ref b2,.ref b3])):=((((t1.trans t2).trans t3).trans t4).trans t5)
    have hlH:H l=Option.none:=(s1.trans (((t1.trans t2).trans t3).trans t4)).free hl
    generalize upd A4 l (.lst [.ref b0,.ref b1,.ref b2,.ref b3])=H5 at *
    have u5:Cur K B H5 c a t s0 e:=⟨⟨dx,sA _ _ hc1⟩,sA.seq (s1.seq hS),hse,hel⟩
    have s5:Same H H5:=s1.trans sA
    have hc5:H5 c=some (.ins B dx (cf a s0 e)):=sA _ _ hc1
    have rest:∀ (H':Hp) (PP:Pows) (kk q:Nat),Cur K B H' c a t q e->PowAt H' l PP->PowsOk PP kk->Small PP->readAt s0 (st t s0 e)=finA (com PP) q (st t q e)->Same H H'->
        tSeq (tIfS (tTest (tOp rNe (tMeth B "byte" (spByte K B) [] E (tVar 3) tNil) (tC (.int (-1))))) (tRaise C E (tFld K (tVar 3) "place")) tNext) (tSeq (tAsg (tCall (spCommon K) [] E (tCons (tVar 4) tNil)) (gName 5)) (tSeq (tIfS (tNot (tB (tCall (spBounds K) [] E (tCons (tVar 5) tNil)))) (tRaise C E (tVar 2)) tNext) (tRet (tVar 5))))
          { nx:=fun _ H'=>Q .non H',rt:=Q } [some (.ref a),some (.int (s0:Int)),some (.int (e:Int)),some (.ref c),some (.ref l),none] H':=by
      intro H' PP kk q u' hP' ok' sm' hR sH
      obtain ⟨dx',hc'⟩:=u'.at_
      refine ⟨_,rfl,c,dx',_,rfl,hc',cf_no _ _ _ (by decide) (by decide) (by decide),c,a,t,q,e,rfl,u',rfl,_,rfl,?_⟩
      rw [dint]
      refine ite2 (fun h=>?_) fun h=>?_
      · obtain ⟨z,r,hz⟩:=headI_more (is_dec h)
        rw [hR,hz] at k
        exact ⟨_,rfl,c,B,dx',_,_,rfl,hc',T.cl,T.nP,cf_place _ _ _,_,rfl,fun d hd=>k _ d upd_same⟩
      · have hz:=headI_end (not_dec h)
        have hq:q=e:=(st_nil u'.len u'.le).mp hz
        rw [hR,hz] at k
        refine ⟨_,rfl,l,PP,rfl,hP',ok'.pos,sm',fun H2 b s2 hb=>?_⟩
        have eok:okB (com PP)=(com PP).ok:=okB_ok ok'.low (comD_pos ok'.pos)
        refine ⟨_,rfl,b,com PP,rfl,SqT.of hb,fun H3 s3=>⟨_,rfl,?_⟩⟩
        rw [eok]
        cases hok:(com PP).ok with
        | false=>
          unfold finA at k
          rw [hok] at k
          refine ⟨_,rfl,_,rfl,fun d hd=>?_⟩
          rw [<- hq]
          exact k _ d upd_same
        | true=>
          unfold finA at k
          rw [hok] at k
          exact ⟨_,rfl,k H3 b ((sH.trans s2).trans s3) (s3 _ _ hb) hok⟩
    refine ⟨_,rfl,c,dx,_,rfl,hc5,cf_no _ _ _ (by decide) (by decide) (by decide),c,a,t,s0,e,rfl,u5,rfl,_,rfl,?_⟩
    rw [dint]
    refine ite2 (fun h=>?_) fun h=>?_
    · have heq:headI (st t s0 e)=((49:UInt8).toNat:Int):=of_decide_eq_true h
      obtain ⟨r,hr0⟩:=headI_cons heq
      have hst:=st_next hr0
      have hlt:=st_lt hel hr0
      refine ⟨_,rfl,c,dx,_,rfl,hc5,cf_no _ _ _ (by decide) (by decide) (by decide),c,dx,a,s0,e,rfl,hc5,fun H6 h6 k6=>?_⟩
      refine rest H6 noP 0 (s0+1) (u5.move k6 ⟨dx,h6⟩ hlt) (hP.keep k6 hc5) noP_ok small_no ?_ (fun b o hb=>k6 _ _ (s5 _ _ hb) (fun z=>by rw [z,hc0] at hb;cases hb))
      rw [readAt_eq,hr0,hst,com_noP]
      dsimp only
      rw [if_pos rfl]
      cases r with
      | nil=>rfl
      | cons z r=>rfl
    · have hne:¬ headI (st t s0 e)=((49:UInt8).toNat:Int):=fun z=>h (decide_eq_true z)
      have eR:readAt s0 (st t s0 e)=fa 0 unison s0 (st t s0 e):=by
        rw [readAt_eq]
        cases hz:st t s0 e with
        | nil=>rw [fa_nil]
        | cons z r=>
          dsimp only
          rw [if_neg (headI_ne hne z r hz)]
      refine ⟨_,rfl,_,rfl,c,a,l,t,s0,e,rfl,u5,hP,fun x hx=>?_,fun H6 PP kk q u6 hP6 ok6 sm6 hf k6=>?_⟩
      · rw [eR,hx] at k
        exact k
      · exact rest H6 PP kk q u6 hP6 ok6 sm6 (eR.trans hf) (fun b o hb=>k6 _ _ (s5 _ _ hb) (fun z=>by rw [z,hc0] at hb;cases hb) (fun z=>by rw [z,hlH] at hb;cases hb))
end
end Lu
namespace Lu
open PySem PySem.Spec PyProof.Rows L2 Lute LuR LuW
theorem st_take {t:Bytes} {p q e:Nat} (hq:q<=e):(st t p e).take (q - p)=st t p q:=by
  unfold st
  rw [List.take_drop,List.take_take]
  by_cases h:p<=q
  · rw [show p+(q - p)=q by omega,Nat.min_eq_left hq]
  · rw [show p+(q - p)=p by omega,List.drop_eq_nil_of_le (by rw [List.length_take];omega),List.drop_eq_nil_of_le (by rw [List.length_take];omega)]
theorem noteOf_take (t:Bytes):t.take (noteOf t).length=noteOf t:=by
  unfold noteOf
  have h:=congrArg (List.take (t.takeWhile isNote).length) (List.takeWhile_append_dropWhile (p:=isNote) (l:=t))
  rw [List.take_left] at h
  exact h.symm
theorem noteOf_cons {c:UInt8} {r:Bytes} (h:isNote c=true):noteOf (c::r)=c::noteOf r:=by
  unfold noteOf
  rw [List.takeWhile_cons,if_pos h]
theorem noteOf_nil {c:UInt8} {r:Bytes} (h:isNote c=false):noteOf (c::r)=[]:=by
  unfold noteOf
  rw [List.takeWhile_cons,if_neg (by rw [h];exact Bool.false_ne_true)]
theorem inV3 (h:Int):inV (.int h) [.int 44,.int 10,.int (-1)]=(decide (h=44) || (decide (h=10) || decide (h=-1))):=by
  unfold inV
  simp only [List.any_cons,List.any_nil,Bool.or_false,eqV]
  rw [Bool.eq_iff_iff]
  simp only [Bool.or_eq_true,beq_iff_eq,decide_eq_true_eq]
  omega
def spNote (K:PySem.W.Frag) (B C:Addr):Sp:=fun vs H Q E=>∃ (c a:Addr) (t:Bytes) (p e:Nat),vs=[.ref c]/\Cur K B H c a t p e ∧
  match readAt p (noteOf (st t p e)) with
  | .error x=>Err C E x
  | .ok x=>∀ (H':Hp) (b:Addr),Cur K B H' c a t (p+(noteOf (st t p e)).length) e->Keep H H' c->H' b=some (.tup (ivV x))->x.ok=true->Q (.ref b) H'
section
variable {P:Program} {w:World} {K:PySem.W.Frag} {mg:Str->Option Value} {base:Heap} {B C:Addr}
theorem scNO:FnScope ["cursor","start"] ["cursor"] (defScope s_read_note):=⟨rfl,rfl,rfl,by decide +kernel,rfl,by decide +kernel,by decide +kernel⟩
theorem ok_note {f:Addr} {fd:FuncData} (F:Fun K "read_note" "read_note" s_read_note f fd) (T:Txt K mg B C) (M:Crs P w K mg base B C) (DV:Dfn P w K mg base C 7 "read_interval" ["text","start","end"] (spInterval K C)):
    FnOk P w K mg base (CXF P w C) 8 f fd ["cursor"] (spNote K B C):=by
  refine F.okX scNO (fun vs H Q E h=>?_) (fun cdv A outer s H vs Q E hr h=>?_)
  · obtain ⟨c,a,t,p,e,rfl,_⟩:=h
    rfl
  · obtain ⟨c,a,t,p,e,rfl,u,k⟩:=h
    obtain ⟨dx,hc⟩:=u.at_
    have hr1:=hr.mono (show 1<=7 by decide)
    refine ⟨_,pss_cons (ps_set (i:=1) scNO.nd rfl (Or.inl rfl) (pe_fld (pv 0) rfl))
      (pss_cons (ps_while xown (pt_cmpR op_notIn_seq (pe_mt0 M.byte hr1 (pv 0)) (pe_tup (pa_cons (pe_cst T.cCO) (pa_cons (pe_cst T.cNL) (pa_cons (pe_cst T.cEND) pa_nil)))) (by with_unfolding_all rfl)) (pss_one (ps_expr (pe_mt0 M.adv hr1 (pv 0)))))
      (pss_one (ps_ret (pe_fn DV hr rfl (pa_cons (pe_fld (pv 0) rfl) (pa_cons (pv 1) (pa_cons (pe_fld (pv 0) rfl) pa_nil))))))),?_⟩
    refine ⟨_,rfl,c,B,dx,_,_,rfl,hc,T.cl,T.nP,cf_place _ _ _,?_⟩
    refine ⟨fun m σ H'=>∃ (pos:Nat),m=e - pos/\σ=[some (.ref c),some (.int (p:Int))]/\Cur K B H' c a t pos e/\Keep H H' c/\p<=pos/\(noteOf (st t p e)).length=pos - p+(noteOf (st t pos e)).length,
      ⟨_,p,rfl,rfl,u,Keep.refl _ _,Nat.le_refl _,by omega⟩,?_⟩
    rintro m σ H1 ⟨pos,rfl,rfl,u1,kp,hpp,inv⟩
    obtain ⟨dx1,hc1⟩:=u1.at_
    refine ⟨_,rfl,c,dx1,_,rfl,hc1,cf_no _ _ _ (by decide) (by decide) (by decide),c,a,t,pos,e,rfl,u1,(by show 3<=sizeLine;decide),fun b hb=>?_⟩
    have s2:Same H1 (upd H1 b (.tup [.int 44,.int 10,.int (-1)])):=same_new hb
    have u2:=u1.same s2
    have hc2:=s2 _ _ hc1
    refine ⟨b,_,rfl,.inr (SqT.of upd_same),rfl,rfl,_,rfl,?_⟩
    show if (!inV (.int (headI (st t pos e))) [.int 44,.int 10,.int (-1)])=true then _ else _
    rw [inV3]
    refine ite2 (fun h=>?_) fun h=>?_
    · rw [Bool.not_eq_true',Bool.or_eq_false_iff,Bool.or_eq_false_iff,decide_eq_false_iff_not,decide_eq_false_iff_not,decide_eq_false_iff_not] at h
      obtain ⟨z,r,hz⟩:=headI_more h.2.2
      have hst:=st_next hz
      have hlt:=st_lt u1.len hz
      rw [hz] at h inv
      have z1:z ≠ 44:=fun q=>h.1 (by rw [q];rfl)
      have z2:z ≠ 10:=fun q=>h.2.1 (by rw [q];rfl)
      have hn:isNote z=true:=by
        unfold isNote
        rw [bne_iff_ne.mpr z1,bne_iff_ne.mpr z2]
        rfl
      rw [noteOf_cons hn,List.length_cons] at inv
      refine ⟨fun σ' H'=>σ'=[some (.ref c),some (.int (p:Int))]/\Cur K B H' c a t (pos+1) e/\Keep H H' c,?_,?_⟩
      · rintro σ' H' ⟨rfl,u',kp'⟩
        exact ⟨_,by omega,pos+1,rfl,rfl,u',kp',by omega,by rw [hst];omega⟩
      · refine ⟨_,rfl,c,dx1,_,rfl,hc2,cf_no _ _ _ (by decide) (by decide) (by decide),c,dx1,a,pos,e,rfl,hc2,fun H3 h3 k3=>?_⟩
        exact ⟨rfl,u2.move k3 ⟨dx1,h3⟩ hlt,(kp.trans (Keep.of s2)).trans k3⟩
    · have h':headI (st t pos e)=44\/headI (st t pos e)=10\/headI (st t pos e)=-1:=by
        by_cases q:headI (st t pos e)=44\/headI (st t pos e)=10\/headI (st t pos e)=-1
        · exact q
        · refine absurd ?_ h
          rw [Bool.not_eq_true',Bool.or_eq_false_iff,Bool.or_eq_false_iff,decide_eq_false_iff_not,decide_eq_false_iff_not,decide_eq_false_iff_not]
          exact ⟨fun z=>q (.inl z),fun z=>q (.inr (.inl z)),fun z=>q (.inr (.inr z))⟩
      have hnil:noteOf (st t pos e)=[]:=by
        rcases h' with q | q | q
        · obtain ⟨r,hr0⟩:=headI_cons (z:=44) q
          rw [hr0]
          exact noteOf_nil rfl
        · obtain ⟨r,hr0⟩:=headI_cons (z:=10) q
          rw [hr0]
          exact noteOf_nil rfl
        · rw [headI_end q]
          rfl
      rw [hnil] at inv
      have hl:(noteOf (st t p e)).length=pos - p:=by simpa using inv
      have en:st t p pos=noteOf (st t p e):=by rw [<- noteOf_take,hl,st_take u1.le]
      refine ⟨_,rfl,c,B,dx1,_,_,rfl,hc2,T.cl,T.nT,cf_text _ _ _,_,rfl,_,rfl,c,B,dx1,_,_,rfl,hc2,T.cl,T.nP,cf_place _ _ _,a,t,p,pos,rfl,u2.txt,hpp,Nat.le_trans u1.le u1.len,?_⟩
      rw [en]
      cases hR:readAt p (noteOf (st t p e)) with
      | error x=>rw [hR] at k;exact k
      | ok x=>
        rw [hR] at k
        intro H' b' s' hb' hok
        refine k H' b' ?_ ((kp.trans (Keep.of s2)).trans (Keep.of s')) hb' hok
        rw [show p+(noteOf (st t p e)).length=pos by omega]
        exact u2.same s'
end
end Lu
namespace Lu
open PySem PySem.Spec PyProof.Rows L2 Lute LuR LuW
def NotesAt (H:Hp) (m:Addr) (l:List Iv):Prop:=∃ bs:List Addr,H m=some (.lst (bs.map V.ref))/\bs.length=l.length/\∀ (i:Nat) (b:Addr) (x:Iv),bs[i]?=some b->l[i]?=some x->H b=some (.tup (ivV x))
theorem NotesAt.move {H H':Hp} {m:Addr} {l:List Iv} (h:NotesAt H m l) (k:∀ b o,H b=some o->(∃ xs,o=.lst xs)\/(∃ xs,o=.tup xs)->H' b=some o):NotesAt H' m l:=by
  obtain ⟨bs,h1,h2,h3⟩:=h
  exact ⟨bs,k _ _ h1 (.inl ⟨_,rfl⟩),h2,fun i b x hb hx=>k _ _ (h3 i b x hb hx) (.inr ⟨_,rfl⟩)⟩
theorem NotesAt.same {H H':Hp} {m:Addr} {l:List Iv} (h:NotesAt H m l) (k:Same H H'):NotesAt H' m l:=h.move fun b o hb _=>k b o hb
theorem NotesAt.keep {H H':Hp} {m c:Addr} {l:List Iv} {B dx:Addr} {fs:List (Str × V)} (h:NotesAt H m l) (k:Keep H H' c) (hc:H c=some (.ins B dx fs)):NotesAt H' m l:=h.move fun b o hb hk=>k b o hb (ne_of hb hc (by
  rintro rfl
  rcases hk with ⟨_,z⟩ | ⟨_,z⟩ <;> cases z))
theorem NotesAt.snoc {H:Hp} {m b:Addr} {l:List Iv} {x:Iv} {xs:List V} (h:NotesAt H m l) (hx:H m=some (.lst xs)) (hb:H b=some (.tup (ivV x))):NotesAt (upd H m (.lst (xs++[.ref b]))) m (l++[x]):=by
  obtain ⟨bs,h1,h2,h3⟩:=h
  rw [h1] at hx
  cases hx
  refine ⟨bs++[b],by rw [upd_same,List.map_append];rfl,by rw [List.length_append,List.length_append,h2];rfl,fun i b' x' hb' hx'=>?_⟩
  have key:H b'=some (.tup (ivV x')):=by
    by_cases hi:i < bs.length
    · rw [List.getElem?_append_left hi] at hb'
      rw [List.getElem?_append_left (by omega)] at hx'
      exact h3 i b' x' hb' hx'
    · rw [List.getElem?_append_right (by omega)] at hb'
      rw [List.getElem?_append_right (by omega)] at hx'
      have hi0:i - bs.length=0:=by
        have:=(List.getElem?_eq_some_iff.mp hb').1
        simp at this
        omega
      rw [hi0] at hb'
      rw [show i - l.length=0 by omega] at hx'
      cases hb'
      cases hx'
      exact hb
  rw [upd_ne (ne_of key h1 (by intro z;cases z))]
  exact key
theorem NotesAt.len {H:Hp} {m:Addr} {l:List Iv} (h:NotesAt H m l):∃ xs,H m=some (.lst xs)/\xs.length=l.length:=by
  obtain ⟨bs,h1,h2,_⟩:=h
  exact ⟨_,h1,by rw [List.length_map,h2]⟩
theorem NotesAt.last {H:Hp} {m:Addr} {l:List Iv} {y:Iv} (h:NotesAt H m (l++[y])):∃ (xs:List V) (b:Addr),H m=some (.lst xs)/\atI xs (-1)=some (.ref b)/\H b=some (.tup (ivV y)):=by
  obtain ⟨bs,h1,h2,h3⟩:=h
  rw [List.length_append] at h2
  have h2':bs.length=l.length+1:=h2
  obtain ⟨as,b,rfl⟩:∃ as b,bs=as++[b]:=by
    rcases List.eq_nil_or_concat bs with e | ⟨as,b,e⟩
    · rw [e] at h2'
      simp at h2'
    · exact ⟨as,b,by rw [e,List.concat_eq_append]⟩
  have hl:as.length=l.length:=by
    rw [List.length_append] at h2'
    simpa using h2'
  refine ⟨_,b,h1,by rw [List.map_append];exact atI_last _ _,h3 l.length b y ?_ ?_⟩
  · rw [List.getElem?_append_right (by omega),hl,Nat.sub_self]
    rfl
  · rw [List.getElem?_append_right (Nat.le_refl _),Nat.sub_self]
    rfl
theorem keep_free {H H':Hp} {c m:Addr} (k:Keep H H' c) (hc:∃ o,H' c=some o) (h:H' m=none):H m=none:=by
  cases q:H m with
  | none=>rfl
  | some o=>
    by_cases z:m=c
    · obtain ⟨o',hc⟩:=hc
      rw [z,hc] at h
      cases h
    · rw [k _ _ q z] at h
      cases h
def contN (acc:List Iv) (y:Iv) (q:Nat):Bytes->Rd (List Iv)
  | []=>.ok (acc,q,[])
  | c::r=>if c=44 then (match r with
      | []=>.error (q+1)
      | b::v=>if b=32 then (match nn acc.length (some y) (q+2) v with
          | .error e=>.error e
          | .ok (l,z,w)=>.ok (acc++l,z,w)) else .error (q+1)) else .ok (acc,q,c::r)
theorem nn_first (p:Nat) (t:Bytes):nn 0 none p t=match readAt p (noteOf t) with
    | .error e=>.error e
    | .ok x=>contN [x] x (p+(noteOf t).length) (t.drop (noteOf t).length):=by
  rw [nn_eq,if_neg (by decide)]
  cases readAt p (noteOf t) with
  | error e=>rfl
  | ok x=>
    dsimp only
    rw [if_neg (by show ¬ (false=true);exact Bool.false_ne_true)]
    unfold contN
    cases t.drop (noteOf t).length with
    | nil=>rfl
    | cons c r=>
      dsimp only
      by_cases hc:c=44
      · rw [if_pos hc,if_pos hc]
        cases r with
        | nil=>rfl
        | cons b u=>
          dsimp only
          by_cases hb:b=32
          · rw [if_pos hb,if_pos hb]
            have e1:nn [x].length (some x) (p+(noteOf t).length+2) u=nn (0+1) (some x) (p+(noteOf t).length+2) u:=rfl
            rw [e1]
            cases nn (0+1) (some x) (p+(noteOf t).length+2) u with
            | error e=>rfl
            | ok z=>rfl
          · rw [if_neg hb,if_neg hb]
      · rw [if_neg hc,if_neg hc]
theorem contN_step (acc:List Iv) (y:Iv) (q:Nat) (v:Bytes):contN acc y q (44::32::v)=if 14<=acc.length then .error (q+2) else match readAt (q+2) (noteOf v) with
    | .error e=>.error e
    | .ok x=>if x.lt y=true then .error (q+2) else contN (acc++[x]) x (q+2+(noteOf v).length) (v.drop (noteOf v).length):=by
  have h0:contN acc y q (44::32::v)=(match nn acc.length (some y) (q+2) v with
          | .error e=>.error e
          | .ok (l,z,w)=>.ok (acc++l,z,w)):=by
    unfold contN
    dsimp only
    rw [if_pos rfl,if_pos rfl]
  rw [h0,nn_eq]
  by_cases h14:14<=acc.length
  · rw [if_pos h14,if_pos h14]
  · rw [if_neg h14,if_neg h14]
    cases readAt (q+2) (noteOf v) with
    | error e=>rfl
    | ok x=>
      dsimp only
      show (match (if x.lt y=true then _ else _:Rd (List Iv)) with | .error e=>_ | .ok (l,z,w)=>_)=_
      by_cases hl:x.lt y=true
      · rw [if_pos hl,if_pos hl]
      · rw [if_neg hl,if_neg hl]
        unfold contN
        cases v.drop (noteOf v).length with
        | nil=>rfl
        | cons c r=>
          dsimp only
          by_cases hc:c=44
          · rw [if_pos hc,if_pos hc]
            cases r with
            | nil=>rfl
            | cons b u=>
              dsimp only
              by_cases hb:b=32
              · rw [if_pos hb,if_pos hb,List.length_append]
                have e1:nn (acc.length+[x].length) (some x) (q+2+(noteOf v).length+2) u=nn (acc.length+1) (some x) (q+2+(noteOf v).length+2) u:=rfl
                rw [e1]
                cases nn (acc.length+1) (some x) (q+2+(noteOf v).length+2) u with
                | error e=>rfl
                | ok z=>
                  obtain ⟨l,z1,w⟩:=z
                  dsimp only
                  rw [List.append_assoc]
                  rfl
              · rw [if_neg hb,if_neg hb]
          · rw [if_neg hc,if_neg hc]
def spNotes (K:PySem.W.Frag) (B C:Addr):Sp:=fun vs H Q E=>∃ (c a:Addr) (t:Bytes) (p e:Nat),vs=[.ref c]/\Cur K B H c a t p e ∧
  (∀ x,momN p (st t p e)=.error x->Err C E x) ∧
  ∀ v q w,momN p (st t p e)=.ok (v,q,w)->∀ (H':Hp) (m:Addr),Cur K B H' c a t q e->Keep H H' c->H m=none->NotesAt H' m v->(∀ x ∈ v,x.ok=true)->Q (.ref m) H'
section
variable {P:Program} {w:World} {K:PySem.W.Frag} {mg:Str->Option Value} {base:Heap} {B C:Addr}
theorem scNS:FnScope ["cursor","notes","start","note"] ["cursor"] (defScope s_read_notes):=⟨rfl,rfl,rfl,by decide +kernel,rfl,by decide +kernel,by decide +kernel⟩
theorem ok_notes {f:Addr} {fd:FuncData} (F:Fun K "read_notes" "read_notes" s_read_notes f fd) (T:Txt K mg B C) (M:Crs P w K mg base B C) (MT:Mth P w K mg base C B 3 "take" ["self","wanted"] (spTake K B C))
    (DO:Dfn P w K mg base C 8 "read_note" ["cursor"] (spNote K B C)) (DW:Dfn P w K mg base C 1 "width" ["interval"] (spWidth K)):
    FnOk P w K mg base (CXF P w C) 9 f fd ["cursor"] (spNotes K B C):=by
  refine F.okX scNS (fun vs H Q E h=>?_) (fun cdv A outer s H vs Q E hr h=>?_)
  · obtain ⟨c,a,t,p,e,rfl,_⟩:=h
    rfl
  · obtain ⟨c,a,t,p,e,rfl,u,kE,kQ⟩:=h
    obtain ⟨dx,hc⟩:=u.at_
    have hr1:=hr.mono (show 1<=8 by decide)
    have hr2:=hr.mono (show 2<=8 by decide)
    have hr3:=hr.mono (show 3<=8 by decide)
    refine ⟨_,pss_cons (ps_if (pt_cmpR op_eq (pe_mt0 M.byte hr1 (pv 0)) (pe_cst T.cPO) (nomark _)) (pss_cons (ps_expr (pe_mt0 M.adv hr1 (pv 0))) (pss_one (ps_ret (pe_lst pa_nil)))) pss_nil)
      (pss_cons (ps_set (i:=1) scNS.nd rfl (Or.inl rfl) (pe_lst (pa_cons (pe_fn DO hr rfl (pa_cons (pv 0) pa_nil)) pa_nil)))
      (pss_cons (ps_while xown (pt_cmpR op_eq (pe_mt0 M.byte hr1 (pv 0)) (pe_cst T.cCO) (nomark _))
        (pss_cons (ps_expr (pe_mt0 M.adv hr1 (pv 0)))
        (pss_cons (ps_expr (pe_mt MT hr3 (pv 0) (pa_cons (pe_cst T.cBT) pa_nil)))
        (pss_cons (ps_set (i:=2) scNS.nd rfl (Or.inl rfl) (pe_fld (pv 0) rfl))
        (pss_cons (ps_if (pt_cmpR op_eq (pe_callB call_len_seq (by rfl) T.len PySem.boot_len (pa_cons (pv 1) pa_nil)) (pe_cst T.cMN) (nomark _)) (pss_one (ps_raise T.xt hr2 rfl T.mC (pv 2))) pss_nil)
        (pss_cons (ps_set (i:=3) scNS.nd rfl (Or.inl rfl) (pe_fn DO hr rfl (pa_cons (pv 0) pa_nil)))
        (pss_cons (ps_if (pt_cmpR op_lt (pe_fn DW hr1 rfl (pa_cons (pv 3) pa_nil)) (pe_fn DW hr1 rfl (pa_cons (pe_ix ix_list (pv 1) (pe_un un_neg pe_int) (fun _ _=>rfl)) pa_nil)) (nomark _)) (pss_one (ps_raise T.xt hr2 rfl T.mC (pv 2))) pss_nil)
        (pss_one (ps_expr (pe_bm PySem.F.plainAttrs_list PySem.F.slot_list_append PySem.F.type_list_append mt_append (pv 1) (pa_cons (pv 3) pa_nil)))))))))))
      (pss_one (ps_ret (pv 1))))),?_⟩
    refine ⟨_,rfl,c,dx,_,rfl,hc,cf_no _ _ _ (by decide) (by decide) (by decide),c,a,t,p,e,rfl,u,rfl,_,rfl,?_⟩
    rw [dint]
    refine ite2 (fun h=>?_) fun h=>?_
    · have heq:headI (st t p e)=((46:UInt8).toNat:Int):=of_decide_eq_true h
      obtain ⟨r,hr0⟩:=headI_cons heq
      have hlt:=st_lt u.len hr0
      have eM:momN p (st t p e)=.ok ([],p+1,r):=by
        rw [hr0]
        unfold momN
        dsimp only
        rw [if_pos rfl]
      refine ⟨_,rfl,c,dx,_,rfl,hc,cf_no _ _ _ (by decide) (by decide) (by decide),c,dx,a,p,e,rfl,hc,fun H1 h1 k1=>?_⟩
      refine ⟨Nat.zero_le _,fun m hm=>?_⟩
      have sm:=same_new (o:=.lst []) hm
      exact kQ _ _ _ eM _ m ((u.move k1 ⟨dx,h1⟩ hlt).same sm) (k1.trans (Keep.of sm)) (keep_free k1 ⟨_,h1⟩ hm) ⟨[],upd_same,rfl,fun i b x hb=>by simp at hb⟩ fun x hx=>by cases hx
    · have hne:¬ headI (st t p e)=((46:UInt8).toNat:Int):=fun z=>h (decide_eq_true z)
      have eM:momN p (st t p e)=nn 0 none p (st t p e):=by
        unfold momN
        cases hz:st t p e with
        | nil=>rfl
        | cons z r=>
          dsimp only
          rw [if_neg (headI_ne hne z r hz)]
      rw [nn_first] at eM
      refine ⟨_,rfl,c,a,t,p,e,rfl,u,?_⟩
      cases hR:readAt p (noteOf (st t p e)) with
      | error x=>rw [hR] at eM;exact kE x eM
      | ok x0=>
        rw [hR] at eM
        dsimp only at eM
        intro H1 b0 u1 k1 hb0 hok0
        refine ⟨(by show 1<=sizeLine;decide),fun m hm=>?_⟩
        have sm:=same_new (o:=.lst [.ref b0]) hm
        have hmH:H m=Option.none:=keep_free k1 (let ⟨_,z⟩:=u1.at_;⟨_,z⟩) hm
        rw [st_drop] at eM
        refine ⟨fun mm σ H'=>∃ (acc:List Iv) (y:Iv) (q:Nat) (v2 v3:Option V),mm=e - q/\σ=[some (.ref c),some (.ref m),v2,v3]/\Cur K B H' c a t q e/\Keep H H' c/\NotesAt H' m (acc++[y])/\(∀ x ∈ acc++[y],x.ok=true)/\(acc++[y]).length<=14 ∧
            momN p (st t p e)=contN (acc++[y]) y q (st t q e),
          ⟨_,[],x0,p+(noteOf (st t p e)).length,none,none,rfl,rfl,u1.same sm,k1.trans (Keep.of sm),?_,?_,by simp,eM⟩,?_⟩
        · refine ⟨[b0],upd_same,rfl,fun i b x hb hx=>?_⟩
          match i,hb,hx with
          | 0,hb,hx=>cases hb;cases hx;exact sm _ _ hb0
          | i+1,hb,_=>simp at hb
        · intro x hx
          have hx':x=x0:=by simpa using hx
          rw [hx']
          exact hok0
        · rintro mm σ H2 ⟨acc,y,q,v2,v3,rfl,rfl,u2,kp2,hN2,hok2,hlen2,k2⟩
          obtain ⟨dx2,hc2⟩:=u2.at_
          refine ⟨_,rfl,c,dx2,_,rfl,hc2,cf_no _ _ _ (by decide) (by decide) (by decide),c,a,t,q,e,rfl,u2,rfl,_,rfl,?_⟩
          rw [dint]
          refine ite2 (fun h=>?_) fun h=>?_
          · have heq:headI (st t q e)=((44:UInt8).toNat:Int):=of_decide_eq_true h
            obtain ⟨r,hr0⟩:=headI_cons heq
            have hst:=st_next hr0
            have hlt:=st_lt u.len hr0
            refine ⟨fun σ' H'=>∃ (acc:List Iv) (y:Iv) (q':Nat) (v2 v3:Option V),q < q'/\σ'=[some (.ref c),some (.ref m),v2,v3]/\Cur K B H' c a t q' e/\Keep H H' c/\NotesAt H' m (acc++[y])/\(∀ x ∈ acc++[y],x.ok=true)/\(acc++[y]).length<=14 ∧
              momN p (st t p e)=contN (acc++[y]) y q' (st t q' e),?_,?_⟩
            · rintro σ' H' ⟨acc,y,q',v2,v3,hq,rfl,a1,a2,a3,a4,a5,a6⟩
              have:=a1.le
              exact ⟨e - q',by omega,acc,y,q',v2,v3,rfl,rfl,a1,a2,a3,a4,a5,a6⟩
            · refine ⟨_,rfl,c,dx2,_,rfl,hc2,cf_no _ _ _ (by decide) (by decide) (by decide),c,dx2,a,q,e,rfl,hc2,fun H3 h3 k3=>?_⟩
              have u3:=u2.move k3 ⟨dx2,h3⟩ hlt
              have hN3:=hN2.keep k3 hc2
              refine ⟨_,rfl,c,dx2,_,rfl,h3,cf_no _ _ _ (by decide) (by decide) (by decide),c,a,t,q+1,e,32,rfl,u3,fun hB=>?_,fun hB=>?_⟩
              · intro H4 u4 k4
                rw [hst] at hB
                obtain ⟨v,hv⟩:=headI_cons hB
                subst hv
                have hst2:st t (q+2) e=v:=st_next hst
                obtain ⟨dx4,hc4⟩:=u4.at_
                have hN4:=hN3.keep k4 h3
                rw [hr0,contN_step] at k2
                obtain ⟨xs,hxs,hxl⟩:=hN4.len
                refine ⟨_,rfl,c,B,dx4,_,_,rfl,hc4,T.cl,T.nP,cf_place _ _ _,?_⟩
                refine ⟨_,rfl,m,xs,rfl,.inl (SqL.of hxs),rfl,_,rfl,?_⟩
                rw [dint]
                refine ite2 (fun h14=>?_) fun h14=>?_
                · have h14':(xs.length:Int)=14:=of_decide_eq_true h14
                  rw [if_pos (by omega)] at k2
                  exact ⟨_,rfl,_,rfl,fun d hd=>kE _ k2 _ d upd_same⟩
                · have h14':¬ (xs.length:Int)=14:=fun z=>h14 (decide_eq_true z)
                  rw [if_neg (by omega)] at k2
                  refine ⟨_,rfl,c,a,t,q+2,e,rfl,u4,?_⟩
                  rw [hst2]
                  cases hR2:readAt (q+2) (noteOf v) with
                  | error x=>rw [hR2] at k2;exact kE _ k2
                  | ok x=>
                    rw [hR2] at k2
                    dsimp only at k2
                    intro H5 b5 u5 k5 hb5 hok5
                    have hN5:=hN4.keep k5 hc4
                    refine ⟨_,rfl,b5,x,rfl,SqT.of hb5,hok5,fun H6 s6=>?_⟩
                    have hN6:=hN5.same s6
                    obtain ⟨xs6,b6,hx6,ha6,hb6⟩:=hN6.last
                    refine ⟨_,rfl,_,rfl,m,xs6,_,_,rfl,rfl,SqL.of hx6,ha6,b6,y,rfl,SqT.of hb6,hok2 y (by simp),fun H7 s7=>?_⟩
                    have hlt':=lt_width hok5 (hok2 y (by simp))
                    refine ⟨_,_,rfl,rfl,_,rfl,?_⟩
                    rw [<- hlt']
                    refine ite2 (fun hL=>?_) fun hL=>?_
                    · rw [if_pos hL] at k2
                      exact ⟨_,rfl,_,rfl,fun d hd=>kE _ k2 _ d upd_same⟩
                    · rw [if_neg hL] at k2
                      have hN7:=hN6.same s7
                      obtain ⟨xs7,hx7,hl7⟩:=hN7.len
                      have hb7:=s7 _ _ (s6 _ _ hb5)
                      have u7:=(u5.same s6).same s7
                      have kp7:Keep H H7 c:=kp2.trans (k3.trans (k4.trans (k5.trans ((Keep.of s6).trans (Keep.of s7)))))
                      obtain ⟨dx7,hc7⟩:=u7.at_
                      refine ⟨_,rfl,.inl ⟨rfl,_,SqL.of hx7⟩,_,rfl,m,_,_,rfl,rfl,hx7,(by rw [hl7];exact Nat.lt_of_le_of_lt hlen2 (by show 14 < sizeLine;decide)),?_⟩
                      have ncm:c ≠ m:=ne_of hc7 hx7 (by intro z;cases z)
                      have hN8:=hN7.snoc hx7 hb7
                      refine ⟨acc++[y],x,q+2+(noteOf v).length,some (.int ((q+2:Nat):Int)),some (.ref b5),by omega,rfl,?_,?_,hN8,?_,?_,?_⟩
                      · refine ⟨⟨dx7,by rw [upd_ne ncm];exact hc7⟩,?_,u7.le,u7.len⟩
                        rcases u7.txt with (hz | ⟨o,hz⟩) | hz
                        · by_cases z:a=m
                          · exfalso
                            obtain ⟨bs,hbs,hbl,_⟩:=hN7
                            rw [z,hbs] at hz
                            have hz':bs.map V.ref=tx t:=by injection hz with hz;injection hz
                            cases bs with
                            | nil=>rw [List.length_append] at hbl;simp at hbl
                            | cons b bs=>
                              unfold tx at hz'
                              cases t with
                              | nil=>cases hz'
                              | cons x r=>injection hz' with hz' _;cases hz'
                          · exact .inl (.inl (by rw [upd_ne z];exact hz))
                        · exact .inl (.inr ⟨o,by rw [upd_ne (ne_of hz hx7 (by intro z;cases z))];exact hz⟩)
                        · exact .inr hz
                      · intro b o hb hbc
                        rw [upd_ne (fun z=>by rw [z,hmH] at hb;cases hb)]
                        exact kp7 b o hb hbc
                      · intro x' hx'
                        rcases List.mem_append.mp hx' with z | z
                        · exact hok2 x' z
                        · rw [List.mem_singleton.mp z]
                          exact hok5
                      · rw [List.length_append]
                        show (acc++[y]).length+1<=14
                        omega
                      · rw [show st t (q+2+(noteOf v).length) e=v.drop (noteOf v).length by rw [<- hst2,st_drop]]
                        exact k2
              · rw [hst] at hB
                rw [hr0] at k2
                have e2:contN (acc++[y]) y q (44::r)=.error (q+1):=by
                  unfold contN
                  dsimp only
                  rw [if_pos rfl]
                  cases r with
                  | nil=>rfl
                  | cons z r=>
                    dsimp only
                    rw [if_neg (fun q=>hB (by rw [q];rfl))]
                rw [e2] at k2
                exact kE _ k2
          · have hne2:¬ headI (st t q e)=((44:UInt8).toNat:Int):=fun z=>h (decide_eq_true z)
            have e2:contN (acc++[y]) y q (st t q e)=.ok (acc++[y],q,st t q e):=by
              unfold contN
              cases hz:st t q e with
              | nil=>rfl
              | cons z r=>
                dsimp only
                rw [if_neg (headI_ne hne2 z r hz)]
            rw [e2] at k2
            exact ⟨_,rfl,kQ _ _ _ k2 H2 m u2 kp2 hmH hN2 hok2⟩
end
end Lu
namespace Lu
open PySem PySem.Spec PyProof.Rows L2 Lute LuR LuW
abbrev lets:List UInt8:=[120,116,115,101,113,104,119]
abbrev lenK:List (Int × Int):=[(120,1),(116,2),(115,4),(101,8),(113,16),(104,32),(119,64)]
theorem len_look (c:UInt8):List.lookup (c.toNat:Int) lenK=(lets.idxOf? c).map fun k=>((2 ^ k:Nat):Int):=by
  have h:∀ n:Fin 256,List.lookup ((UInt8.ofNat n.val).toNat:Int) lenK=(lets.idxOf? (UInt8.ofNat n.val)).map fun k=>((2 ^ k:Nat):Int):=by decide +kernel
  have e:=h ⟨c.toNat,c.toNat_lt⟩
  simpa using e
theorem len_none:List.lookup (-1:Int) lenK=none:=by decide +kernel
theorem len_ix {c:UInt8} {i:Nat} (h:lets.idxOf? c=some i):i < 7:=by
  obtain ⟨h1,_⟩:=List.findIdx?_eq_some_iff_findIdx_eq.mp (show List.findIdx? (fun x=>x == c) lets=some i by simpa [List.idxOf?] using h)
  simpa using h1
def signAt (p:Nat):Bytes->Rd Nat
  | []=>.error p
  | c::r=>match lets.idxOf? c with
    | none=>.error p
    | some i=>match r with
      | []=>.ok (2 ^ i,p+1,[])
      | b::u=>if b=46/\i ≠ 0 then .ok (2 ^ i+2 ^ (i - 1),p+2,u) else .ok (2 ^ i,p+1,b::u)
theorem front_sign (p:Nat) (t:Bytes):Front p t (signAt p t):=by
  intro v q u h
  cases t with
  | nil=>cases h
  | cons c r=>
    unfold signAt at h
    dsimp only at h
    split at h
    · cases h
    · cases r with
      | nil=>cases h;simp
      | cons b u=>
        dsimp only at h
        split at h
        · cases h
          refine ⟨by omega,by simp,?_⟩
          rw [show p+2 - p=2 by omega]
          rfl
        · cases h
          refine ⟨by omega,by simp,?_⟩
          rw [show p+1 - p=1 by omega]
          rfl
theorem len_at {p:Nat} {c:UInt8} {i:Nat} (hi:lets.idxOf? c=some i) (r:Bytes):LuteTab.lengthAt p (c::r)=match r with
    | []=>.error (p+1)
    | b::u=>if b=46 then (match u with
        | []=>if i=0 then .error (p+1) else .error (p+2)
        | d::v=>if d=32 then (if i=0 then .error (p+1) else .ok (2 ^ i+2 ^ (i - 1),p+3,v)) else if i=0 then .error (p+1) else .error (p+2))
      else if b=32 then .ok (2 ^ i,p+2,u) else .error (p+1):=by
  have hi':[(120:UInt8),116,115,101,113,104,119].idxOf? c=some i:=hi
  unfold LuteTab.lengthAt
  dsimp only
  rw [hi']
  dsimp only
  cases r with
  | nil=>rfl
  | cons b u=>
    dsimp only
    by_cases hb:b=46
    · rw [if_pos hb]
      cases u with
      | nil=>
        rw [hb]
        rfl
      | cons d v=>
        dsimp only
        by_cases hd:d=32
        · rw [if_pos hd,hb,hd]
          rfl
        · rw [if_neg hd,hb]
          split
          · rename_i h
            injection h with _ h
            injection h with h _
            exact absurd h hd
          · rfl
          · rename_i h
            injection h with h _
            exact absurd h (by decide)
          · rename_i h _
            exact absurd rfl (h _)
    · rw [if_neg hb]
      by_cases hb2:b=32
      · rw [if_pos hb2,hb2]
        rfl
      · rw [if_neg hb2]
        split
        · rename_i h
          injection h with h _
          exact absurd h hb
        · rename_i h
          injection h with h _
          exact absurd h hb
        · rename_i h
          injection h with h _
          exact absurd h hb2
        · rfl
theorem length_sign (p:Nat) (t:Bytes):LuteTab.lengthAt p t=match signAt p t with
    | .error e=>.error e
    | .ok (n,q,u)=>match u with
      | []=>.error q
      | b::v=>if b=32 then .ok (n,q+1,v) else .error q:=by
  cases t with
  | nil=>rfl
  | cons c r=>
    cases hi:lets.idxOf? c with
    | none=>
      have hi':[(120:UInt8),116,115,101,113,104,119].idxOf? c=none:=hi
      unfold LuteTab.lengthAt signAt
      dsimp only
      rw [hi']
    | some i=>
      rw [len_at hi]
      unfold signAt
      dsimp only
      rw [hi]
      dsimp only
      cases r with
      | nil=>rfl
      | cons b u=>
        dsimp only
        by_cases hb:b=46
        · rw [if_pos hb]
          by_cases i0:i=0
          · subst i0
            rw [if_neg (show ¬ (b=46/\0 ≠ 0) from fun h=>h.2 rfl)]
            dsimp only
            rw [if_neg (show ¬ b=32 by rw [hb];decide)]
            cases u with
            | nil=>rfl
            | cons d v=>
              dsimp only
              split <;> rfl
          · rw [if_pos (show b=46/\i ≠ 0 from ⟨hb,i0⟩)]
            cases u with
            | nil=>
              dsimp only
              rw [if_neg i0]
            | cons d v=>
              dsimp only
              rw [if_neg i0,if_neg i0]
        · rw [if_neg hb,if_neg (show ¬ (b=46/\i ≠ 0) from fun h=>hb h.1)]
section
variable {P:Program} {w:World} {K:PySem.W.Frag} {mg:Str->Option Value} {base:Heap} {B C:Addr}
theorem scLS:FnScope ["cursor","letter","length"] ["cursor"] (defScope s_read_length_sign):=⟨rfl,rfl,rfl,by decide +kernel,rfl,by decide +kernel,by decide +kernel⟩
theorem ok_sign {f:Addr} {fd:FuncData} (F:Fun K "read_length_sign" "read_length_sign" s_read_length_sign f fd) (T:Txt K mg B C) (M:Crs P w K mg base B C):
    FnOk P w K mg base (CXF P w C) 3 f fd ["cursor"] (spRead K B C vNat signAt):=by
  refine F.okX scLS (fun vs H Q E h=>?_) (fun cdv A outer s H vs Q E hr h=>?_)
  · obtain ⟨c,a,t,p,e,rfl,_⟩:=h
    rfl
  · obtain ⟨c,a,t,p,e,rfl,u,k⟩:=h
    obtain ⟨dx,hc⟩:=u.at_
    obtain ⟨af,hf,hD⟩:=T.lgs
    have hr1:=hr.mono (show 1<=2 by decide)
    refine ⟨_,pss_cons (ps_set (i:=1) scLS.nd rfl (Or.inl rfl) (pe_mt0 M.byte hr1 (pv 0)))
      (pss_cons (ps_if (pt_cmp (pc_kdnotin hD (pv 1) (pe_cst hf))) (pss_one (ps_raise T.xt hr rfl T.mC (pe_fld (pv 0) rfl))) pss_nil)
      (pss_cons (ps_expr (pe_mt0 M.adv hr1 (pv 0)))
      (pss_cons (ps_set (i:=2) scLS.nd rfl (Or.inl rfl) (pe_kdget hD (pe_cst hf) (pv 1) (fun _ _=>rfl)))
      (pss_cons (ps_if (PW.pt (pw_or (pt_cmpR op_eq (pv 2) pe_int (nomark _)) (pw_or1 (pt_cmpR op_ne (pe_mt0 M.byte hr1 (pv 0)) (pe_cst T.cPO) (nomark _))))) (pss_one (ps_ret (pv 2))) pss_nil)
      (pss_cons (ps_expr (pe_mt0 M.adv hr1 (pv 0)))
      (pss_one (ps_ret (pe_op op_add (pv 2) (pe_op op_fdiv (pv 2) pe_int))))))))),?_⟩
    refine ⟨_,rfl,c,dx,_,rfl,hc,cf_no _ _ _ (by decide) (by decide) (by decide),c,a,t,p,e,rfl,u,?_⟩
    refine ⟨_,rfl,_,rfl,rfl,_,rfl,?_⟩
    cases hr0:st t p e with
    | nil=>
      rw [hr0] at k
      show if (!(List.lookup (-1:Int) lenK).isSome)=true then _ else _
      rw [len_none]
      exact ⟨_,rfl,c,B,dx,_,_,rfl,hc,T.cl,T.nP,cf_place _ _ _,_,rfl,fun d hd=>k _ d upd_same⟩
    | cons z r=>
      rw [hr0] at k
      have hlt:=st_lt u.len hr0
      have hst:=st_next hr0
      show if (!(List.lookup (z.toNat:Int) lenK).isSome)=true then _ else _
      unfold signAt at k
      dsimp only at k
      have hl:=len_look z
      cases hi:lets.idxOf? z with
      | none=>
        rw [hi] at k hl
        rw [hl]
        exact ⟨_,rfl,c,B,dx,_,_,rfl,hc,T.cl,T.nP,cf_place _ _ _,_,rfl,fun d hd=>k _ d upd_same⟩
      | some j=>
        have hj:=len_ix hi
        rw [hi] at k hl
        rw [hl]
        dsimp only at k
        refine ⟨_,rfl,c,dx,_,rfl,hc,cf_no _ _ _ (by decide) (by decide) (by decide),c,dx,a,p,e,rfl,hc,fun H1 h1 h2=>?_⟩
        have u1:=u.move h2 ⟨dx,h1⟩ hlt
        refine ⟨_,rfl,_,_,rfl,rfl,hl,?_⟩
        refine ⟨_,rfl,rfl,_,rfl,or_test (b2:=!decide (headI (st t (p+1) e)=46)) (fun Q' q'=>⟨_,rfl,c,dx,_,rfl,h1,cf_no _ _ _ (by decide) (by decide) (by decide),c,a,t,p+1,e,rfl,u1,rfl,_,rfl,by rw [dint];exact q'⟩) ?_⟩
        rw [dint,hst]
        have hp1:((2 ^ j:Nat):Int)=1 ↔ j=0:=by
          match j,hj with
          | 0,_=>decide
          | 1,_=>decide
          | 2,_=>decide
          | 3,_=>decide
          | 4,_=>decide
          | 5,_=>decide
          | 6,_=>decide
        refine ite2 (fun h=>?_) fun h=>?_
        · rw [Bool.or_eq_true,decide_eq_true_eq] at h
          have k':∀ (H':Hp) (y:V),Cur K B H' c a t (p+1) e->Keep H H' c->vNat (2 ^ j) y H'->Q y H':=by
            cases r with
            | nil=>exact k
            | cons b v=>
              dsimp only at k
              rw [if_neg (by
                rintro ⟨g1,g2⟩
                rcases h with h | h
                · exact g2 (hp1.mp h)
                · exact is_dec h (by rw [g1];rfl))] at k
              exact k
          exact ⟨_,rfl,k' H1 _ u1 h2 rfl⟩
        · rw [Bool.or_eq_true,decide_eq_true_eq] at h
          have j0:j ≠ 0:=fun z=>h (.inl (hp1.mpr z))
          have hb:headI r=((46:UInt8).toNat:Int):=not_dec fun z=>h (.inr z)
          obtain ⟨v,hv⟩:=headI_cons hb
          subst hv
          dsimp only at k
          rw [if_pos ⟨rfl,j0⟩] at k
          have hlt2:=st_lt u.len hst
          refine ⟨_,rfl,c,dx,_,rfl,h1,cf_no _ _ _ (by decide) (by decide) (by decide),c,dx,a,p+1,e,rfl,h1,fun H2 h3 h4=>?_⟩
          refine ⟨_,rfl,_,rfl,_,_,rfl,rfl,⟨by decide,by decide⟩,_,_,rfl,rfl,?_⟩
          have ev:((2 ^ j:Nat):Int)+((2 ^ j:Nat):Int) / 2=((2 ^ j+2 ^ (j - 1):Nat):Int):=by
            match j,hj,j0 with
            | 0,_,q=>exact absurd rfl q
            | 1,_,_=>decide
            | 2,_,_=>decide
            | 3,_,_=>decide
            | 4,_,_=>decide
            | 5,_,_=>decide
            | 6,_,_=>decide
          exact k H2 _ (u1.move h4 ⟨dx,h3⟩ hlt2) (h2.trans h4) (by unfold vNat;rw [<- ev])
def spLength (K:PySem.W.Frag) (B C:Addr):Sp:=fun vs H Q E=>∃ (c a:Addr) (t:Bytes) (p e last:Nat),vs=[.ref c,.int (last:Int)]/\Cur K B H c a t p e ∧
  (∀ x,lenN last p (st t p e)=.error x->Err C E x) ∧
  ∀ n q w,lenN last p (st t p e)=.ok (n,q,w)->∀ H':Hp,Cur K B H' c a t q e->Keep H H' c->Q (.int (n:Int)) H'
theorem scLE:FnScope ["cursor","before","start","length"] ["cursor","before"] (defScope s_read_length):=⟨rfl,rfl,rfl,by decide +kernel,rfl,by decide +kernel,by decide +kernel⟩
theorem ok_length {f:Addr} {fd:FuncData} (F:Fun K "read_length" "read_length" s_read_length f fd) (T:Txt K mg B C) (M:Crs P w K mg base B C) (MT:Mth P w K mg base C B 3 "take" ["self","wanted"] (spTake K B C))
    (DS:Dfn P w K mg base C 3 "read_length_sign" ["cursor"] (spRead K B C vNat signAt)):
    FnOk P w K mg base (CXF P w C) 4 f fd ["cursor","before"] (spLength K B C):=by
  refine F.okX scLE (fun vs H Q E h=>?_) (fun cdv A outer s H vs Q E hr h=>?_)
  · obtain ⟨c,a,t,p,e,last,rfl,_⟩:=h
    rfl
  · obtain ⟨c,a,t,p,e,last,rfl,u,kE,kQ⟩:=h
    obtain ⟨dx,hc⟩:=u.at_
    have hr1:=hr.mono (show 1<=3 by decide)
    have hr2:=hr.mono (show 2<=3 by decide)
    refine ⟨_,pss_cons (ps_set (i:=2) scLE.nd rfl (Or.inl rfl) (pe_fld (pv 0) rfl))
      (pss_cons (ps_if (PW.pt (pw_and (pt_cmpR op_eq (pe_mt0 M.byte hr1 (pv 0)) (pe_cst T.cBT) (nomark _)) (pw_and1 (pt_cmpR op_ne (pv 1) pe_int (nomark _))))) (pss_cons (ps_expr (pe_mt0 M.adv hr1 (pv 0))) (pss_one (ps_ret (pv 1)))) pss_nil)
      (pss_cons (ps_set (i:=3) scLE.nd rfl (Or.inl rfl) (pe_fn DS hr rfl (pa_cons (pv 0) pa_nil)))
      (pss_cons (ps_expr (pe_mt MT hr (pv 0) (pa_cons (pe_cst T.cBT) pa_nil)))
      (pss_cons (ps_if (pt_cmpR op_eq (pv 3) (pv 1) (nomark _)) (pss_one (ps_raise T.xt hr2 rfl T.mC (pv 2))) pss_nil)
      (pss_one (ps_ret (pv 3))))))),?_⟩
    refine ⟨_,rfl,c,B,dx,_,_,rfl,hc,T.cl,T.nP,cf_place _ _ _,?_⟩
    refine ⟨_,rfl,c,dx,_,rfl,hc,cf_no _ _ _ (by decide) (by decide) (by decide),c,a,t,p,e,rfl,u,rfl,_,rfl,and_test (b2:=!decide ((last:Int)=0)) (fun Q' q'=>⟨_,rfl,rfl,_,rfl,by rw [dint];exact q'⟩) ?_⟩
    rw [dint]
    refine ite2 (fun h=>?_) fun h=>?_
    · rw [Bool.and_eq_true,decide_eq_true_eq] at h
      have heq:headI (st t p e)=((32:UInt8).toNat:Int):=h.1
      have hl:last ≠ 0:=fun z=>is_dec h.2 (by rw [z];rfl)
      obtain ⟨r,hr0⟩:=headI_cons heq
      have hlt:=st_lt u.len hr0
      have eL:lenN last p (st t p e)=.ok (last,p+1,r):=by
        rw [hr0]
        unfold lenN
        dsimp only
        rw [if_pos ⟨rfl,hl⟩]
      refine ⟨_,rfl,c,dx,_,rfl,hc,cf_no _ _ _ (by decide) (by decide) (by decide),c,dx,a,p,e,rfl,hc,fun H1 h1 h2=>?_⟩
      exact ⟨_,rfl,kQ _ _ _ eL H1 (u.move h2 ⟨dx,h1⟩ hlt) h2⟩
    · rw [Bool.and_eq_true,decide_eq_true_eq] at h
      have eL:lenN last p (st t p e)=match signAt p (st t p e) with
          | .error e=>.error e
          | .ok (n,q,u)=>match u with
            | []=>.error q
            | b::v=>if b=32 then (if n=last then .error p else .ok (n,q+1,v)) else .error q:=by
        cases hz:st t p e with
        | nil=>rfl
        | cons z r=>
          unfold lenN
          dsimp only
          rw [if_neg (by
            rintro ⟨g1,g2⟩
            refine h ⟨by rw [hz,g1];rfl,?_⟩
            rw [decide_eq_false (by omega)]
            rfl),length_sign]
          cases signAt p (z::r) with
          | error e=>rfl
          | ok y=>
            obtain ⟨n,q,v⟩:=y
            dsimp only
            cases v with
            | nil=>rfl
            | cons b v=>
              dsimp only
              by_cases hb:b=32
              · rw [if_pos hb,if_pos hb]
              · rw [if_neg hb,if_neg hb]
      refine ⟨_,rfl,c,a,t,p,e,rfl,u,?_⟩
      cases hs:signAt p (st t p e) with
      | error x=>rw [hs] at eL;exact kE x eL
      | ok y=>
        obtain ⟨n,q,v⟩:=y
        obtain ⟨a1,a2,a3⟩:=Front.at_ u.len u.le (front_sign p (st t p e)) hs
        subst a3
        rw [hs] at eL
        dsimp only at eL
        intro H1 y u1 k1 hy
        obtain rfl:y=.int (n:Int):=hy
        obtain ⟨dx1,hc1⟩:=u1.at_
        refine ⟨_,rfl,c,dx1,_,rfl,hc1,cf_no _ _ _ (by decide) (by decide) (by decide),c,a,t,q,e,32,rfl,u1,fun hB=>?_,fun hB=>?_⟩
        · intro H2 u2 k2
          obtain ⟨v,hv⟩:=headI_cons hB
          rw [hv] at eL
          dsimp only at eL
          rw [if_pos rfl] at eL
          refine ⟨_,rfl,_,rfl,rfl,_,rfl,?_⟩
          rw [dint]
          refine ite2 (fun h=>?_) fun h=>?_
          · have h':(n:Int)=(last:Int):=of_decide_eq_true h
            rw [if_pos (by omega)] at eL
            exact ⟨_,rfl,_,rfl,fun d hd=>kE _ eL _ d upd_same⟩
          · have h':¬ (n:Int)=(last:Int):=fun z=>h (decide_eq_true z)
            rw [if_neg (by omega)] at eL
            exact ⟨_,rfl,kQ _ _ _ eL H2 u2 (k1.trans k2)⟩
        · refine kE q ?_
          rw [eL]
          cases hv:st t q e with
          | nil=>rfl
          | cons b v=>
            dsimp only
            rw [if_neg (headI_ne hB b v hv)]
end
end Lu
namespace Lu
open PySem PySem.Spec PyProof.Rows L2 Lute LuR LuW LuteSong
theorem tx_ne {t:Bytes} {bs:List Addr} (h:t ≠ []):tx t ≠ bs.map V.ref:=fun z=>by
  cases t with
  | nil=>exact h rfl
  | cons x r=>
    cases bs with
    | nil=>cases z
    | cons b bs=>injection z with z _;cases z
theorem Cur.write {K:PySem.W.Frag} {B:Addr} {H:Hp} {c a m:Addr} {t:Bytes} {p e:Nat} {bs:List Addr} {o:HO} (u:Cur K B H c a t p e) (hm:H m=some (.lst (bs.map V.ref))) (ht:t ≠ []):Cur K B (upd H m o) c a t p e:=by
  obtain ⟨⟨dx,hc⟩,tx',le,len⟩:=u
  refine ⟨⟨dx,by rw [upd_ne (ne_of hc hm (by intro z;cases z))];exact hc⟩,?_,le,len⟩
  rcases tx' with (hz | ⟨o',hz⟩) | hz
  · refine .inl (.inl ?_)
    rw [upd_ne (fun z=>by
      rw [z,hm] at hz
      exact tx_ne ht (by injection hz with hz;injection hz with hz;exact hz.symm))]
    exact hz
  · exact .inl (.inr ⟨o',by rw [upd_ne (ne_of hz hm (by intro z;cases z))];exact hz⟩)
  · exact .inr hz
theorem st_whole (t:Bytes) (p:Nat):st t p t.length=t.drop p:=by
  unfold st
  rw [List.take_length]
theorem want_step (z:UInt8) (l:Bytes) (p:Nat) (t:Bytes):LuteTab.want (z::l) p t=if headI t=(z.toNat:Int) then LuteTab.want l (p+1) (t.drop 1) else .error p:=by
  cases t with
  | nil=>
    rw [if_neg (by show ¬ (-1:Int)=(z.toNat:Int);omega)]
    rfl
  | cons c r=>
    by_cases h:c=z
    · rw [if_pos (by rw [h];rfl)]
      conv=>lhs;unfold LuteTab.want
      rw [if_pos h]
      rfl
    · rw [if_neg (fun q=>h (UInt8.toNat_inj.mp (by have q':(c.toNat:Int)=(z.toNat:Int):=q;omega)))]
      unfold LuteTab.want
      rw [if_neg h]
theorem for_str {x:Str} {g:TG} {tb:TS} {D:Ends} {σ:L2.St} {H:Hp} (Pv:Nat->L2.St->Hp->Prop) (h0:Pv 0 σ H)
    (hs:∀ i c σ H,x.cps[i]?=some c->Pv i σ H->g (.str ⟨#[c]⟩) σ H fun σ2 H2=>tb { D with nx:=Pv (i+1),ct:=Pv (i+1),bk:=D.nx } σ2 H2) (hd:∀ σ H,Pv x.cps.size σ H->D.nx σ H):
    ∃ W:Nat->Nat->L2.St->Hp->Prop,(∃ m,W 0 m σ H)/\∀ i m σ H,W i m σ H->
      ((Its x).stop i H/\D.nx σ H)\/((Its x).go i H/\∃ N:L2.St->Hp->Prop,(∀ σ' H',N σ' H'->∃ m',m' < m/\W (i+1) m' σ' H')/\∀ v H',(Its x).yld i H v H'->g v σ H' fun σ2 H2=>tb { D with nx:=N,ct:=N,bk:=D.nx } σ2 H2):=by
  refine ⟨fun i m σ H=>m=x.cps.size - i/\i<=x.cps.size/\Pv i σ H,⟨x.cps.size,by simp,Nat.zero_le _,h0⟩,?_⟩
  rintro i m σ H ⟨rfl,hi,p⟩
  by_cases hlt:i < x.cps.size
  · refine .inr ⟨hlt,Pv (i+1),fun σ' H' p'=>⟨x.cps.size - (i+1),by omega,rfl,hlt,p'⟩,fun v H' y=>?_⟩
    obtain ⟨e,c,hc,ev⟩:=y
    subst e ev
    exact hs i c σ _ hc p
  · have e:i=x.cps.size:=by omega
    subst e
    exact .inl ⟨Nat.le_refl _,hd σ H p⟩
def Wd (x:Str) (l:Bytes):Prop:=x.cps.toList=l.map (·.toNat)
theorem want_front (l:Bytes):∀ (p:Nat) (t:Bytes) (q:Nat) (u:Bytes),LuteTab.want l p t=.ok ((),q,u)->q=p+l.length/\u=t.drop l.length/\l.length<=t.length:=by
  induction l with
  | nil=>
    intro p t q u h
    unfold LuteTab.want at h
    cases h
    simp
  | cons z l ih=>
    intro p t q u h
    cases t with
    | nil=>cases h
    | cons c r=>
      unfold LuteTab.want at h
      by_cases hc:c=z
      · rw [if_pos hc] at h
        obtain ⟨h1,h2,h3⟩:=ih _ _ _ _ h
        refine ⟨by rw [h1,List.length_cons];omega,by rw [h2];rfl,by simp only [List.length_cons];omega⟩
      · rw [if_neg hc] at h
        cases h
theorem want_err {l m:Bytes}:∀ {p:Nat} {t:Bytes} {y:Nat},LuteTab.want l p t=.error y->LuteTab.want (l++m) p t=.error y:=by
  induction l with
  | nil=>
    intro p t y h
    cases h
  | cons z l ih=>
    intro p t y h
    cases t with
    | nil=>cases h;rfl
    | cons c r=>
      unfold LuteTab.want at h
      show (if c=z then LuteTab.want (l++m) (p+1) r else .error p)=_
      by_cases hc:c=z
      · rw [if_pos hc] at h ⊢
        exact ih h
      · rw [if_neg hc] at h ⊢
        exact h
theorem want_ok {l m:Bytes}:∀ {p:Nat} {t:Bytes} {q:Nat} {u:Bytes},LuteTab.want l p t=.ok ((),q,u)->LuteTab.want (l++m) p t=LuteTab.want m q u:=by
  induction l with
  | nil=>
    intro p t q u h
    unfold LuteTab.want at h
    cases h
    rfl
  | cons z l ih=>
    intro p t q u h
    cases t with
    | nil=>cases h
    | cons c r=>
      unfold LuteTab.want at h
      show (if c=z then LuteTab.want (l++m) (p+1) r else .error p)=_
      by_cases hc:c=z
      · rw [if_pos hc] at h ⊢
        exact ih h
      · rw [if_neg hc] at h
        cases h
def spWord (K:PySem.W.Frag) (B C:Addr):Sp:=fun vs H Q E=>∃ (c a:Addr) (t:Bytes) (p e:Nat) (x:Str) (l:Bytes),vs=[.ref c,.str x]/\Wd x l/\Cur K B H c a t p e/\(∀ y,LuteTab.want l p (st t p e)=.error y->Err C E y) ∧
  ∀ q u,LuteTab.want l p (st t p e)=.ok ((),q,u)->∀ H':Hp,Cur K B H' c a t q e->Keep H H' c->u=st t q e->Q .non H'
section
variable {P:Program} {w:World} {K:PySem.W.Frag} {mg:Str->Option Value} {base:Heap} {B C:Addr}
theorem scCW:FnScope ["self","word","sign"] ["self","word"] (defScope s_Cursor_take_word):=⟨rfl,rfl,rfl,by decide +kernel,rfl,by decide +kernel,by decide +kernel⟩
theorem ok_cword {f:Addr} {fd:FuncData} (F:Fun K "take_word" "Cursor.take_word" s_Cursor_take_word f fd) (T:Txt K mg B C) (MT:Mth P w K mg base C B 3 "take" ["self","wanted"] (spTake K B C)):
    FnOk P w K mg base (CXF P w C) 4 f fd ["self","word"] (spWord K B C):=by
  refine F.okX scCW (fun vs H Q E h=>?_) (fun cdv A outer s H vs Q E hr h=>?_)
  · obtain ⟨c,a,t,p,e,x,l,rfl,_⟩:=h
    rfl
  · obtain ⟨c,a,t,p,e,x,l,rfl,hw,u,kE,kQ⟩:=h
    refine ⟨_,pss_one (ps_for xown rfl (pi_str (pv 1)) (pg_name (i:=2) scCW.nd rfl (Or.inl rfl)) (pss_one (ps_expr (pe_mt MT hr (pv 0) (pa_cons (pe_callB call_ord (by rfl) T.ord boot_ord (pa_cons (pv 2) pa_nil)) pa_nil))))),?_⟩
    have hsz:x.cps.size=l.length:=by
      have:=congrArg List.length hw
      rw [List.length_map] at this
      simpa using this
    refine ⟨_,rfl,x,rfl,for_str (fun i σ H'=>∃ v:Option V,σ=[some (.ref c),some (.str x),v]/\Cur K B H' c a t (p+i) e/\Keep H H' c/\LuteTab.want l p (st t p e)=LuteTab.want (l.drop i) (p+i) (st t (p+i) e)) ⟨none,rfl,u,Keep.refl _ _,rfl⟩ ?_ ?_⟩
    · rintro i ch σ H' hi ⟨v,rfl,u',k',inv⟩
      obtain ⟨z,hz,hz2⟩:∃ z:UInt8,ch=z.toNat/\l.drop i=z::l.drop (i+1):=by
        have h1:x.cps.toList[i]?=some ch:=by simpa using hi
        rw [show x.cps.toList=l.map (·.toNat) from hw,List.getElem?_map] at h1
        cases hli:l[i]? with
        | none=>rw [hli] at h1;cases h1
        | some z=>
          rw [hli] at h1
          obtain ⟨hlt,hge⟩:=List.getElem?_eq_some_iff.mp hli
          exact ⟨z,by simpa using h1.symm,by rw [<- hge];exact List.drop_eq_getElem_cons hlt⟩
      subst hz
      obtain ⟨dx',hc'⟩:=u'.at_
      rw [hz2,want_step] at inv
      refine ⟨_,rfl,c,dx',_,rfl,hc',cf_no _ _ _ (by decide) (by decide) (by decide),_,rfl,_,rfl,rfl,c,a,t,p+i,e,z,rfl,u',fun hB=>?_,fun hB=>?_⟩
      · intro H2 u2 k2
        rw [if_pos hB,st_drop] at inv
        exact ⟨_,rfl,u2,k'.trans k2,inv⟩
      · rw [if_neg hB] at inv
        exact kE _ inv
    · rintro σ H2 ⟨v,rfl,u2,k2,inv⟩
      rw [hsz] at u2 inv
      rw [List.drop_length] at inv
      exact kQ _ _ inv H2 u2 k2 rfl
end
end Lu
namespace Lu
open PySem PySem.Spec PyProof.Rows L2 Lute LuR LuW LuteSong
section
variable {β:Type} (f:β->List V) (ok:List β->Prop)
def TupsAt (H:Hp) (m:Addr) (l:List β):Prop:=∃ bs:List Addr,H m=some (.lst (bs.map V.ref))/\bs.length=l.length/\∀ (i:Nat) (b:Addr) (x:β),bs[i]?=some b->l[i]?=some x->H b=some (.tup (f x))
def LineAt (H:Hp) (m b:Addr):Ln β->Prop
  | none=>∃ nl,H b=some (.tup [.int 0,.ref nl])/\nl ≠ m/\H nl=some (.lst [])
  | some (n,l)=>∃ nl,H b=some (.tup [.int (n:Int),.ref nl])/\nl ≠ m/\TupsAt f H nl l/\ok l
def LinesAt (H:Hp) (m:Addr) (s:List (Ln β)):Prop:=∃ bs:List Addr,H m=some (.lst (bs.map V.ref))/\bs.length=s.length/\∀ (i:Nat) (b:Addr) (v:Ln β),bs[i]?=some b->s[i]?=some v->LineAt f ok H m b v
variable {f ok} {H H':Hp} {m b:Addr}
theorem TupsAt.move {l:List β} (h:TupsAt f H m l) (k:∀ b o,H b=some o->(∃ xs,o=.lst xs)\/(∃ xs,o=.tup xs)->H' b=some o):TupsAt f H' m l:=by
  obtain ⟨bs,h1,h2,h3⟩:=h
  exact ⟨bs,k _ _ h1 (.inl ⟨_,rfl⟩),h2,fun i b x hb hx=>k _ _ (h3 i b x hb hx) (.inr ⟨_,rfl⟩)⟩
theorem TupsAt.same {l:List β} (h:TupsAt f H m l) (k:Same H H'):TupsAt f H' m l:=h.move fun b o hb _=>k b o hb
theorem LineAt.move {v:Ln β} (h:LineAt f ok H m b v) (k:∀ b o,H b=some o->b ≠ m->(∃ xs,o=.lst xs)\/(∃ xs,o=.tup xs)->H' b=some o) (nm:∀ xs,H m ≠ some (.tup xs)):LineAt f ok H' m b v:=by
  cases v with
  | none=>
    obtain ⟨nl,h1,h2,h3⟩:=h
    exact ⟨nl,k _ _ h1 (fun z=>by rw [z] at h1;exact nm _ h1) (.inr ⟨_,rfl⟩),h2,k _ _ h3 h2 (.inl ⟨_,rfl⟩)⟩
  | some nl=>
    obtain ⟨n,l⟩:=nl
    obtain ⟨nl,h1,h2,⟨bs,g1,g2,g3⟩,h4⟩:=h
    exact ⟨nl,k _ _ h1 (fun z=>by rw [z] at h1;exact nm _ h1) (.inr ⟨_,rfl⟩),h2,⟨bs,k _ _ g1 h2 (.inl ⟨_,rfl⟩),g2,fun i b x hb hx=>k _ _ (g3 i b x hb hx) (fun z=>by
      have:=g3 i b x hb hx
      rw [z] at this
      exact nm _ this) (.inr ⟨_,rfl⟩)⟩,h4⟩
theorem LinesAt.nt {s:List (Ln β)} (h:LinesAt f ok H m s):∀ xs,H m ≠ some (.tup xs):=fun xs z=>by
  obtain ⟨bs,h1,_⟩:=h
  rw [h1] at z
  cases z
theorem LinesAt.move {s:List (Ln β)} (h:LinesAt f ok H m s) (k:∀ b o,H b=some o->(∃ xs,o=.lst xs)\/(∃ xs,o=.tup xs)->H' b=some o):LinesAt f ok H' m s:=by
  have nt:=h.nt
  obtain ⟨bs,h1,h2,h3⟩:=h
  exact ⟨bs,k _ _ h1 (.inl ⟨_,rfl⟩),h2,fun i b v hb hv=>(h3 i b v hb hv).move (fun b o ho _ q=>k b o ho q) nt⟩
theorem LinesAt.same {s:List (Ln β)} (h:LinesAt f ok H m s) (k:Same H H'):LinesAt f ok H' m s:=h.move fun b o hb _=>k b o hb
theorem LinesAt.keep {c:Addr} {s:List (Ln β)} {B dx:Addr} {fs:List (Str × V)} (h:LinesAt f ok H m s) (k:Keep H H' c) (hc:H c=some (.ins B dx fs)):LinesAt f ok H' m s:=h.move fun b o hb hk=>k b o hb (ne_of hb hc (by
  rintro rfl
  rcases hk with ⟨_,z⟩ | ⟨_,z⟩ <;> cases z))
theorem LinesAt.len {s:List (Ln β)} (h:LinesAt f ok H m s):∃ bs:List Addr,H m=some (.lst (bs.map V.ref))/\bs.length=s.length:=by
  obtain ⟨bs,h1,h2,_⟩:=h
  exact ⟨bs,h1,h2⟩
theorem LinesAt.snoc {s:List (Ln β)} {v:Ln β} {bs:List Addr} (h:LinesAt f ok H m s) (hx:H m=some (.lst (bs.map V.ref))) (hb:LineAt f ok H m b v):LinesAt f ok (upd H m (.lst (bs.map V.ref++[.ref b]))) m (s++[v]):=by
  have nt:=h.nt
  obtain ⟨bs',h1,h2,h3⟩:=h
  have e:bs'=bs:=by
    rw [h1] at hx
    have:bs'.map V.ref=bs.map V.ref:=by injection hx with hx;injection hx
    exact List.map_inj_right (fun x y h=>by injection h) |>.mp this
  subst e
  refine ⟨bs'++[b],by rw [upd_same,List.map_append];rfl,by rw [List.length_append,List.length_append,h2];rfl,fun i b' v' hb' hv'=>?_⟩
  have key:LineAt f ok H m b' v':=by
    by_cases hi:i < bs'.length
    · rw [List.getElem?_append_left hi] at hb'
      rw [List.getElem?_append_left (by omega)] at hv'
      exact h3 i b' v' hb' hv'
    · rw [List.getElem?_append_right (by omega)] at hb'
      rw [List.getElem?_append_right (by omega)] at hv'
      have hi0:i - bs'.length=0:=by
        have:=(List.getElem?_eq_some_iff.mp hb').1
        simp at this
        omega
      rw [hi0] at hb'
      rw [show i - s.length=0 by omega] at hv'
      cases hb'
      cases hv'
      exact hb
  exact key.move (fun x o ho hn _=>by rw [upd_ne hn];exact ho) nt
end
def spCont (K:PySem.W.Frag) (B C:Addr) {β:Type} (fv:β->List V) (ok:List β->Prop) (rd:Nat->Bytes->Rd (List β)):Sp:=fun vs H Q E=>∃ (c a:Addr) (t:Bytes) (p e:Nat),vs=[.ref c]/\Cur K B H c a t p e/\(∀ x,rd p (st t p e)=.error x->Err C E x) ∧
  ∀ l q u,rd p (st t p e)=.ok (l,q,u)->∀ (H':Hp) (nl:Addr),Cur K B H' c a t q e->Keep H H' c->H nl=none->TupsAt fv H' nl l->ok l->Q (.ref nl) H'
def spLines (P:Program) (w:World) (K:PySem.W.Frag) (mg:Str->Option Value) (base:Heap) (B C:Addr):Sp:=fun vs H Q E=>∃ (β:Type) (fv:β->List V) (ok:List β->Prop) (rd:Nat->Bytes->Rd (List β)) (c g a:Addr) (t:Bytes) (p:Nat),
  vs=[.ref c,.ref g]/\Cur K B H c a t p t.length/\0 < p/\(∀ p t,Front p t (rd p t))/\Clb P w K mg base C 13 H g 1 (spCont K B C fv ok rd)/\(∀ x,la rd 0 0 p (st t p t.length)=.error x->Err C E x) ∧
  ∀ s,la rd 0 0 p (st t p t.length)=.ok s->∀ (H':Hp) (m:Addr),Keep H H' c->H m=none->LinesAt fv ok H' m s->Q (.ref m) H'
section
variable {P:Program} {w:World} {K:PySem.W.Frag} {mg:Str->Option Value} {base:Heap} {B C:Addr}
theorem Keep.frz {H H':Hp} {c:Addr} {B dx:Addr} {fs:List (Str × V)} (k:Keep H H' c) (hc:H c=some (.ins B dx fs)):Frz H H':=fun b o u h=>k b _ h (fun z=>by rw [z,hc] at h;cases h)
theorem scLI:FnScope ["cursor","read_content","lines","length"] ["cursor","read_content"] (defScope s_read_lines):=⟨rfl,rfl,rfl,by decide +kernel,rfl,by decide +kernel,by decide +kernel⟩
theorem ok_lines {f:Addr} {fd:FuncData} (F:Fun K "read_lines" "read_lines" s_read_lines f fd) (T:Txt K mg B C) (M:Crs P w K mg base B C) (MT:Mth P w K mg base C B 3 "take" ["self","wanted"] (spTake K B C))
    (DL:Dfn P w K mg base C 4 "read_length" ["cursor","before"] (spLength K B C)):
    FnOk P w K mg base (CXF P w C) 14 f fd ["cursor","read_content"] (spLines P w K mg base B C):=by
  refine F.okX scLI (fun vs H Q E h=>?_) (fun cdv A outer s H vs Q E hr h=>?_)
  · obtain ⟨β,fv,ok,rd,c,g,a,t,p,rfl,_⟩:=h
    rfl
  · obtain ⟨β,fv,ok,rd,c,g,a,t,p0,rfl,u2,hp0,FR,CL,kE,kQ⟩:=h
    have hr1:=hr.mono (show 1<=13 by decide)
    have hr2:=hr.mono (show 2<=13 by decide)
    have hr3:=hr.mono (show 3<=13 by decide)
    have hr4:=hr.mono (show 4<=13 by decide)
    have nz:∀ {i:Int} {j:Nat} {q:Pos} (v:Expr) (p:Pos),Expr.Constant (.int i) j q ≠ .Starred v p:=fun v p h=>by cases h
    have nl:∀ {l:List Expr} {q:Pos} (v:Expr) (p:Pos),Expr.List l q ≠ .Starred v p:=fun v p h=>by cases h
    refine ⟨_,(pss_cons (ps_set (i:=2) scLI.nd rfl (Or.inl rfl) (pe_lst pa_nil))
        (pss_cons (ps_set (i:=3) scLI.nd rfl (Or.inl rfl) pe_int)
        (pss_cons (ps_while xown (pt_cmpR op_ne (pe_mt0 M.byte hr1 (pv 0)) (pe_cst T.cEND) (nomark _)) (pss_cons (ps_if (pt_cmpR op_eq (pe_callB call_len_seq (by rfl) T.len PySem.boot_len (pa_cons (pv 2) pa_nil)) (pe_cst T.cML) (nomark _)) (pss_one (ps_raise T.xt hr2 rfl T.mC (pe_fld (pv 0) rfl))) pss_nil)
        (pss_cons (ps_if (pt_cmpR op_eq (pe_mt0 M.byte hr1 (pv 0)) (pe_cst T.cBS) (nomark _)) (pss_cons (ps_expr (pe_mt0 M.adv hr1 (pv 0)))
        (pss_one (ps_expr (pe_bm PySem.F.plainAttrs_list PySem.F.slot_list_append PySem.F.type_list_append mt_append (pv 2) (pa_cons (pe_tup2 nz nl pe_int (pe_lst pa_nil)) pa_nil))))) (pss_cons (ps_set (i:=3) scLI.nd rfl (Or.inl rfl) (pe_fn DL hr4 rfl (pa_cons (pv 0) (pa_cons (pv 3) pa_nil))))
        (pss_one (ps_expr (pe_bm PySem.F.plainAttrs_list PySem.F.slot_list_append PySem.F.type_list_append mt_append (pv 2) (pa_cons (pe_tup (pa_cons (pv 3) (pa_cons (pe_clb (P:=P) (w:=w) (K:=K) (mg:=mg) (base:=base) (i:=1) (C:=C) (k:=13) (E:=E) rfl (Or.inl rfl) hr xpass (pa_cons (pv 0) pa_nil)) pa_nil))) pa_nil))))))
        (pss_one (ps_expr (pe_mt MT hr3 (pv 0) (pa_cons (pe_cst T.cNL) pa_nil)))))))
        (pss_cons (ps_if (pt_cmpR op_eq (pv 3) pe_int (nomark _)) (pss_one (ps_raise T.xt hr2 rfl T.mC (pe_fld (pv 0) rfl))) pss_nil)
        (pss_one (ps_ret (pv 2))))))),?_⟩
    have ht:t ≠ []:=fun z=>by
      have:=u2.le
      rw [z] at this
      simp at this
      omega
    obtain ⟨dx2,hc2⟩:=u2.at_
    refine ⟨Nat.zero_le _,fun m hm=>?_⟩
    have sm:=same_new (o:=.lst []) hm
    have mc:m ≠ c:=fun z=>by rw [z,hc2] at hm;cases hm
    refine ⟨fun mm σ H'=>∃ (acc:List (Ln β)) (last pos:Nat),mm=t.length - pos/\σ=[some (.ref c),some (.ref g),some (.ref m),some (.int (last:Int))]/\Cur K B H' c a t pos t.length/\LinesAt fv ok H' m acc/\Keep H H' c/\acc.length<=512/\la rd 0 0 p0 (st t p0 t.length)=moreL acc (la rd last acc.length pos (st t pos t.length)),
      ⟨_,[],0,p0,rfl,rfl,u2.same sm,⟨[],upd_same,rfl,fun i b v hb=>by simp at hb⟩,Keep.of sm,by simp,(moreL_nil _).symm⟩,?_⟩
    rintro mm σ H3 ⟨acc,last,pos,rfl,rfl,u3,hS3,sH3,hl3,inv⟩
    obtain ⟨dx3,hc3⟩:=u3.at_
    refine ⟨_,rfl,c,dx3,_,rfl,hc3,cf_no _ _ _ (by decide) (by decide) (by decide),c,a,t,pos,t.length,rfl,u3,rfl,_,rfl,?_⟩
    rw [dint]
    refine ite2 (fun h=>?_) fun h=>?_
    · obtain ⟨ch,r,hz⟩:=headI_more (is_dec h)
      have hst:=st_next hz
      have hlt3:=st_lt u3.len hz
      obtain ⟨bs,hbs,hbl⟩:=hS3.len
      refine ⟨fun σ' H'=>∃ (acc:List (Ln β)) (last pos':Nat),pos < pos'/\σ'=[some (.ref c),some (.ref g),some (.ref m),some (.int (last:Int))]/\Cur K B H' c a t pos' t.length/\LinesAt fv ok H' m acc/\Keep H H' c/\acc.length<=512/\la rd 0 0 p0 (st t p0 t.length)=moreL acc (la rd last acc.length pos' (st t pos' t.length)),?_,?_⟩
      · rintro σ' H' ⟨acc,last,pos',hp,rfl,b1,b2,b3,b4,b5⟩
        have:=b1.le
        exact ⟨t.length - pos',by omega,acc,last,pos',rfl,rfl,b1,b2,b3,b4,b5⟩
      · -- 512 lines
        refine ⟨_,rfl,m,_,rfl,.inl (SqL.of hbs),rfl,_,rfl,?_⟩
        rw [dint,List.length_map]
        refine ite2 (fun h5=>?_) fun h5=>?_
        · have h5':(bs.length:Int)=512:=of_decide_eq_true h5
          rw [hz,la_cons FR,if_pos (by omega)] at inv
          exact ⟨_,rfl,c,B,dx3,_,_,rfl,hc3,T.cl,T.nP,cf_place _ _ _,_,rfl,fun d hd=>kE pos inv _ d upd_same⟩
        · have h5':¬ (bs.length:Int)=512:=fun z=>h5 (decide_eq_true z)
          have h512:¬ 512<=acc.length:=by omega
          have tail:∀ (H':Hp) (acc':List (Ln β)) (last' pos':Nat),Cur K B H' c a t pos' t.length->LinesAt fv ok H' m acc'->Keep H H' c->pos < pos'->acc'.length=acc.length+1->la rd 0 0 p0 (st t p0 t.length)=moreL acc' (match endT pos' (st t pos' t.length) with
                | .error e=>.error e
                | .ok (q,u)=>la rd last' (acc.length+1) q u)->
              tMeth B "take" (spTake K B C) [] E (tVar 0) (tCons (tC (.int 10)) tNil) [some (.ref c),some (.ref g),some (.ref m),some (.int (last':Int))] H' (fun _ H1=>∃ (acc:List (Ln β)) (last pos':Nat),pos < pos'/\[some (V.ref c),some (.ref g),some (.ref m),some (.int (last':Int))]=[some (.ref c),some (.ref g),some (.ref m),some (.int (last:Int))]/\Cur K B H1 c a t pos' t.length/\LinesAt fv ok H1 m acc/\Keep H H1 c/\acc.length<=512/\la rd 0 0 p0 (st t p0 t.length)=moreL acc (la rd last acc.length pos' (st t pos' t.length))):=by
            intro H' acc' last' pos' u' hS' sH' hp hl' inv'
            obtain ⟨dx',hc'⟩:=u'.at_
            refine ⟨_,rfl,c,dx',_,rfl,hc',cf_no _ _ _ (by decide) (by decide) (by decide),c,a,t,pos',t.length,10,rfl,u',fun hB=>?_,fun hB=>?_⟩
            · intro H4 u4 k4
              obtain ⟨r',hr'⟩:=headI_cons hB
              have hst':=st_next hr'
              rw [hr'] at inv'
              unfold endT at inv'
              dsimp only at inv'
              rw [if_pos rfl] at inv'
              refine ⟨acc',last',pos'+1,by omega,rfl,u4,hS'.keep k4 hc',sH'.trans k4,by omega,?_⟩
              rw [hst',hl']
              exact inv'
            · refine kE pos' ?_
              rw [inv']
              cases hr':st t pos' t.length with
              | nil=>rfl
              | cons d r'=>
                unfold endT
                dsimp only
                rw [if_neg (headI_ne hB d r' hr')]
                rfl
          refine ⟨_,rfl,c,dx3,_,rfl,hc3,cf_no _ _ _ (by decide) (by decide) (by decide),c,a,t,pos,t.length,rfl,u3,rfl,_,rfl,?_⟩
          rw [dint]
          refine ite2 (fun hb=>?_) fun hb=>?_
          · have heq:headI (st t pos t.length)=((124:UInt8).toNat:Int):=of_decide_eq_true hb
            obtain ⟨r',hr'⟩:=headI_cons heq
            have hst':=st_next hr'
            refine ⟨_,rfl,c,dx3,_,rfl,hc3,cf_no _ _ _ (by decide) (by decide) (by decide),c,dx3,a,pos,t.length,rfl,hc3,fun H4 h4 k4=>?_⟩
            have u4:=u3.move k4 ⟨dx3,h4⟩ hlt3
            have hS4:=hS3.keep k4 hc3
            have hm4:H4 m=some (.lst (bs.map V.ref)):=k4 _ _ hbs (ne_of hbs hc3 (by intro z;cases z))
            refine ⟨_,rfl,.inl ⟨rfl,_,SqL.of hm4⟩,?_⟩
            refine ⟨Nat.zero_le _,fun nl hnl=>⟨(by show 2<=sizeLine;decide),fun b hb=>?_⟩⟩
            have s5:=same_new (o:=.lst []) hnl
            have s6:=same_new (o:=.tup [.int 0,.ref nl]) hb
            have s46:=s5.trans s6
            have nm:nl ≠ m:=fun z=>by rw [z,hm4] at hnl;cases hnl
            refine ⟨m,_,_,rfl,rfl,s46 _ _ hm4,?_,?_⟩
            · rw [List.length_map]
              exact Nat.lt_of_lt_of_le (show bs.length < 513 by omega) (by decide)
            · have sH6:Keep H (upd (upd H4 nl (.lst [])) b (.tup [.int 0,.ref nl])) c:=(sH3.trans k4).trans (Keep.of s46)
              refine tail _ (acc++[none]) last (pos+1) ((u4.same s46).write (s46 _ _ hm4) ht) ((hS4.same s46).snoc (s46 _ _ hm4) (show LineAt fv ok _ m b none from ⟨nl,upd_same,nm,s6 _ _ upd_same⟩)) (fun x o hx hxc=>?_) (by omega) (by rw [List.length_append];rfl) ?_
              · rw [upd_ne (fun z=>by rw [z,hm] at hx;cases hx)]
                exact sH6 x o hx hxc
              · rw [hst',inv,hr',la_bar FR _ _ _ _ _ h512]
                all_goals (cases endT (pos+1) r' <;> rfl)
          · have hne2:¬ headI (st t pos t.length)=((124:UInt8).toNat:Int):=fun z=>hb (decide_eq_true z)
            have hch:=headI_ne hne2 ch r hz
            refine ⟨_,rfl,_,rfl,c,a,t,pos,t.length,last,rfl,u3,fun x hx=>?_,fun n q w hL H4 u4 k4=>?_⟩
            · rw [hz] at hx
              exact kE x (by rw [inv,hz,la_err1 FR _ h512 hch hx])
            · obtain ⟨f1,f2,f3,f4⟩:=front_lenN last pos (st t pos t.length) _ _ _ hL
              have hw:w=st t q t.length:=by
                rw [f3,st_drop]
                congr 1
                omega
              obtain ⟨dx4,hc4⟩:=u4.at_
              have hm4:H4 m=some (.lst (bs.map V.ref)):=k4 _ _ hbs (ne_of hbs hc3 (by intro z;cases z))
              have hS4:=hS3.keep k4 hc3
              have k04:=sH3.trans k4
              refine ⟨_,rfl,.inl ⟨rfl,_,SqL.of hm4⟩,?_⟩
              refine ⟨_,rfl,g,rfl,_,rfl,1,_,CL.on (k04.frz hc2),c,a,t,q,t.length,rfl,u4,fun x hx=>?_,fun l q2 w2 hM H5 nl u5 k5 hnl hN5 hok5=>?_⟩
              · rw [hz,hw] at hL
                exact kE x (by rw [inv,hz,la_err2 FR _ h512 hch hL hx])
              · obtain ⟨g1,g2,g3⟩:=Front.at_ u4.len u4.le (FR q (st t q t.length)) hM
                refine ⟨(by show 2<=sizeLine;decide),fun b hb=>?_⟩
                have hm5:H5 m=some (.lst (bs.map V.ref)):=k5 _ _ hm4 (ne_of hm4 hc4 (by intro z;cases z))
                have nm:nl ≠ m:=fun z=>by rw [z,hm4] at hnl;cases hnl
                have s6:=same_new (o:=.tup [.int (n:Int),.ref nl]) hb
                refine ⟨m,_,_,rfl,rfl,s6 _ _ hm5,?_,?_⟩
                · rw [List.length_map]
                  exact Nat.lt_of_lt_of_le (show bs.length < 513 by omega) (by decide)
                · have sH6:Keep H (upd H5 b (.tup [.int (n:Int),.ref nl])) c:=(k04.trans k5).trans (Keep.of s6)
                  refine tail _ (acc++[some (n,l)]) n q2 ((u5.same s6).write (s6 _ _ hm5) ht) (((hS4.keep k5 hc4).same s6).snoc (s6 _ _ hm5) (show LineAt fv ok _ m b (some (n,l)) from ⟨nl,upd_same,nm,hN5.same s6,hok5⟩)) (fun x o hx hxc=>?_) (by omega) (by rw [List.length_append];rfl) ?_
                  · rw [upd_ne (fun z=>by rw [z,hm] at hx;cases hx)]
                    exact sH6 x o hx hxc
                  · rw [hz,hw] at hL
                    rw [g3] at hM
                    rw [inv,hz,la_moment FR _ h512 hch hL hM]
                    all_goals (cases endT q2 (st t q2 t.length) <;> rfl)
    · have hnil:=headI_end (not_dec h)
      rw [hnil,la_nil] at inv
      refine ⟨_,rfl,rfl,_,rfl,?_⟩
      rw [dint]
      refine ite2 (fun h0=>?_) fun h0=>?_
      · have h0':(last:Int)=0:=of_decide_eq_true h0
        rw [if_pos (by omega)] at inv
        exact ⟨_,rfl,c,B,dx3,_,_,rfl,hc3,T.cl,T.nP,cf_place _ _ _,_,rfl,fun d hd=>kE pos inv _ d upd_same⟩
      · have h0':¬ (last:Int)=0:=fun z=>h0 (decide_eq_true z)
        rw [if_neg (by omega)] at inv
        have inv':la rd 0 0 p0 (st t p0 t.length)=.ok acc:=by
          rw [inv]
          show Except.ok (acc++[])=_
          rw [List.append_nil]
        exact ⟨_,rfl,kQ acc inv' H3 m sH3 hm hS3⟩
end
end Lu
namespace Lu
open PySem PySem.Spec PyProof.Rows L2 Lute LuR LuW LuteSong
def VerseAt (H:Hp) (m b:Addr):Verse->Prop
  | .bar=>∃ nl,H b=some (.tup [.int 0,.ref nl])/\nl ≠ m/\H nl=some (.lst [])
  | .moment n l=>∃ nl,H b=some (.tup [.int (n:Int),.ref nl])/\nl ≠ m/\NotesAt H nl l/\∀ x ∈ l,x.ok=true
theorem VerseAt.move {H H':Hp} {m b:Addr} {v:Verse} (h:VerseAt H m b v) (k:∀ b o,H b=some o->b ≠ m->(∃ xs,o=.lst xs)\/(∃ xs,o=.tup xs)->H' b=some o) (nm:∀ xs,H m ≠ some (.tup xs)):VerseAt H' m b v:=by
  cases v with
  | bar=>
    obtain ⟨nl,h1,h2,h3⟩:=h
    exact ⟨nl,k _ _ h1 (fun z=>by rw [z] at h1;exact nm _ h1) (.inr ⟨_,rfl⟩),h2,k _ _ h3 h2 (.inl ⟨_,rfl⟩)⟩
  | moment n l=>
    obtain ⟨nl,h1,h2,⟨bs,g1,g2,g3⟩,h4⟩:=h
    exact ⟨nl,k _ _ h1 (fun z=>by rw [z] at h1;exact nm _ h1) (.inr ⟨_,rfl⟩),h2,⟨bs,k _ _ g1 h2 (.inl ⟨_,rfl⟩),g2,fun i b x hb hx=>k _ _ (g3 i b x hb hx) (fun z=>by
      have:=g3 i b x hb hx
      rw [z] at this
      exact nm _ this) (.inr ⟨_,rfl⟩)⟩,h4⟩
def SongAt (H:Hp) (m:Addr) (s:Song):Prop:=∃ bs:List Addr,H m=some (.lst (bs.map V.ref))/\bs.length=s.length/\∀ (i:Nat) (b:Addr) (v:Verse),bs[i]?=some b->s[i]?=some v->VerseAt H m b v
theorem SongAt.nt {H:Hp} {m:Addr} {s:Song} (h:SongAt H m s):∀ xs,H m ≠ some (.tup xs):=fun xs z=>by
  obtain ⟨bs,h1,_⟩:=h
  rw [h1] at z
  cases z
theorem SongAt.move {H H':Hp} {m:Addr} {s:Song} (h:SongAt H m s) (k:∀ b o,H b=some o->(∃ xs,o=.lst xs)\/(∃ xs,o=.tup xs)->H' b=some o):SongAt H' m s:=by
  have nt:=h.nt
  obtain ⟨bs,h1,h2,h3⟩:=h
  exact ⟨bs,k _ _ h1 (.inl ⟨_,rfl⟩),h2,fun i b v hb hv=>(h3 i b v hb hv).move (fun b o ho _ q=>k b o ho q) nt⟩
theorem SongAt.same {H H':Hp} {m:Addr} {s:Song} (h:SongAt H m s) (k:Same H H'):SongAt H' m s:=h.move fun b o hb _=>k b o hb
def spSong (K:PySem.W.Frag) (C:Addr):Sp:=fun vs H Q E=>∃ (a:Addr) (t:Bytes),vs=[.ref a]/\SqL K H a (tx t) ∧
  (∀ x,readSong t=.error x->Err C E x)/\∀ s,readSong t=.ok s->∀ (H':Hp) (m:Addr),Same H H'->SongAt H' m s->Q (.ref m) H'
theorem song_of {H:Hp} {m:Addr} {s:List (Ln Iv)} (h:LinesAt ivV (fun l=>∀ x ∈ l,x.ok=true) H m s):SongAt H m (s.map toVerse):=by
  obtain ⟨bs,h1,h2,h3⟩:=h
  refine ⟨bs,h1,by rw [List.length_map,h2],fun i b v hb hv=>?_⟩
  rw [List.getElem?_map] at hv
  cases q:s[i]? with
  | none=>rw [q] at hv;cases hv
  | some ln=>
    rw [q] at hv
    cases hv
    have:=h3 i b ln hb q
    cases ln with
    | none=>exact this
    | some nl=>exact this
section
variable {P:Program} {w:World} {K:PySem.W.Frag} {mg:Str->Option Value} {base:Heap} {B C:Addr}
theorem scSO:FnScope ["text","cursor"] ["text"] (defScope s_read_song):=⟨rfl,rfl,rfl,by decide +kernel,rfl,by decide +kernel,by decide +kernel⟩
theorem ok_song {f:Addr} {fd:FuncData} (F:Fun K "read_song" "read_song" s_read_song f fd) (T:Txt K mg B C) (MT:Mth P w K mg base C B 3 "take" ["self","wanted"] (spTake K B C)) (MW:Mth P w K mg base C B 4 "take_word" ["self","word"] (spWord K B C))
    (DI:Mke P w K mg base C B 1 "Cursor" ["self","text","place","end"] (spInit B)) (DR:Dfn P w K mg base C 14 "read_lines" ["cursor","read_content"] (spLines P w K mg base B C)) (DN:Dfn P w K mg base C 9 "read_notes" ["cursor"] (spNotes K B C)):
    FnOk P w K mg base (CXF P w C) 15 f fd ["text"] (spSong K C):=by
  refine F.okX scSO (fun vs H Q E h=>?_) (fun cdv A outer s H vs Q E hr h=>?_)
  · obtain ⟨a,t,rfl,_⟩:=h
    rfl
  · obtain ⟨a,t,rfl,hS,kE,kQ⟩:=h
    obtain ⟨g,hg,CLn⟩:=DN.clb
    have hr2:=hr.mono (show 2<=14 by decide)
    have hr3:=hr.mono (show 3<=14 by decide)
    have hr4:=hr.mono (show 4<=14 by decide)
    refine ⟨_,(pss_cons (ps_set (i:=1) scSO.nd rfl (Or.inl rfl) (pe_mk DI hr2 rfl (pa_cons (pv 0) (pa_cons pe_int (pa_cons (pe_callB call_len_seq (by rfl) T.len PySem.boot_len (pa_cons (pv 0) pa_nil)) pa_nil)))))
        (pss_cons (ps_expr (pe_mt MW hr4 (pv 1) (pa_cons (pe_cst T.fst) pa_nil)))
        (pss_cons (ps_expr (pe_mt MT hr3 (pv 1) (pa_cons (pe_cst T.cNL) pa_nil)))
        (pss_one (ps_ret (pe_fn DR hr rfl (pa_cons (pv 1) (pa_cons (pe_fnv hg) pa_nil)))))))),?_⟩
    refine ⟨_,rfl,_,rfl,a,_,rfl,.inl hS,fun c dx hc0 hdx hne=>?_⟩
    have hlt:(tx t).length=t.length:=by unfold tx;rw [List.length_map]
    refine ⟨c,dx,a,0,t.length,by rw [hlt];rfl,upd_same,fun H1 hc1 k1=>⟨rfl,?_⟩⟩
    have s1:Same H H1:=Same.made hc0 hdx k1
    have u1:Cur K B H1 c a t 0 t.length:=⟨⟨dx,hc1⟩,s1.seq hS,Nat.zero_le _,Nat.le_refl _⟩
    have toH:∀ {H':Hp},Keep H1 H' c->Same H H':=fun k b o hb=>k _ _ (s1 _ _ hb) (fun z=>by rw [z,hc0] at hb;cases hb)
    have e0:firstLine=[115,111,110,103]++[10]:=rfl
    refine ⟨_,rfl,c,dx,_,rfl,hc1,cf_no _ _ _ (by decide) (by decide) (by decide),c,a,t,0,t.length,"song",[115,111,110,103],rfl,(by unfold Wd;decide +kernel),u1,fun y hy=>?_,fun q u hq H2 u2 k2 hu=>?_⟩
    · rw [st_whole,List.drop_zero] at hy
      exact kE y (by rw [readSong_eq,e0,want_err hy])
    · obtain ⟨q1,q2,q3⟩:=want_front _ _ _ _ _ hq
      have eq4:q=4:=q1
      subst eq4
      subst hu
      rw [st_whole,List.drop_zero] at hq
      have e4:=readSong_eq t
      rw [e0,want_ok hq] at e4
      obtain ⟨dx2,hc2⟩:=u2.at_
      refine ⟨_,rfl,c,dx2,_,rfl,hc2,cf_no _ _ _ (by decide) (by decide) (by decide),c,a,t,4,t.length,10,rfl,u2,fun hB=>?_,fun hB=>?_⟩
      · intro H3 u3 k3
        rw [want_step,if_pos hB,st_drop] at e4
        have e4:readSong t=va 0 0 5 (st t 5 t.length):=e4
        rw [va_la] at e4
        obtain ⟨dx3,hc3⟩:=u3.at_
        refine ⟨_,rfl,Iv,ivV,(fun l=>∀ x ∈ l,x.ok=true),momN,c,g,a,t,5,rfl,u3,by decide,front_mom,(CLn H3).mono (by decide),fun x hx=>kE x (by rw [e4,hx];rfl),fun ls hls H4 m k4 hm4 hL=>?_⟩
        exact kQ _ (by rw [e4,hls];rfl) H4 m (toH ((k2.trans k3).trans k4)) (song_of hL)
      · rw [want_step,if_neg hB] at e4
        exact kE 4 e4
end
end Lu
section
namespace L2
open PySem PySem.Spec PyProof.Rows
open PySem.W (WData Codec OpenSpec Well WellAll ReadsW ReadsAllW)
mutual
inductive Dw (K:PySem.W.Frag) (H:Hp):V->WData->Prop
  | non:Dw K H .non .none
  | bl (b:Bool):Dw K H (.bl b) (.bool b)
  | int (i:Int):Dw K H (.int i) (.int i)
  | str (x:Str):Dw K H (.str x) (.str x)
  | byt (b:Array UInt8):Dw K H (.byt b) (.bytes b.toList)
  | lst {a:Addr} {xs:List V} {ds:List WData}:SqL K H a xs->DwAll K H xs ds->Dw K H (.ref a) (.list ds)
  | tup {a:Addr} {xs:List V} {ds:List WData}:SqT K H a xs->DwAll K H xs ds->Dw K H (.ref a) (.tuple ds)
inductive DwAll (K:PySem.W.Frag) (H:Hp):List V->List WData->Prop
  | nil:DwAll K H [] []
  | cons {v:V} {vs:List V} {d:WData} {ds:List WData}:Dw K H v d->DwAll K H vs ds->DwAll K H (v::vs) (d::ds)
end
theorem dw_ints {K:PySem.W.Frag} {H:Hp}:∀ ns:List Int,DwAll K H (ns.map V.int) (ns.map WData.int)
  | []=>.nil
  | n::r=>.cons (.int n) (dw_ints r)
theorem ints_dw {K:PySem.W.Frag} {H:Hp}:∀ (ns:List Int) (xs:List V),DwAll K H xs (ns.map WData.int)->xs=ns.map V.int
  | [],xs,h=>by
    cases h
    rfl
  | n::r,xs,h=>by
    cases h with
    | cons h1 h2=>
      cases h1
      rw [ints_dw r _ h2] <;> rfl
section
variable {P:Program} {w:World} {K:PySem.W.Frag} {H:Hp} {h:Heap} {R:PySem.W.WRecords} {cl:Str->Option Addr}
theorem sqL_at {a:Addr} {xs:List V} (hok:HOk P w H h) (KX:K.In h) (q:SqL K H a xs):∃ (its:List Value) (o:Obj) (n:Nat),Vals xs its/\h.get? a=some o/\o.cls=.type "list"/\o.data=.seq its.toArray n:=by
  rcases q with q | ⟨o,its,n,e,hc,_,hd,_,hv⟩
  · obtain ⟨_,its,n,hv,e⟩:=(show ObjOk P w H h a (.lst xs) from q.ok hok)
    exact ⟨its,_,n,hv,e,rfl,rfl⟩
  · exact ⟨its.toList,o,n,hv,KX _ _ e,hc,by simp [hd]⟩
theorem sqT_at {a:Addr} {xs:List V} (hok:HOk P w H h) (KX:K.In h) (q:SqT K H a xs):∃ (its:List Value) (o:Obj) (n:Nat),Vals xs its/\h.get? a=some o/\o.cls=.type "tuple"/\o.data=.seq its.toArray n:=by
  rcases q with q | ⟨o,its,n,e,hc,hd,_,hv⟩
  · obtain ⟨_,its,hv,o,e,hc,n,hd⟩:=(show ObjOk P w H h a (.tup xs) from q.ok hok)
    exact ⟨its,o,n,hv,e,hc,hd⟩
  · exact ⟨its.toList,o,n,hv,KX _ _ e,hc,by simp [hd]⟩
mutual
theorem Dw.reads (hok:HOk P w H h) (KX:K.In h):∀ (d:WData) (v:V) (u:Value),Dw K H v d->RelV v u->∃ as,ReadsW R cl h u d as
  | .none,_,_,x,r=>by
    cases x
    cases r
    exact ⟨_,ReadsW.none⟩
  | .bool b,_,_,x,r=>by
    cases x
    cases r
    exact ⟨_,ReadsW.bool b⟩
  | .int i,_,_,x,r=>by
    cases x
    obtain ⟨t,rfl⟩:=r
    exact ⟨_,ReadsW.int i t⟩
  | .str s,_,_,x,r=>by
    cases x
    obtain ⟨t,rfl⟩:=r
    exact ⟨_,ReadsW.str s t⟩
  | .bytes b,_,_,x,r=>by
    cases x
    obtain ⟨t,rfl⟩:=r
    exact ⟨_,ReadsW.bytes _ t⟩
  | .list ds,_,_,x,r=>by
    cases x with
    | lst hs ha=>
      cases r
      obtain ⟨its,o,n,rv,ho,hc,hd⟩:=sqL_at hok KX hs
      obtain ⟨as,hr⟩:=Dw.readsAll hok KX ds _ its ha rv
      exact ⟨_,ReadsW.list ho hc hd hr⟩
  | .tuple ds,_,_,x,r=>by
    cases x with
    | tup hs ha=>
      cases r
      obtain ⟨its,o,n,rv,ho,hc,hd⟩:=sqT_at hok KX hs
      obtain ⟨as,hr⟩:=Dw.readsAll hok KX ds _ its ha rv
      exact ⟨_,ReadsW.tuple ho hc hd hr⟩
  | .float _,_,_,x,_=>by cases x
  | .dict _,_,_,x,_=>by cases x
  | .bytearray _,_,_,x,_=>by cases x
  | .set _,_,_,x,_=>by cases x
  | .frozenset _,_,_,x,_=>by cases x
  | .obj _ _,_,_,x,_=>by cases x
theorem Dw.readsAll (hok:HOk P w H h) (KX:K.In h):∀ (ds:List WData) (vs:List V) (us:List Value),DwAll K H vs ds->Vals vs us->∃ as,ReadsAllW R cl h us ds as
  | [],_,_,x,r=>by
    cases x
    cases r
    exact ⟨_,ReadsAllW.nil⟩
  | d::ds,_,_,x,r=>by
    cases x with
    | cons h1 h2=>
      cases r with
      | cons r1 r2=>
        obtain ⟨as,q1⟩:=Dw.reads hok KX d _ _ h1 r1
        obtain ⟨bs,q2⟩:=Dw.readsAll hok KX ds _ _ h2 r2
        exact ⟨_,ReadsAllW.cons q1 q2⟩
end
end
mutual
def plW:WData->Bool
  | .none=>true
  | .bool _=>true
  | .int _=>true
  | .str _=>true
  | .bytes _=>true
  | .list xs=>plWs xs
  | .tuple xs=>plWs xs
  | _=>false
def plWs:List WData->Bool
  | []=>true
  | x::r=>plW x && plWs r
end
theorem plWs_map {α:Type} {f:α->WData} (h:∀ a,plW (f a)=true):∀ l:List α,plWs (l.map f)=true
  | []=>rfl
  | x::r=>by
    show (plW (f x) && plWs (r.map f))=true
    rw [h x,plWs_map h r] <;> rfl
theorem pl_enc:∀ (c:Codec) (a:c.denote),plW (c.enc a)=true
  | .unit,_=>rfl
  | .bool,_=>rfl
  | .int _ _,_=>rfl
  | .nat _ _,_=>rfl
  | .u8,_=>rfl
  | .bytes _ _,_=>rfl
  | .text _ _ _ _,_=>rfl
  | .list _ _ c,a=>plWs_map (fun x=>pl_enc c x) a
  | .pair c d,a=>by
    show (plW (c.enc a.1) && (plW (d.enc a.2) && true))=true
    rw [pl_enc c a.1,pl_enc d a.2] <;> rfl
  | .triple c d e,a=>by
    show (plW (c.enc a.1) && (plW (d.enc a.2.1) && (plW (e.enc a.2.2) && true)))=true
    rw [pl_enc c a.1,pl_enc d a.2.1,pl_enc e a.2.2] <;> rfl
  | .option c,none=>rfl
  | .option c,some x=>pl_enc c x
theorem pl_encAll:∀ (cs:List Codec) (a:Codec.denoteAll cs),plWs (Codec.encAll cs a)=true
  | [],_=>rfl
  | c::cs,a=>by
    show (plW (c.enc a.1) && plWs (Codec.encAll cs a.2))=true
    rw [pl_enc c a.1,pl_encAll cs a.2] <;> rfl
theorem weight_mem:∀ {xs:List WData} {d:WData},d ∈ xs->d.weight<=WData.weightAll xs
  | [],d,h=>absurd h (by simp)
  | x::r,d,h=>by
    show d.weight<=x.weight+1+WData.weightAll r
    rcases List.mem_cons.mp h with e | m
    · rw [e]
      omega
    · have z:=weight_mem m
      omega
def toV:Value->V
  | .none=>.non
  | .bool b=>.bl b
  | .int i _=>.int i
  | .str x _=>.str x
  | .bytes b _=>.byt b
  | .ref a=>.ref a
  | _=>.non
def OkU (A:List Addr):Value->Prop
  | .none=>True
  | .bool _=>True
  | .int _ _=>True
  | .str _ _=>True
  | .bytes _ _=>True
  | .ref a=>a ∈ A
  | _=>False
theorem OkU.mono {A B:List Addr} (h:∀ a ∈ A,a ∈ B):∀ {u:Value},OkU A u->OkU B u:=fun {u} x=>by
  cases u with
  | ref a=>exact h a x
  | none=>trivial
  | bool b=>trivial
  | int i t=>trivial
  | str s t=>trivial
  | bytes b t=>trivial
  | _=>exact False.elim x
theorem relV_toV {A:List Addr} {u:Value} (x:OkU A u):RelV (toV u) u:=by
  cases u with
  | ref a=>rfl
  | none=>rfl
  | bool b=>rfl
  | int i t=>exact ⟨t,rfl⟩
  | str s t=>exact ⟨t,rfl⟩
  | bytes b t=>exact ⟨t,rfl⟩
  | _=>exact False.elim x
theorem vals_toV {A:List Addr}:∀ {vs:List Value},(∀ u ∈ vs,OkU A u)->Vals (vs.map toV) vs
  | [],_=>.nil
  | u::r,h=>.cons (relV_toV (h u (List.mem_cons_self ..))) (vals_toV fun x hx=>h x (List.mem_cons_of_mem _ hx))
def ArgOb (h:Heap) (A:List Addr) (a:Addr):Prop:=∃ vs:List Value,vs.length<=sizeLine/\(∀ u ∈ vs,OkU A u) ∧
  (h.get? a=some { cls:=.type "list",data:=.seq vs.toArray }\/h.get? a=some { cls:=.type "tuple",data:=.seq vs.toArray })
theorem ArgOb.mono {h:Heap} {A B:List Addr} {a:Addr} (k:∀ a ∈ A,a ∈ B) (x:ArgOb h A a):ArgOb h B a:=by
  obtain ⟨vs,h1,h2,h3⟩:=x
  exact ⟨vs,h1,fun u hu=>(h2 u hu).mono k,h3⟩
theorem wellAll_len {P:Params} {h:Heap}:∀ {vs:List Value} {ds:List WData},WellAll P h vs ds->vs.length=ds.length
  | _,_,.nil=>rfl
  | _,_,.cons _ b=>by
    show _+1=_+1
    rw [wellAll_len b]
theorem well_list {P:Params} {h:Heap} {v:Value} {ds:List WData} (x:Well P h v (.list ds)):∃ (a:Addr) (vs:List Value),v=.ref a/\h.get? a=some { cls:=.type "list",data:=.seq vs.toArray }/\WellAll P h vs ds:=by
  cases x with
  | list ho hall=>exact ⟨_,_,rfl,ho,hall⟩
theorem well_tuple {P:Params} {h:Heap} {v:Value} {ds:List WData} (x:Well P h v (.tuple ds)):∃ (a:Addr) (vs:List Value),v=.ref a/\h.get? a=some { cls:=.type "tuple",data:=.seq vs.toArray }/\WellAll P h vs ds:=by
  cases x with
  | tuple ho hall=>exact ⟨_,_,rfl,ho,hall⟩
theorem well_cons {P:Params} {h:Heap} {us:List Value} {d:WData} {ds:List WData} (x:WellAll P h us (d::ds)):∃ (v:Value) (vs:List Value),us=v::vs/\Well P h v d/\WellAll P h vs ds:=by
  cases x with
  | cons a b=>exact ⟨_,_,rfl,a,b⟩
theorem line_of {n:Nat} (h:n<=1048576):n<=sizeLine:=Nat.le_trans h (by decide)
section
variable {P:Params} {h:Heap}
mutual
theorem area_one:∀ (d:WData) (v:Value),Well P h v d->plW d=true->d.weight<=1048576->∃ A:List Addr,OkU A v/\∀ a ∈ A,ArgOb h A a
  | .none,_,x,_,_=>by
    cases x
    exact ⟨[],trivial,fun a m=>absurd m (by simp)⟩
  | .bool b,_,x,_,_=>by
    cases x
    exact ⟨[],trivial,fun a m=>absurd m (by simp)⟩
  | .int i,_,x,_,_=>by
    cases x
    exact ⟨[],trivial,fun a m=>absurd m (by simp)⟩
  | .str s,_,x,_,_=>by
    cases x
    exact ⟨[],trivial,fun a m=>absurd m (by simp)⟩
  | .bytes b,_,x,_,_=>by
    cases x
    exact ⟨[],trivial,fun a m=>absurd m (by simp)⟩
  | .list ds,_,x,p,z=>by
    obtain ⟨a,vs,rfl,ho,hall⟩:=well_list x
    have z2:WData.weightAll ds<=1048576:=z
    obtain ⟨A,h1,h2⟩:=area_all ds _ hall p fun d hd=>Nat.le_trans (weight_mem hd) z2
    have k:∀ b ∈ A,b ∈ a::A:=fun b hb=>List.mem_cons_of_mem _ hb
    refine ⟨a::A,List.mem_cons_self ..,fun b hb=>?_⟩
    rcases List.mem_cons.mp hb with e | m
    · rw [e]
      exact ⟨vs,line_of (by rw [wellAll_len hall];exact Nat.le_trans (PySem.W.length_le_weightAllW ds) z2),fun u hu=>(h1 u hu).mono k,.inl ho⟩
    · exact (h2 b m).mono k
  | .tuple ds,_,x,p,z=>by
    obtain ⟨a,vs,rfl,ho,hall⟩:=well_tuple x
    have z2:WData.weightAll ds<=1048576:=z
    obtain ⟨A,h1,h2⟩:=area_all ds _ hall p fun d hd=>Nat.le_trans (weight_mem hd) z2
    have k:∀ b ∈ A,b ∈ a::A:=fun b hb=>List.mem_cons_of_mem _ hb
    refine ⟨a::A,List.mem_cons_self ..,fun b hb=>?_⟩
    rcases List.mem_cons.mp hb with e | m
    · rw [e]
      exact ⟨vs,line_of (by rw [wellAll_len hall];exact Nat.le_trans (PySem.W.length_le_weightAllW ds) z2),fun u hu=>(h1 u hu).mono k,.inr ho⟩
    · exact (h2 b m).mono k
  | .float _,_,_,p,_=>Bool.noConfusion (show false=true from p)
  | .dict _,_,_,p,_=>Bool.noConfusion (show false=true from p)
  | .bytearray _,_,_,p,_=>Bool.noConfusion (show false=true from p)
  | .set _,_,_,p,_=>Bool.noConfusion (show false=true from p)
  | .frozenset _,_,_,p,_=>Bool.noConfusion (show false=true from p)
  | .obj _ _,_,_,p,_=>Bool.noConfusion (show false=true from p)
theorem area_all:∀ (ds:List WData) (vs:List Value),WellAll P h vs ds->plWs ds=true->(∀ d ∈ ds,d.weight<=1048576)->∃ A:List Addr,(∀ u ∈ vs,OkU A u)/\∀ a ∈ A,ArgOb h A a
  | [],_,x,_,_=>by
    cases x
    exact ⟨[],fun u m=>absurd m (by simp),fun a m=>absurd m (by simp)⟩
  | d::ds,_,x,p,z=>by
    obtain ⟨v,vs,rfl,x1,x2⟩:=well_cons x
    have q:plW d=true/\plWs ds=true:=Bool.and_eq_true_iff.mp p
    obtain ⟨A,a1,a2⟩:=area_one d v x1 q.1 (z d (List.mem_cons_self ..))
    obtain ⟨B,b1,b2⟩:=area_all ds vs x2 q.2 fun e he=>z e (List.mem_cons_of_mem _ he)
    have kA:∀ b ∈ A,b ∈ A++B:=fun b hb=>List.mem_append.mpr (.inl hb)
    have kB:∀ b ∈ B,b ∈ A++B:=fun b hb=>List.mem_append.mpr (.inr hb)
    refine ⟨A++B,fun u hu=>?_,fun b hb=>?_⟩
    · rcases List.mem_cons.mp hu with e | m
      · rw [e]
        exact a1.mono kA
      · exact (b1 u m).mono kB
    · rcases List.mem_append.mp hb with m | m
      · exact (a2 b m).mono kA
      · exact (b2 b m).mono kB
end
end
def hoOf (o:Obj):Option HO:=match o.data with
  | .seq vs _=>if (o.cls == Value.type "list")=true then some (.frz o (.lst (vs.toList.map toV))) else some (.frz o (.tup (vs.toList.map toV)))
  | _=>none
def argH (K:PySem.W.Frag) (h:Heap) (A:List Addr):Hp:=fun b=>if b ∈ A then (if (K.lookup b).isNone=true then (h.get? b).bind hoOf else none) else none
def OnlyF (H:Hp):Prop:=∀ b,H b=none\/∃ o u,H b=some (.frz o u)
theorem hoOf_lst (vs:List Value):hoOf { cls:=.type "list",data:=.seq vs.toArray }=some (.frz { cls:=.type "list",data:=.seq vs.toArray } (.lst (vs.map toV))):=by
  show (if (Value.type "list" == Value.type "list")=true then some (HO.frz { cls:=.type "list",data:=.seq vs.toArray } (.lst (vs.toArray.toList.map toV))) else some (HO.frz { cls:=.type "list",data:=.seq vs.toArray } (.tup (vs.toArray.toList.map toV))))=_
  rw [if_pos (beq_self_eq_true _)]
theorem hoOf_tup (vs:List Value):hoOf { cls:=.type "tuple",data:=.seq vs.toArray }=some (.frz { cls:=.type "tuple",data:=.seq vs.toArray } (.tup (vs.map toV))):=by
  show (if (Value.type "tuple" == Value.type "list")=true then some (HO.frz { cls:=.type "tuple",data:=.seq vs.toArray } (.lst (vs.toArray.toList.map toV))) else some (HO.frz { cls:=.type "tuple",data:=.seq vs.toArray } (.tup (vs.toArray.toList.map toV))))=_
  rw [if_neg (by decide)]
section
variable {P:Program} {w:World} {K:PySem.W.Frag} {h:Heap} {A:List Addr}
theorem argH_at {b:Addr} {o:Obj} (hb:b ∈ A) (hk:K.lookup b=none) (e:h.get? b=some o):argH K h A b=hoOf o:=by
  unfold argH
  rw [if_pos hb,hk,if_pos (show (none:Option Obj).isNone=true from rfl),e] <;> rfl
theorem of_argH {b:Addr} {u:HO} (q:argH K h A b=some u):b ∈ A/\K.lookup b=none:=by
  unfold argH at q
  by_cases hb:b ∈ A
  · rw [if_pos hb] at q
    cases hk:K.lookup b with
    | none=>exact ⟨hb,rfl⟩
    | some o=>
      rw [hk,if_neg (by simp)] at q
      cases q
  · rw [if_neg hb] at q
    cases q
theorem argH_is (ar:∀ a ∈ A,ArgOb h A a) {b:Addr} {u:HO} (q:argH K h A b=some u):K.lookup b=none/\∃ vs:List Value,vs.length<=sizeLine/\(∀ u ∈ vs,OkU A u) ∧
    ((h.get? b=some { cls:=.type "list",data:=.seq vs.toArray }/\u=.frz { cls:=.type "list",data:=.seq vs.toArray } (.lst (vs.map toV))) ∨
     (h.get? b=some { cls:=.type "tuple",data:=.seq vs.toArray }/\u=.frz { cls:=.type "tuple",data:=.seq vs.toArray } (.tup (vs.map toV)))):=by
  obtain ⟨hb,hk⟩:=of_argH q
  obtain ⟨vs,h1,h2,h3⟩:=ar b hb
  refine ⟨hk,vs,h1,h2,?_⟩
  rcases h3 with e | e
  · rw [argH_at hb hk e,hoOf_lst] at q
    exact .inl ⟨e,(Option.some.inj q).symm⟩
  · rw [argH_at hb hk e,hoOf_tup] at q
    exact .inr ⟨e,(Option.some.inj q).symm⟩
theorem argH_only (ar:∀ a ∈ A,ArgOb h A a):OnlyF (argH K h A):=fun b=>by
  cases q:argH K h A b with
  | none=>exact .inl rfl
  | some u=>
    obtain ⟨_,vs,_,_,⟨_,e⟩ | ⟨_,e⟩⟩:=argH_is ar q
    · exact .inr ⟨_,_,by rw [e]⟩
    · exact .inr ⟨_,_,by rw [e]⟩
theorem argH_ok (ar:∀ a ∈ A,ArgOb h A a):HOk P w (argH K h A) h:=fun b u q=>by
  obtain ⟨_,vs,h1,h2,⟨e,rfl⟩ | ⟨e,rfl⟩⟩:=argH_is ar q
  · exact ⟨e,by rw [List.length_map];exact h1,vs,_,vals_toV h2,e⟩
  · exact ⟨e,by rw [List.length_map];exact h1,vs,vals_toV h2,_,e,rfl,_,rfl⟩
theorem seq_inj {c c':Value} {vs us:List Value} (e:(some { cls:=c,data:=.seq vs.toArray }:Option Obj)=some { cls:=c',data:=.seq us.toArray }):c=c'/\vs=us:=by
  have e1:=Option.some.inj e
  have e2:c=c':=congrArg Obj.cls e1
  have e3:Data.seq vs.toArray=Data.seq us.toArray:=congrArg Obj.data e1
  injection e3 with e4
  refine ⟨e2,?_⟩
  have e5:=congrArg Array.toList e4
  simpa using e5
theorem argL (KX:K.In h) (ar:∀ a ∈ A,ArgOb h A a) {a:Addr} {vs:List Value} (ha:a ∈ A) (e:h.get? a=some { cls:=.type "list",data:=.seq vs.toArray }):(∀ u ∈ vs,OkU A u)/\SqL K (argH K h A) a (vs.map toV):=by
  obtain ⟨us,h1,h2,h3⟩:=ar a ha
  have hu:us=vs:=by
    rcases h3 with q | q
    · rw [e] at q
      exact (seq_inj q).2.symm
    · rw [e] at q
      exact absurd (Value.type.inj (seq_inj q).1) (by decide)
  subst hu
  refine ⟨h2,?_⟩
  cases hk:K.lookup a with
  | none=>exact .inl (.inr ⟨_,by rw [argH_at ha hk e,hoOf_lst]⟩)
  | some o=>
    have e2:=KX a o hk
    rw [e] at e2
    obtain rfl:=Option.some.inj e2
    exact .inr ⟨_,us.toArray,_,hk,rfl,rfl,rfl,by rw [List.size_toArray];exact h1,by simpa using vals_toV h2⟩
theorem argT (KX:K.In h) (ar:∀ a ∈ A,ArgOb h A a) {a:Addr} {vs:List Value} (ha:a ∈ A) (e:h.get? a=some { cls:=.type "tuple",data:=.seq vs.toArray }):(∀ u ∈ vs,OkU A u)/\SqT K (argH K h A) a (vs.map toV):=by
  obtain ⟨us,h1,h2,h3⟩:=ar a ha
  have hu:us=vs:=by
    rcases h3 with q | q
    · rw [e] at q
      exact absurd (Value.type.inj (seq_inj q).1) (by decide)
    · rw [e] at q
      exact (seq_inj q).2.symm
  subst hu
  refine ⟨h2,?_⟩
  cases hk:K.lookup a with
  | none=>exact .inl (.inr ⟨_,by rw [argH_at ha hk e,hoOf_tup]⟩)
  | some o=>
    have e2:=KX a o hk
    rw [e] at e2
    obtain rfl:=Option.some.inj e2
    exact .inr ⟨_,us.toArray,_,hk,rfl,rfl,by rw [List.size_toArray];exact h1,by simpa using vals_toV h2⟩
mutual
theorem dw_one {Pm:Params} (KX:K.In h) (ar:∀ a ∈ A,ArgOb h A a):∀ (d:WData) (v:Value),Well Pm h v d->plW d=true->OkU A v->Dw K (argH K h A) (toV v) d
  | .none,_,x,_,_=>by
    cases x
    exact .non
  | .bool b,_,x,_,_=>by
    cases x
    exact .bl b
  | .int i,_,x,_,_=>by
    cases x
    exact .int i
  | .str s,_,x,_,_=>by
    cases x
    exact .str s
  | .bytes b,_,x,_,_=>by
    cases x
    have z:=Dw.byt (K:=K) (H:=argH K h A) b.toArray
    exact z
  | .list ds,_,x,p,hu=>by
    obtain ⟨a,vs,rfl,ho,hall⟩:=well_list x
    obtain ⟨h2,hs⟩:=argL KX ar hu ho
    exact .lst hs (dw_all KX ar ds _ hall p h2)
  | .tuple ds,_,x,p,hu=>by
    obtain ⟨a,vs,rfl,ho,hall⟩:=well_tuple x
    obtain ⟨h2,hs⟩:=argT KX ar hu ho
    exact .tup hs (dw_all KX ar ds _ hall p h2)
  | .float _,_,_,p,_=>Bool.noConfusion (show false=true from p)
  | .dict _,_,_,p,_=>Bool.noConfusion (show false=true from p)
  | .bytearray _,_,_,p,_=>Bool.noConfusion (show false=true from p)
  | .set _,_,_,p,_=>Bool.noConfusion (show false=true from p)
  | .frozenset _,_,_,p,_=>Bool.noConfusion (show false=true from p)
  | .obj _ _,_,_,p,_=>Bool.noConfusion (show false=true from p)
theorem dw_all {Pm:Params} (KX:K.In h) (ar:∀ a ∈ A,ArgOb h A a):∀ (ds:List WData) (vs:List Value),WellAll Pm h vs ds->plWs ds=true->(∀ u ∈ vs,OkU A u)->DwAll K (argH K h A) (vs.map toV) ds
  | [],_,x,_,_=>by
    cases x
    exact .nil
  | d::ds,_,x,p,hu=>by
    obtain ⟨v,vs,rfl,x1,x2⟩:=well_cons x
    have q:plW d=true/\plWs ds=true:=Bool.and_eq_true_iff.mp p
    exact .cons (dw_one KX ar d v x1 q.1 (hu _ (List.mem_cons_self ..))) (dw_all KX ar ds vs x2 q.2 fun u m=>hu u (List.mem_cons_of_mem _ m))
end
end
theorem layable_weight {ds:List WData} (h:WData.layableAll ds=true):∀ d ∈ ds,d.weight<=1048576:=fun d hd=>
  (PySem.W.layableW_iff.mp (List.all_eq_true.mp h d hd)).2.2
theorem encAll_len:∀ (cs:List Codec) (a:Codec.denoteAll cs),(Codec.encAll cs a).length=cs.length
  | [],_=>rfl
  | c::cs,a=>by
    show (Codec.encAll cs a.2).length+1=cs.length+1
    rw [encAll_len cs a.2]
end L2
end
namespace L2
open PySem PySem.Spec PyProof.Rows
open PySem.W (WData Codec OpenSpec Well WellAll ReadsW ReadsAllW)
theorem SqL.same' {K:PySem.W.Frag} {H H':Hp} {a:Addr} {xs:List V} (e:Same H H') (h:SqL K H a xs):SqL K H' a xs:=e.seq h
theorem SqT.same' {K:PySem.W.Frag} {H H':Hp} {a:Addr} {xs:List V} (e:Same H H') (h:SqT K H a xs):SqT K H' a xs:=by
  rcases h with (h | ⟨o,h⟩) | h
  · exact .inl (.inl (e _ _ h))
  · exact .inl (.inr ⟨o,e _ _ h⟩)
  · exact .inr h
mutual
theorem Dw.same {K:PySem.W.Frag} {H H':Hp} (e:Same H H'):∀ (d:WData) (v:V),Dw K H v d->Dw K H' v d
  | _,_,.non=>.non
  | _,_,.bl b=>.bl b
  | _,_,.int i=>.int i
  | _,_,.str x=>.str x
  | _,_,.byt b=>.byt b
  | _,_,.lst h a=>.lst (SqL.same' e h) (DwAll.same e _ _ a)
  | _,_,.tup h a=>.tup (SqT.same' e h) (DwAll.same e _ _ a)
theorem DwAll.same {K:PySem.W.Frag} {H H':Hp} (e:Same H H'):∀ (ds:List WData) (vs:List V),DwAll K H vs ds->DwAll K H' vs ds
  | _,_,.nil=>.nil
  | _,_,.cons h a=>.cons (Dw.same e _ _ h) (DwAll.same e _ _ a)
end
def argT_ (K:PySem.W.Frag) (h:Heap) (A:List Addr) (tabs:List (Addr × Addr)):Hp:=fun b=>if b ∈ tabs.map (·.2) then some (.tbl #[]) else argH K h A b
theorem spec_callT {P:Program} {w:World} {K:PySem.W.Frag} {mg mb:Str->Option Value} {CX:CXT} {k:Nat} {fa:Addr} {fd:FuncData} {ps:List Str} {sp:Sp} {s₁:Shared} {vals:List Value} {ds:List WData} {R:PySem.W.WRecords} {cl:Str->Option Addr} {d0:WData} {tabs:List (Addr × Addr)}
    (KX:K.In s₁.heap) (hns:s₁.heap.Ns mainGlobals mg) (hb:s₁.heap.Ns builtinsNs mb) (hbb:∀ x:Str,x ≠ "__name__"->mb x=bootBuiltins x) (hlim:s₁.heap.NoLimit) (hg:s₁.gens=#[])
    (hwl:WellAll w.params s₁.heap vals ds) (hpl:plWs ds=true) (hwt:∀ d ∈ ds,d.weight<=1048576) (hr:Room k callerA)
    (hT:PySem.W.TabsAt tabs s₁.heap) (hnT:PySem.W.noTabs K=true) (hbm:BMod s₁.heap mg)
    (F:∀ base:Heap,K.In base->base.Ns mainGlobals mg->BMod base mg->FnOk P w K mg base CX k fa fd ps sp) (hbind:∀ (s:Shared) (us:List Value),us.length=ps.length->BindsTo s fd ⟨us,[]⟩ (ps.zip us)) (hlen:ds.length=ps.length)
    (hsp:∀ (H:Hp) (xs:List V),(∀ q ∈ tabs,H q.2=some (.tbl #[]))->DwAll K H xs ds->sp xs H (fun v H'=>Dw K H' v d0) fun _ _ _=>False)
    (hCX:∀ H e s',CX [] H s₁ (fun _ _ _=>False) e s'->False):
    codeAny (model P w) callerA (.call (.ref fa) ⟨vals,[]⟩) (fun r s'=>∃ u as,r=.ok (.ret u)/\ReadsW R cl s'.heap u d0 as/\OldK s₁.heap s'.heap/\s'.os=s₁.os/\AllBare s'.gens) s₁:=by
  obtain ⟨A,ho,ar⟩:=area_all ds vals hwl hpl hwt
  have hokA:HOk P w (argH K s₁.heap A) s₁.heap:=argH_ok ar
  have hV:=vals_toV ho
  have tget:∀ b,b ∈ tabs.map (·.2)->s₁.heap.get? b=some (PySem.W.tabObj #[]):=fun b hb=>by
    obtain ⟨q,hq,rfl⟩:=List.mem_map.mp hb
    exact (hT q hq).2
  have tH:∀ b,b ∈ tabs.map (·.2)->argT_ K s₁.heap A tabs b=some (.tbl #[]):=fun b hb=>by unfold argT_;rw [if_pos hb]
  have oH:∀ b,b ∉ tabs.map (·.2)->argT_ K s₁.heap A tabs b=argH K s₁.heap A b:=fun b hb=>by unfold argT_;rw [if_neg hb]
  have noAt:∀ b u,argH K s₁.heap A b=some u->b ∉ tabs.map (·.2):=fun b u q hb=>by
    obtain ⟨_,vs,_,_,⟨e2,_⟩ | ⟨e2,_⟩⟩:=argH_is ar q
    · rw [tget b hb] at e2;cases e2
    · rw [tget b hb] at e2;cases e2
  have sA:Same (argH K s₁.heap A) (argT_ K s₁.heap A tabs):=fun b u q=>by rw [oH b (noAt b u q)];exact q
  have hS:=DwAll.same sA _ _ (dw_all KX ar ds vals hwl hpl ho)
  have hok:HOk P w (argT_ K s₁.heap A tabs) s₁.heap:=fun b u q=>by
    by_cases hb:b ∈ tabs.map (·.2)
    · rw [tH b hb] at q
      cases q
      exact tget b hb
    · rw [oH b hb] at q
      exact (hokA b u q).stay (fun _ _ _ z=>z) (fun d hd=>sA _ _ hd) fun d xs hd=>sA _ _ hd
  have hKA:∀ b u,argH K s₁.heap A b=some u->K.lookup b=none:=fun b u q=>(argH_is ar q).1
  have noA:∀ {b:Addr} {o:Obj},s₁.heap.get? b=some o->(∀ vs:List Value,o ≠ { cls:=.type "list",data:=.seq vs.toArray })->(∀ vs:List Value,o ≠ { cls:=.type "tuple",data:=.seq vs.toArray })->o ≠ PySem.W.tabObj #[]->argT_ K s₁.heap A tabs b=none:=fun {b o} e n1 n2 n3=>by
    by_cases hb:b ∈ tabs.map (·.2)
    · rw [tget b hb] at e
      cases e
      exact absurd rfl n3
    · rw [oH b hb]
      cases q:argH K s₁.heap A b with
      | none=>rfl
      | some u=>
        obtain ⟨_,vs,_,_,⟨e2,_⟩ | ⟨e2,_⟩⟩:=argH_is ar q
        · rw [e2] at e
          cases e
          exact absurd rfl (n1 vs)
        · rw [e2] at e
          cases e
          exact absurd rfl (n2 vs)
  have htabs:∀ q ∈ tabs,argT_ K s₁.heap A tabs q.2=some (.tbl #[]):=fun q hq=>tH _ (List.mem_map_of_mem hq)
  have onlyF:∀ b,b ∉ tabs.map (·.2)->argT_ K s₁.heap A tabs b=none\/∃ o u,argT_ K s₁.heap A tabs b=some (.frz o u):=fun b hb=>by
    rw [oH b hb]
    exact argH_only ar b
  have nKt:∀ b o,K.lookup b=some o->b ∉ tabs.map (·.2):=fun b o e hb=>by
    have e2:=KX b o e
    rw [tget b hb] at e2
    have h2:=List.all_eq_true.mp hnT (b,o) (PySem.W.mem_of_lookupK e)
    cases e2
    exact absurd (show false=true from h2) Bool.false_ne_true
  have nK:∀ b o,K.lookup b=some o->argT_ K s₁.heap A tabs b=none:=fun b o e=>by
    rw [oH b (nKt b o e)]
    cases q:argH K s₁.heap A b with
    | none=>rfl
    | some u=>
      rw [hKA b u q] at e
      cases e
  generalize argT_ K s₁.heap A tabs=H at *
  have base_of:∀ {b:Addr} {o:Obj},s₁.heap.get? b=some o->H b=none->(hidT s₁.heap H).get? b=some o:=fun e n=>hidT_get e n
  have dno:∀ {o:Obj} {es:Array DictEntry} {ep:Nat},o.data=.dict es ep->(∀ vs:List Value,o ≠ { cls:=.type "list",data:=.seq vs.toArray })/\(∀ vs:List Value,o ≠ { cls:=.type "tuple",data:=.seq vs.toArray })/\o ≠ PySem.W.tabObj #[]:=fun {o es ep} d=>
    ⟨fun vs z=>absurd d (by rw [z];intro q;cases q),fun vs z=>absurd d (by rw [z];intro q;cases q),fun z=>absurd d (by rw [z];intro q;cases q)⟩
  have nsK:∀ {b:Addr} {m:Str->Option Value},s₁.heap.Ns b m->(hidT s₁.heap H).Ns b m:=fun {b m} ⟨o,es,ep,e,d,r⟩=>⟨o,es,ep,base_of e (noA e (dno d).1 (dno d).2.1 (dno d).2.2),d,r⟩
  have hKb:K.In (hidT s₁.heap H):=fun b o e=>base_of (KX b o e) (nK b o e)
  have hM:Mod K mg (hidT s₁.heap H):=⟨hKb,nsK hns,⟨mb,nsK hb,hbb⟩,let ⟨mc,h1,h2⟩:=hlim;⟨mc,nsK h1,h2⟩⟩
  have hBM:BMod (hidT s₁.heap H) mg:=by
    obtain ⟨bm,ob,b1,b2,b3,b4,b5,b6⟩:=hbm
    refine ⟨bm,ob,b1,b2,base_of b3 (noA b3 (fun vs z=>by rw [z] at b6;cases b6) (fun vs z=>by rw [z] at b6;cases b6) fun z=>by rw [z] at b6;cases b6),b4,b5,b6⟩
  have e0:Env0 P w K mg (hidT s₁.heap H) callerA [] s₁ H:=⟨rfl,hM,fun b o e=>of_hidT e,Nat.le_of_eq (hidT_size _ _),trivial,fun b hb=>absurd (show b ∈ ([]:List Addr) from hb) (by simp),hok,.of_eq hg⟩
  have hl:vals.length=ps.length:=by rw [wellAll_len hwl];exact hlen
  refine codeAny_mono ((F _ hKb (nsK hns) hBM).run callerA [] s₁ H ⟨vals,[]⟩ vals (vals.map toV) _ _ hr e0 (hbind s₁ vals hl) hV (hsp H _ htabs hS)) fun r s' x=>?_
  cases r with
  | error e=>exact (hCX H e s' x).elim
  | ok fl=>
    cases fl with
    | next=>exact False.elim x
    | brk=>exact False.elim x
    | cont=>exact False.elim x
    | ret u=>
      obtain ⟨v,H',os,bare,un,hok',r',q⟩:=x
      have kept:∀ b o,b ∉ tabs.map (·.2)->s₁.heap.get? b=some o->s'.heap.get? b=some o:=fun b o nb e=>by
        rcases onlyF b nb with z | ⟨ob,u3,z⟩
        · exact un.keep b o e z (by intro z;exact absurd (show b ∈ ([]:List Addr) from z) (by simp)) (by simp)
        · have z2:=un.frzs b ob _ z
          obtain ⟨e1,_⟩:=hok b _ z
          obtain ⟨e2,_⟩:=hok' b _ z2
          rw [e] at e1
          cases e1
          exact e2
      have grown:∀ b,b ∈ tabs.map (·.2)->∃ more,s'.heap.get? b=some { cls:=.none,data:=.fields (#[]++more) }:=fun b hb=>by
        obtain ⟨more,z⟩:=un.tbls b #[] (tH b hb)
        exact ⟨more,hok' b _ z⟩
      have KX':K.In s'.heap:=fun b o e=>kept b o (nKt b o e) (KX b o e)
      obtain ⟨as,hrd⟩:=Dw.reads (R:=R) (cl:=cl) hok' KX' d0 v u q r'
      refine ⟨u,as,rfl,hrd,⟨fun b o e=>?_,fun b o e=>?_⟩,os,bare⟩
      · by_cases hb:b ∈ tabs.map (·.2)
        · obtain ⟨more,z⟩:=grown b hb
          rw [tget b hb] at e
          cases e
          obtain ⟨q,hq,rfl⟩:=List.mem_map.mp hb
          exact .inr (.inl ⟨((hT q hq).1.tab (hT q hq).2).isCodeTable,rfl,#[],more,rfl,z⟩)
        · exact .inl (kept b o hb e)
      · by_cases hb:b ∈ tabs.map (·.2)
        · obtain ⟨more,z⟩:=grown b hb
          exact ⟨_,z⟩
        · exact ⟨o,kept b o hb e⟩
theorem walk_specT {r:OpenSpec} {k:Nat} {q:Program} {loose:List Str} {XP:(Str->Option Value)->Heap->Prop} {YP:World->Heap->Prop} {d:DefRec} {K:Params->PySem.W.Frag} {CX:CXT} {ps:List Str} {sp:PySem.W.Frag->Sp} (names:List Str)
    (hwell:r.wellSaid=true) (hdf:d.params.defaults=[]) (hlen:r.args.length=ps.length) (hr:Room k callerA)
    (hY:∀ (w:World) (h:Heap),YP w h->(K w.params).In h) (hnT:∀ w:World,PySem.W.noTabs (K w.params)=true) (hrec:names.all (fun x=>((recsOf q).find? fun e=>e.name == x).isSome)=true)
    (F:∀ (w:World) (mg:Str->Option Value) (fa:Addr) (h:Heap),YP w h->(K w.params).In h->h.Ns mainGlobals mg->mg d.name=some (.ref fa)->
      ∃ fd:FuncData,(∀ (s:Shared) (us:List Value),us.length=ps.length->BindsTo s fd ⟨us,[]⟩ (ps.zip us)) ∧
        ∀ base:Heap,(K w.params).In base->base.Ns mainGlobals mg->BMod base mg->FnOk r.prog w (K w.params) mg base CX k fa fd ps (sp (K w.params)))
    (hsp:∀ (K:PySem.W.Frag) (H:Hp) (xs:List V) (a:Codec.denoteAll r.args),(∀ x c Pt,x ∈ names->PySem.W.tabIn K x=some (c,Pt)->H Pt=some (.tbl #[]))->Codec.withinAll r.args a=true->Codec.app r.args r.asked a=true->DwAll K H xs (Codec.encAll r.args a)->
      sp K xs H (fun v H'=>Dw K H' v (r.ret.enc (Codec.app r.args r.f a))) fun _ _ _=>False)
    (hCX:∀ (H:Hp) (s:Shared) (e:Value) (s':Shared),CX [] H s (fun _ _ _=>False) e s'->False):
    PySem.W.WalkOS q loose XP YP r d [] (fun f vs=>PySem.call f vs):=by
  intro w s_0 s₁ mg mb G Y fa o pm cd doc dV kV ho hd hcd hD hmg hg args vals as hpre hlay hrd hwl hlo
  obtain ⟨a,e1,e2⟩:=PySem.W.os_pre_some hpre
  obtain ⟨e3,hwi⟩:=Codec.encAll_of_decAll r.args args a e1
  subst e3
  have KX:=hY w _ Y
  obtain ⟨fd,hb,hF⟩:=F w mg fa _ Y KX G.T.g hmg
  have hT:PySem.W.TabsAt (names.filterMap fun x=>PySem.W.tabIn (K w.params) x) s₁.heap:=fun p hp=>by
    obtain ⟨x,hx,ex⟩:=List.mem_filterMap.mp hp
    obtain ⟨dr,hdr⟩:=Option.isSome_iff_exists.mp (List.all_eq_true.mp hrec x hx)
    exact PySem.W.tab_of (c:=p.1) (P:=p.2) G.T KX hdr ex
  refine PySem.W.enter_call (codeAny_mono (spec_callT (R:=[]) (cl:=classAt s_0.heap) (d0:=r.ret.enc (Codec.app r.args r.f a)) KX G.T.g G.T.b G.T.builtins G.T.nolimit hg hwl (pl_encAll _ _) (layable_weight hlay) hr hT (hnT w) G.T.bmain hF hb (by rw [encAll_len];exact hlen)
    (fun H xs hO hS=>hsp (K w.params) H xs a (fun x c Pt hx ex=>hO (c,Pt) (List.mem_filterMap.mpr ⟨x,hx,ex⟩)) hwi e2 hS) fun H e s'=>hCX H s₁ e s') fun r' s' hq=>?_)
  obtain ⟨u,as',rfl,h1,h2,h3,h4⟩:=hq
  exact ⟨.inl ⟨u,_,as',rfl,fun _=>rfl,h1,(OpenSpec.post_iff hwell hwi _ _).mpr rfl,fun z=>Bool.noConfusion (show false=true from z)⟩,h2,h3,h4⟩
end L2
namespace L2
open PySem PySem.Spec PyProof.Rows
def Dfn0 (P:Program) (w:World) (K:PySem.W.Frag) (mg:Str->Option Value) (base:Heap) (k:Nat) (x:Str) (ps:List Str) (sp:Sp):Prop:=
  ∃ f fd,FnOk P w K mg base CX0 k f fd ps sp/\mg x=some (.ref f)/\PySem.W.keepIn K (.ref f)=true/\Binds K fd ps []
theorem Dfn0.any {P:Program} {w:World} {K:PySem.W.Frag} {mg:Str->Option Value} {base:Heap} {C:Addr} {k:Nat} {x:Str} {ps:List Str} {sp:Sp} (D:Dfn0 P w K mg base k x ps sp):Dfn P w K mg base C k x ps sp:=
  let ⟨f,fd,G,r⟩:=D
  ⟨f,fd,G.anyX,r⟩
theorem pe_fn0 {X:Cx} {k:Nat} {x:Str} {ps:List Str} {sp:Sp} {p pos:Pos} {e:Expr} {es:List Expr} {t:TA} (D:Dfn0 X.prog X.w X.K X.mg X.base k x ps sp) (hr:Room k X.A) (hg:Gl X x) (ha:PA X (e::es) t) (hdb:(x == ("__debug__":Str))=false:=by decide)
    (he:starEach (e::es) X.env=(false,eval e X.env)::starEach es X.env:=by rfl) (hpl:(backTo pos (starEach es X.env)).any (·.1)=false:=by rfl):PE X (.Call (.Name x p) (e::es) [] pos) (tCall sp [] E0 t):=by
  obtain ⟨g,fd,G,hm,hk,hb⟩:=D
  exact pe_call G hr hg hm hk hb .nil pass0 ha hdb he hpl
end L2
namespace Lu
open PySem PySem.Spec PyProof.Rows L2 Lute LuR LuW LuteSong
structure Txt2 (mg:Str->Option Value):Prop where
  cTL:Cst mg "TOO_LONG" (.int (-2))
  cNS:Cst mg "NO_FIRST_TEXT" (.int (-6))
  cMB:Cst mg "MOST_BYTES" (.int 65536)
theorem tx_bytes {ns:List Int} (h:∀ z ∈ ns,0<=z/\z<=255):tx (LuSongNeutral.bytes ns)=ns.map V.int:=by
  unfold tx LuSongNeutral.bytes
  rw [List.map_map]
  refine List.map_congr_left fun z hz=>?_
  obtain ⟨h1,h2⟩:=h z hz
  show V.int ((UInt8.ofNat z.toNat).toNat:Int)=V.int z
  rw [UInt8.toNat_ofNat',Nat.mod_eq_of_lt (by omega)]
  congr 1
  omega
end Lu
namespace Lu
open PySem PySem.Spec PyProof.Rows L2 Lute LuR LuW LuteSong
def spRON (P:Program) (w:World) (K:PySem.W.Frag) (mg:Str->Option Value) (base:Heap) (C:Addr):Sp:=fun vs H Q _=>∃ (g a:Addr) (n:Nat) (sp':Sp),vs=[.ref g,.ref a]/\Clb P w K mg base C 19 H g n sp'/\sp' [.ref a] H Q fun _ _ H'=>Q .non H'
section
variable {P:Program} {w:World} {K:PySem.W.Frag} {mg:Str->Option Value} {base:Heap} {B C:Addr}
theorem scRON:FnScope ["read","text"] ["read","text"] (defScope s_read_or_none):=⟨rfl,rfl,rfl,by decide +kernel,rfl,by decide +kernel,by decide +kernel⟩
theorem ok_ron {f:Addr} {fd:FuncData} (F:Fun K "read_or_none" "read_or_none" s_read_or_none f fd) (T:Txt K mg B C):FnOk P w K mg base CX0 20 f fd ["read","text"] (spRON P w K mg base C):=by
  refine F.ok scRON (fun vs H Q E h=>?_) (fun cdv A outer s H vs Q E hr h=>?_)
  · obtain ⟨g,a,n,sp',rfl,_⟩:=h
    rfl
  · obtain ⟨g,a,n,sp',rfl,CL,hs⟩:=h
    refine ⟨_,pss_one (ps_try0 (C:=C) (E:=fun _ _ H'=>Q .non H') T.xt rfl rfl rfl rfl T.mC
        (fun pn=>pss_one (ps_ret (pe_clb (P:=P) (w:=w) (K:=K) (mg:=mg) (base:=base) (C:=C) (i:=0) (k:=19) (E:=fun _ _ H'=>Q .non H') rfl (Or.inl rfl) hr (xpass_try rfl rfl rfl) (pa_cons (pv 1) pa_nil))))
        (fun pn ea d vs sl=>pss_one (ps_ret pe_non))),?_⟩
    exact ⟨⟨g,rfl,_,rfl,n,sp',CL,hs⟩,fun d H' i hd hE=>hE⟩
end
end Lu
namespace Lu
open PySem PySem.Spec PyProof.Rows L2 Lute LuR LuW LuteSong
def gcdAll (l:List Int):Nat:=l.foldl (fun c n=>Int.gcd (c:Int) n) 0
theorem gcdAll_snoc (l:List Int) (n:Int):gcdAll (l++[n])=Int.gcd (gcdAll l:Int) n:=by
  unfold gcdAll
  rw [List.foldl_append]
  rfl
theorem gcdAll_iv (a b c e:Int) (d:Nat):gcdAll [a,b,c,e,(d:Int)]=(⟨a,b,c,e,d⟩:Iv).common:=by
  unfold gcdAll Iv.common
  simp only [List.foldl_cons,List.foldl_nil,Int.gcd,Int.natAbs_natCast,Int.natAbs_zero,Nat.gcd_zero_left]
  have:∀ p q r s t:Nat,Nat.gcd (Nat.gcd (Nat.gcd (Nat.gcd p q) r) s) t=Nat.gcd t (Nat.gcd p (Nat.gcd q (Nat.gcd r s))):=fun p q r s t=>by
    rw [Nat.gcd_comm _ t,Nat.gcd_assoc,Nat.gcd_assoc]
  first | exact this _ _ _ _ _ | simpa using this a.natAbs b.natAbs c.natAbs e.natAbs d
def spCFA (K:PySem.W.Frag):Sp:=fun vs H Q _=>∃ (a:Addr) (ns:List Int),vs=[.ref a]/\SqL K H a (ns.map V.int)/\Q (.int (gcdAll ns:Int)) H
section
variable {P:Program} {w:World} {K:PySem.W.Frag} {mg:Str->Option Value} {base:Heap} {B C:Addr}
theorem sc_cfa:FnScope ["numbers","common","number"] ["numbers"] (defScope s_common_factor_of_all):=⟨rfl,rfl,rfl,by decide +kernel,rfl,by decide +kernel,by decide +kernel⟩
theorem ok_cfa {f:Addr} {fd:FuncData} (F:Fun K "common_factor_of_all" "common_factor_of_all" s_common_factor_of_all f fd) (DG:Dfn P w K mg base C 1 "common_factor" ["a","b"] spGcdZ):FnOk P w K mg base (CXF P w C) 2 f fd ["numbers"] (spCFA K):=by
  refine F.okX sc_cfa (fun vs H Q E h=>?_) (fun cdv A outer s H vs Q E hr h=>?_)
  · obtain ⟨a,ns,rfl,_⟩:=h
    rfl
  · obtain ⟨a,ns,rfl,hS,k⟩:=h
    refine ⟨_,pss_cons (ps_set (i:=1) sc_cfa.nd rfl (Or.inl rfl) pe_int)
      (pss_cons (ps_for xown rfl (pi_list (pv 0)) (pg_name (i:=2) sc_cfa.nd rfl (Or.inl rfl)) (pss_one (ps_set (i:=1) sc_cfa.nd rfl (Or.inl rfl) (pe_fn DG hr rfl (pa_cons (pv 1) (pa_cons (pv 2) pa_nil))))))
      (pss_one (ps_ret (pv 1)))),?_⟩
    refine ⟨_,rfl,a,rfl,⟨_,hS⟩,for_list (K:=K) (a:=a) (xs:=ns.map V.int) (fun i σ H'=>∃ v:Option V,σ=[some (.ref a),some (.int (gcdAll (ns.take i):Int)),v]/\H'=H) ⟨none,rfl,rfl⟩ (fun i σ H' _ ⟨_,_,e⟩=>by rw [e];exact hS) ?_ ?_⟩
    · rintro i x σ H' hx ⟨v,rfl,rfl⟩
      rw [List.getElem?_map] at hx
      cases hn:ns[i]? with
      | none=>rw [hn] at hx;cases hx
      | some n=>
        rw [hn] at hx
        cases hx
        refine ⟨_,rfl,_,rfl,_,n,rfl,?_⟩
        refine ⟨some (.int n),?_,rfl⟩
        have e:ns.take (i+1)=ns.take i++[n]:=by rw [List.take_succ,hn];rfl
        rw [e,gcdAll_snoc]
        rfl
    · rintro σ H' ⟨v,rfl,rfl⟩
      rw [List.length_map,List.take_length]
      exact ⟨_,rfl,k⟩
end
end Lu
namespace L2
open PySem PySem.Spec PyProof.Rows
open LZ (Src)
theorem SrcV.same {K:PySem.W.Frag} {H H':Hp} {r:Src} {xs:List V} (e:Same H H') (h:SrcV K H r xs):SrcV K H' r xs:=by
  cases r with
  | lst a=>exact e.seq h
  | tup a=>exact e.tup h
  | txt x t=>exact h
theorem lc_zipG {K:PySem.W.Frag} {a b:Src} {xs ys zs:List V} {g:TG} {te:TE} {σ:List (Option V)} {vs:List Nat} {Qd:Hp->Prop} {H1:Hp} {D:Addr} (hA:SrcV K H1 a xs) (hB:SrcV K H1 b ys) (h1:ys.length=xs.length) (hl:zs.length=xs.length) (hz:zs.length<=1000) (hD:H1 D=none)
    (step:∀ (i:Nat) (x y z:V) (Hi:Hp) (T:Addr),xs[i]?=some x->ys[i]?=some y->zs[i]?=some z->Same H1 Hi->Hi T=some (.tup [x,y])->∀ (R:VK) (Z:Hp->Prop),R z Hi->g (.ref T) (wipe σ vs) Hi fun σ2 H2=>wipe σ2 vs=wipe σ vs/\tYes σ2 H2 fun b H3=>if b=true then te σ2 H3 R else Z H3)
    (hQ:∀ H',Same H1 H'->H' D=some (.lst zs)->Qd H'):
    ∃ W:Nat->Nat->Hp->Prop,(∃ m,W 0 m (upd H1 D (.lst [])))/\∀ i m H,W i m H->((ItzG K a b).stop i H/\Qd H)\/((ItzG K a b).go i H/\∃ Nx:Hp->Prop,(∀ H',Nx H'->∃ m',m' < m/\W (i+1) m' H') ∧
      ∀ x H',(ItzG K a b).yld i H x H'->g x (wipe σ vs) H' fun σ2 H2=>wipe σ2 vs=wipe σ vs/\tYes σ2 H2 fun b H3=>if b=true then te σ2 H3 fun y H4=>∃ acc,H4 D=some (.lst acc)/\acc.length < sizeLine/\Nx (upd H4 D (.lst (acc++[y]))) else Nx H3):=by
  refine ⟨fun i m H=>m=xs.length - i/\i<=xs.length/\Same H1 H/\H D=some (.lst (zs.take i)),⟨xs.length,by simp,Nat.zero_le _,fun b o h=>by rw [upd_ne (ne_of_none h hD)];exact h,upd_same⟩,?_⟩
  rintro i m H ⟨rfl,hi,sm,hd⟩
  by_cases hlt:i < xs.length
  · have hzi:zs[i]?=some (zs[i]'(by omega)):=List.getElem?_eq_getElem _
    refine .inr ⟨⟨xs,ys,xs[i],ys[i]'(by omega),hA.same sm,hB.same sm,by simp [hlt],List.getElem?_eq_getElem _⟩,fun H'=>Same H1 H'/\H' D=some (.lst (zs.take (i+1))),fun H' ⟨h1,h2⟩=>⟨xs.length - (i+1),by omega,rfl,hlt,h1,h2⟩,fun v H' yl=>?_⟩
    obtain ⟨T,x,y,rfl,hT,rfl,hx,hy⟩:=yl
    have nT:D ≠ T:=ne_of_none hd hT
    have sT:Same H1 (upd H T (.tup [x,y])):=fun b o h=>by
      rw [upd_ne (ne_of_none (sm _ _ h) hT)]
      exact sm _ _ h
    refine step i x y _ _ T (hx xs (hA.same sm)) (hy ys (hB.same sm)) hzi sT upd_same _ _ ⟨_,by rw [upd_ne nT];exact hd,?_,fun b o h=>?_,?_⟩
    · rw [List.length_take]
      exact Nat.lt_of_le_of_lt (Nat.min_le_right _ _) (small1000 hz)
    · rw [upd_ne (ne_of_none h hD)]
      exact sT _ _ h
    · rw [upd_same,List.take_add_one,hzi]
      rfl
  · have e:i=xs.length:=by omega
    subst e
    refine .inl ⟨⟨xs,ys,hA.same sm,hB.same sm,Nat.le_refl _⟩,hQ H sm ?_⟩
    rw [hd,<- hl,List.take_length]
def iZipQ (K:PySem.W.Frag) (ta:TA):TI:=iZipC (fun vs H1 R=>∃ (a b:Addr) (xs ys:List V),vs=[.ref a,.ref b]/\∃ r1 r2:Src,(r1=.lst a\/r1=.tup a)/\(r2=.lst b\/r2=.tup b)/\SrcV K H1 r1 xs/\SrcV K H1 r2 ys/\R (ItzG K r1 r2) H1) ta
theorem pi_zipQ {X:Cx} {e e2:Expr} {ta:TA} {p pos tpos:Pos} {elts:List Expr} {kk:Nat} (hg:Gl X "zip") (hm:X.mg "zip"=none) (ha:PA X [e,e2] ta)
    (hs:starEach [e,e2] X.env=(false,eval e X.env)::starEach [e2] X.env:=by rfl) (hpl:(backTo pos (starEach [e2] X.env)).any (·.1)=false:=by rfl):
    PI X (.Tuple elts kk tpos) (.Call (.Name "zip" p) [e,e2] [] pos) (iZipQ X.K ta):=
  pi_zipC (fun vs H1 R ⟨a,b,xs,ys,e,r1,r2,h1,h2,s1,s2,q⟩=>⟨_,_,e,fun u1 u2 e1 e2=>⟨r1,r2,xs,ys,(by rcases h1 with rfl | rfl <;> exact e1.symm),(by rcases h2 with rfl | rfl <;> exact e2.symm),s1,s2,q⟩⟩) hg hm ha hs hpl
end L2
namespace Lu
open PySem PySem.Spec PyProof.Rows L2 Lute LuR LuW LuteSong
def spUpon (K:PySem.W.Frag):Sp:=fun vs H Q _=>∃ (a b:Addr) (x y:Iv),vs=[.ref a,.ref b]/\(SqL K H a (ivV x)\/SqT K H a (ivV x))/\SqT K H b (ivV y)/\x.ok=true/\y.ok=true/\∀ (H':Hp) (p:Addr),Same H H'->H p=none->H' p=some (.tup (ivV (y.plus x)))->Q (.ref p) H'
section
variable {P:Program} {w:World} {K:PySem.W.Frag} {mg:Str->Option Value} {base:Heap} {B C:Addr}
theorem sl4 {K:PySem.W.Frag} {H:Hp} {a:Addr} {x:Iv} {Q:VK} (hx:SqL K H a (ivV x)\/SqT K H a (ivV x)) (h:∀ (p:Addr) (H1:Hp) (r1:LZ.Src),Same H H1->(r1=.lst p\/r1=.tup p)->SrcV K H1 r1 [.int x.a,.int x.b,.int x.c,.int x.e]->Q (.ref p) H1):
    rSlL K (.ref a) none (some 4) H Q\/rSlT K (.ref a) none (some 4) H Q:=by
  rcases hx with hx | hx
  · refine .inl ⟨a,_,rfl,hx,fun p hp=>?_⟩
    rw [cut4]
    exact h p _ (.lst p) (same_new hp) (.inl rfl) (SqL.of upd_same)
  · refine .inr ⟨a,_,rfl,hx,cut4_no x,fun p hp=>?_⟩
    rw [cut4]
    exact h p _ (.tup p) (same_new hp) (.inr rfl) (SqT.of upd_same)
theorem ix4 {K:PySem.W.Frag} {H:Hp} {a:Addr} {x:Iv} {Q:VK} (hx:SqL K H a (ivV x)\/SqT K H a (ivV x)) (h:Q (.int (x.d:Int)) H):rIx K (.ref a) (.int 4) H Q:=by
  rcases hx with hx | hx
  · exact .inl ⟨a,_,_,_,rfl,rfl,hx,at_of (j:=4) rfl rfl,h⟩
  · exact .inr (.inl ⟨a,_,_,_,rfl,rfl,hx,at_of (j:=4) rfl rfl,h⟩)
theorem either_same {K:PySem.W.Frag} {H H':Hp} {a:Addr} {xs:List V} (e:Same H H') (h:SqL K H a xs\/SqT K H a xs):SqL K H' a xs\/SqT K H' a xs:=h.imp (fun q=>e.seq q) fun q=>e.tup q
def upSum (x y:Iv):Iv:=⟨y.a * (x.d:Int)+x.a * (y.d:Int),y.b * (x.d:Int)+x.b * (y.d:Int),y.c * (x.d:Int)+x.c * (y.d:Int),y.e * (x.d:Int)+x.e * (y.d:Int),y.d * x.d⟩
theorem up_plus (x y:Iv):y.plus x=(upSum x y).low:=rfl
theorem low_V (z:Iv):[z.a / (z.common:Int),z.b / (z.common:Int),z.c / (z.common:Int),z.e / (z.common:Int),(z.d:Int) / (z.common:Int)].map V.int=ivV z.low:=by
  show [V.int _,.int _,.int _,.int _,.int _]=[V.int _,.int _,.int _,.int _,.int _]
  rw [<- Int.natCast_ediv]
  rfl
abbrev upN:List Str:=["x","y","numbers","common","a","b","number"]
theorem sc_up:FnScope upN ["x","y"] (defScope s_upon):=⟨rfl,rfl,rfl,by decide +kernel,rfl,by decide +kernel,by decide +kernel⟩
theorem boot_tuple':bootBuiltins "tuple"=some (.type "tuple"):=by decide +kernel
theorem ok_upon {f:Addr} {fd:FuncData} (F:Fun K "upon" "upon" s_upon f fd) (T:Txt K mg B C) (zt:mg "tuple"=none) (DC:Dfn P w K mg base C 2 "common_factor_of_all" ["numbers"] (spCFA K)):
    FnOk P w K mg base (CXF P w C) 3 f fd ["x","y"] (spUpon K):=by
  refine F.okX sc_up (fun vs H Q E h=>?_) (fun cdv A outer s H vs Q E hr h=>?_)
  · obtain ⟨a,b,x,y,rfl,_⟩:=h
    rfl
  · obtain ⟨a,b,x,y,rfl,hx,hy,okx,oky,kQ⟩:=h
    obtain ⟨xa,xb,xc,xe,xd1,xd2,_⟩:=ok_parts okx
    obtain ⟨ya,yb,yc,ye,yd1,yd2,_⟩:=ok_parts oky
    refine ⟨_,pss_cons (ps_setLc (i:=2) (own:=[("a",4),("b",5)]) (g:=gTup K 2 (gCons (gName 4) (gCons (gName 5) gNil))) (te:=tOp (rI0 fun i j=>.int (i+j)) (tOp (rI CMul fun i j=>.int (i * j)) (tVar 4) (tOp (rIxT K) (tVar 1) (tC (.int 4)))) (tOp (rI CMul fun i j=>.int (i * j)) (tVar 5) (tOp (rIx K) (tVar 0) (tC (.int 4))))) rfl sc_up.nd rfl rfl rfl
          (pi_zipQ (by rfl) T.zip (pa_cons (pe_slice (sl_list.or sl_tup) (pv 0) po_none (po_some pe_int)) (pa_cons (pe_slice sl_tup (pv 1) po_none (po_some pe_int)) pa_nil)))
          (show BlkOk upN (defScope s_upon) _ [("a",4),("b",5)] from ⟨rfl,by decide +kernel,by decide +kernel,by decide +kernel,by decide +kernel⟩)
          (fun _ _ _ _ _=>pg_tup rfl (pgs_cons (pg_name (i:=4) sc_up.nd rfl (Or.inl rfl)) (pgs_cons (pg_name (i:=5) sc_up.nd rfl (Or.inl rfl)) pgs_nil))) (fun _ _ _ _ _=>pts_nil)
          (fun _ _ _ _ _=>pe_op op_add (pe_op op_mul (pv 4) (pe_ix ix_tup (pv 1) pe_int (fun _ _=>rfl))) (pe_op op_mul (pv 5) (pe_ix ix_seq (pv 0) pe_int (fun _ _=>rfl)))))
      (pss_cons (ps_expr (pe_bm PySem.F.plainAttrs_list PySem.F.slot_list_append PySem.F.type_list_append mt_append (pv 2) (pa_cons (pe_op op_mul (pe_ix ix_seq (pv 0) pe_int (fun _ _=>rfl)) (pe_ix ix_tup (pv 1) pe_int (fun _ _=>rfl))) pa_nil)))
      (pss_cons (ps_set (i:=3) sc_up.nd rfl (Or.inr rfl) (pe_fn DC hr rfl (pa_cons (pv 2) pa_nil)))
      (pss_one (ps_ret (pe_callTy call_tuple_of (by rfl) zt boot_tuple' (pa_cons (pe_lc (own:=[("number",6)]) (g:=gName 6) (te:=tOp (rI CDiv fun i j=>.int (i / j)) (tVar 6) (tVar 3)) rfl sc_up.nd (pi_list (pv 2))
          (show BlkOk upN (defScope s_upon) _ [("number",6)] from ⟨rfl,by decide +kernel,by decide +kernel,by decide +kernel,by decide +kernel⟩)
          (fun _ _ _ _ _=>pg_name (i:=6) sc_up.nd rfl (Or.inl rfl)) (fun _ _ _ _ _=>pts_nil)
          (fun _ _ _ _ _=>pe_op op_fdiv (pv 6) (pv 3))) pa_nil)))))),?_⟩
    have hr4:∀ {H1:Hp},Same H H1->SqT K H1 b (ivV y):=fun sm=>sm.tup hy
    refine ⟨_,rfl,_,rfl,sl4 hx fun p H1 r1 s1 hr1 hs1=>?_⟩
    refine ⟨_,rfl,_,rfl,b,_,rfl,hr4 s1,cut4_no y,fun p2 hp2=>?_⟩
    rw [cut4]
    have s12:=same_new (o:=.tup [.int y.a,.int y.b,.int y.c,.int y.e]) hp2
    have s2:=s1.trans s12
    have nms:[x.a * (y.d:Int)+y.a * (x.d:Int),x.b * (y.d:Int)+y.b * (x.d:Int),x.c * (y.d:Int)+y.c * (x.d:Int),x.e * (y.d:Int)+y.e * (x.d:Int)]=[(upSum x y).a,(upSum x y).b,(upSum x y).c,(upSum x y).e]:=by
      unfold upSum
      simp only [Int.add_comm]
    refine ⟨p,p2,_,_,rfl,r1,.tup p2,hr1,.inr rfl,hs1.same s12,SqT.of upd_same,fun D hD=>lc_zipG (K:=K) (xs:=[.int x.a,.int x.b,.int x.c,.int x.e]) (ys:=[.int y.a,.int y.b,.int y.c,.int y.e]) (zs:=[(upSum x y).a,(upSum x y).b,(upSum x y).c,(upSum x y).e].map V.int) (hs1.same s12) (SqT.of upd_same) rfl rfl (by show 4<=1000;decide) hD ?_ ?_⟩
    · intro i u v z Hi TT hu hv hz sHi hT R Z hR
      obtain ⟨n,m,rfl,rfl,rfl,hn,hm⟩:∃ n m:Int,u=.int n/\v=.int m/\z=.int (n * (y.d:Int)+m * (x.d:Int))/\(-99<=n/\n<=99)/\(-99<=m/\m<=99):=by
        rw [<- nms] at hz
        match i,hu,hv,hz with
        | 0,hu,hv,hz=>cases hu;cases hv;cases hz;exact ⟨_,_,rfl,rfl,rfl,xa,ya⟩
        | 1,hu,hv,hz=>cases hu;cases hv;cases hz;exact ⟨_,_,rfl,rfl,rfl,xb,yb⟩
        | 2,hu,hv,hz=>cases hu;cases hv;cases hz;exact ⟨_,_,rfl,rfl,rfl,xc,yc⟩
        | 3,hu,hv,hz=>cases hu;cases hv;cases hz;exact ⟨_,_,rfl,rfl,rfl,xe,ye⟩
        | i+4,hu,_,_=>simp at hu
      have sI:=s2.trans sHi
      refine ⟨TT,_,rfl,SqT.of hT,rfl,_,_,rfl,_,_,rfl,rfl,rfl,?_⟩
      refine ⟨_,rfl,_,rfl,b,_,_,_,rfl,rfl,hr4 sI,at_of (j:=4) rfl rfl,_,_,rfl,rfl,.inl ⟨by omega,by omega⟩,?_⟩
      exact ⟨_,rfl,_,rfl,ix4 (either_same sI hx) ⟨_,_,rfl,rfl,.inl ⟨by omega,by omega⟩,_,_,rfl,rfl,hR⟩⟩
    · intro H2 sm2 hd
      have s3:=s2.trans sm2
      have dD:H D=none:=by
        cases q:H D with
        | none=>rfl
        | some o=>rw [s2 _ _ q] at hD;cases hD
      refine ⟨_,rfl,.inl ⟨rfl,_,SqL.of hd⟩,?_⟩
      refine ⟨_,rfl,ix4 (either_same s3 hx) ⟨_,rfl,b,_,_,_,rfl,rfl,hr4 s3,at_of (j:=4) rfl rfl,_,_,rfl,rfl,.inl ⟨by omega,by omega⟩,?_⟩⟩
      refine ⟨D,_,_,rfl,rfl,hd,(by show 4 < sizeLine;decide),?_⟩
      have e5:([(upSum x y).a,(upSum x y).b,(upSum x y).c,(upSum x y).e].map V.int++[V.int ((x.d:Int) * (y.d:Int))])=[(upSum x y).a,(upSum x y).b,(upSum x y).c,(upSum x y).e,((upSum x y).d:Int)].map V.int:=by
        show _=[V.int _,.int _,.int _,.int _,.int ((y.d * x.d:Nat):Int)]
        rw [Int.natCast_mul,Int.mul_comm (y.d:Int)]
        rfl
      rw [e5]
      generalize hH3:upd H2 D (.lst ([(upSum x y).a,(upSum x y).b,(upSum x y).c,(upSum x y).e,((upSum x y).d:Int)].map V.int))=H3
      have hd3:H3 D=some (.lst ([(upSum x y).a,(upSum x y).b,(upSum x y).c,(upSum x y).e,((upSum x y).d:Int)].map V.int)):=by rw [<- hH3];exact upd_same
      have s3':Same H H3:=fun c o hc=>by
        rw [<- hH3,upd_ne (ne_of_none hc dD)]
        exact s3 _ _ hc
      refine ⟨_,rfl,D,_,rfl,SqL.of hd3,?_⟩
      rw [gcdAll_iv]
      have eU:(⟨(upSum x y).a,(upSum x y).b,(upSum x y).c,(upSum x y).e,(upSum x y).d⟩:Iv)=upSum x y:=rfl
      rw [eU]
      have c1:=(common_dvd (upSum x y)).1
      have dpos:0 < (upSum x y).d:=Nat.mul_pos yd1 xd1
      have cpos:0 < (upSum x y).common:=Nat.pos_of_dvd_of_pos c1 dpos
      have cle:(upSum x y).common<=576:=Nat.le_trans (Nat.le_of_dvd dpos c1) (Nat.le_trans (Nat.mul_le_mul yd2 xd2) (by decide))
      refine ⟨_,rfl,D,rfl,⟨_,SqL.of hd3⟩,fun D2 hD2=>lc_list (K:=K) (a:=D) (xs:=[(upSum x y).a,(upSum x y).b,(upSum x y).c,(upSum x y).e,((upSum x y).d:Int)].map V.int) (fun i H'=>Same H3 H'/\H' D2=some (.lst ((([(upSum x y).a / ((upSum x y).common:Int),(upSum x y).b / ((upSum x y).common:Int),(upSum x y).c / ((upSum x y).common:Int),(upSum x y).e / ((upSum x y).common:Int),((upSum x y).d:Int) / ((upSum x y).common:Int)]).map V.int).take i))) ⟨same_new hD2,upd_same⟩ (fun i H' _ q=>SqL.of (q.1 _ _ hd3)) ?_ ?_⟩
      · rintro i v H' hv ⟨sm4,hd4⟩
        obtain ⟨n,rfl,hn⟩:∃ n:Int,v=.int n/\(([(upSum x y).a / ((upSum x y).common:Int),(upSum x y).b / ((upSum x y).common:Int),(upSum x y).c / ((upSum x y).common:Int),(upSum x y).e / ((upSum x y).common:Int),((upSum x y).d:Int) / ((upSum x y).common:Int)]).map V.int)[i]?=some (.int (n / ((upSum x y).common:Int))):=by
          match i,hv with
          | 0,hv=>cases hv;exact ⟨_,rfl,rfl⟩
          | 1,hv=>cases hv;exact ⟨_,rfl,rfl⟩
          | 2,hv=>cases hv;exact ⟨_,rfl,rfl⟩
          | 3,hv=>cases hv;exact ⟨_,rfl,rfl⟩
          | 4,hv=>cases hv;exact ⟨_,rfl,rfl⟩
          | i+5,hv=>simp at hv
        refine ⟨rfl,_,rfl,_,rfl,_,_,rfl,rfl,⟨by omega,by omega⟩,_,hd4,?_,fun c o hc=>?_,?_⟩
        · rw [List.length_take]
          exact Nat.lt_of_le_of_lt (Nat.min_le_right _ _) (by show 5 < sizeLine;decide)
        · rw [upd_ne (ne_of_none hc hD2)]
          exact sm4 _ _ hc
        · rw [upd_same,List.take_add_one,hn]
          rfl
      · rintro H' ⟨sm4,hd4⟩
        have s5:=s3'.trans sm4
        refine ⟨D2,_,rfl,.inl ⟨SqL.of hd4,fun l hl=>?_⟩⟩
        have nl:H l=none:=by
          cases q:H l with
          | none=>rfl
          | some o=>rw [s5 _ _ q] at hl;cases hl
        refine kQ _ l (s5.trans (same_new hl)) nl ?_
        rw [upd_same,up_plus,<- low_V]
        rfl
end
end Lu
namespace Lu
open PySem PySem.Spec PyProof.Rows L2 Lute LuR LuW LuI
def ErrA (C:Addr) (E:XK):Prop:=∀ x:Nat,Err C E x
structure TxI (K:PySem.W.Frag) (mg:Str->Option Value):Prop where
  cMLD:Cst mg "MOST_LENGTH_DIGITS" (.int 7)
  cLL:Cst mg "LEAST_LENGTH" (.int 10000)
  cMLG:Cst mg "MOST_LENGTH" (.int 200000)
  cMF:Cst mg "MOST_FRETS" (.int 15)
  cMC:Cst mg "MOST_COURSES" (.int 14)
  cSC:Cst mg "STOPPED_COURSES" (.int 6)
  cLB:Cst mg "LETTER_B" (.int 98)
  cLC:Cst mg "LETTER_C" (.int 99)
  cLF:Cst mg "LETTER_F" (.int 102)
  uni:∃ a,Cst mg "UNISON" (.ref a)/\∀ H,SqT K H a (ivV unison)
theorem lnT_take (t:Bytes):t.take (lnT t).length=lnT t:=by
  unfold lnT
  have h:=congrArg (List.take (t.takeWhile fun c:UInt8=>c != 10).length) (List.takeWhile_append_dropWhile (p:=fun c:UInt8=>c != 10) (l:=t))
  rw [List.take_left] at h
  exact h.symm
theorem lnT_cons {c:UInt8} {r:Bytes} (h:c ≠ 10):lnT (c::r)=c::lnT r:=by
  unfold lnT
  rw [List.takeWhile_cons,if_pos (bne_iff_ne.mpr h)]
theorem lnT_ten {r:Bytes}:lnT (10::r)=[]:=by
  unfold lnT
  rw [List.takeWhile_cons,if_neg (by decide)]
theorem inV2 (h:Int):inV (.int h) [.int 10,.int (-1)]=(decide (h=10) || decide (h=-1)):=by
  unfold inV
  simp only [List.any_cons,List.any_nil,Bool.or_false,eqV]
  rw [Bool.eq_iff_iff]
  simp only [Bool.or_eq_true,beq_iff_eq,decide_eq_true_eq]
  omega
def spLn (K:PySem.W.Frag) (B C:Addr):Sp:=fun vs H Q E=>∃ (c a:Addr) (t:Bytes) (p e:Nat),vs=[.ref c]/\Cur K B H c a t p e ∧
  match readAt p (lnT (st t p e)) with
  | .error x=>Err C E x
  | .ok x=>∀ (H':Hp) (b:Addr),Cur K B H' c a t (p+(lnT (st t p e)).length) e->Keep H H' c->H' b=some (.tup (ivV x))->x.ok=true->Q (.ref b) H'
def spBL (K:PySem.W.Frag) (B C:Addr):Sp:=fun vs H Q E=>∃ (c a:Addr) (t:Bytes) (p e:Nat) (x:Str) (l:Bytes) (n k:Int),vs=[.ref c,.str x,.int n,.int k]/\Wd x l/\Cur K B H c a t p e/\(n=k->ErrA C E) ∧
  (∀ y,LuteTab.want (l++[32]) p (st t p e)=.error y->ErrA C E) ∧
  ∀ q u,n ≠ k->LuteTab.want (l++[32]) p (st t p e)=.ok ((),q,u)->∀ H':Hp,Cur K B H' c a t q e->Keep H H' c->u=st t q e->Q .non H'
def spSL (K:PySem.W.Frag) (B C:Addr):Sp:=fun vs H Q E=>∃ (c a:Addr) (t:Bytes),vs=[.ref c]/\Cur K B H c a t 0 t.length ∧
  (∀ y,firstR t=.error y->ErrA C E)/\∀ n q u,firstR t=.ok (n,q,u)->∀ H':Hp,Cur K B H' c a t q t.length->Keep H H' c->u=st t q t.length->Q .non H'
def goL7 (k n pos:Nat) (r:Bytes):Rd Nat:=if k=0 then longNumber pos r else moreDigits (7 - k) n pos r
theorem goL7_full {n pos:Nat} {b:UInt8} {r:Bytes} (b1:48<=b.toNat) (b2:b.toNat<=57):goL7 7 n pos (b::r)=.error pos:=by
  unfold goL7
  rw [if_neg (by decide)]
  show moreDigits 0 n pos (b::r)=_
  unfold moreDigits
  rw [dig_some b1 b2]
theorem goL7_step {k n pos:Nat} {b:UInt8} {r:Bytes} (b1:48<=b.toNat) (b2:b.toNat<=57) (hk:k < 7) (h0:k=0->n=0/\b ≠ 48):goL7 k n pos (b::r)=goL7 (k+1) (n * 10+(b.toNat - 48)) (pos+1) r:=by
  unfold goL7
  rw [if_neg (Nat.succ_ne_zero k)]
  by_cases k0:k=0
  · obtain ⟨n0,hb⟩:=h0 k0
    rw [if_pos k0,k0,n0]
    unfold longNumber
    dsimp only
    rw [dig_some b1 b2]
    have:b.toNat ≠ 48:=fun z=>hb (UInt8.toNat_inj.mp z)
    obtain ⟨m,hm⟩:∃ m,b.toNat - 48=m+1:=⟨b.toNat - 49,by omega⟩
    rw [hm]
    show moreDigits 6 (m+1) (pos+1) r=moreDigits 6 (0 * 10+(m+1)) (pos+1) r
    rw [show 0 * 10+(m+1)=m+1 by omega]
  · rw [if_neg k0]
    obtain ⟨f,hf⟩:∃ f,7 - k=f+1:=⟨6 - k,by omega⟩
    rw [hf]
    conv=>lhs;unfold moreDigits
    rw [dig_some b1 b2]
    show moreDigits f (10 * n+(b.toNat - 48)) (pos+1) r=_
    rw [Nat.mul_comm 10 n,show 7 - (k+1)=f by omega]
theorem goL7_end {k n pos:Nat} {r:Bytes} (h:∀ c u,r=c::u->¬ (48<=c.toNat/\c.toNat<=57)):goL7 k n pos r=if k=0 then .error pos else .ok (n,pos,r):=by
  unfold goL7
  by_cases k0:k=0
  · rw [if_pos k0,if_pos k0]
    cases r with
    | nil=>rfl
    | cons c u=>
      unfold longNumber
      dsimp only
      rw [dig_none (h c u rfl)]
  · rw [if_neg k0,if_neg k0]
    cases r with
    | nil=>unfold moreDigits;rfl
    | cons c u=>
      unfold moreDigits
      rw [dig_none (h c u rfl)]
section
variable {P:Program} {w:World} {K:PySem.W.Frag} {mg:Str->Option Value} {base:Heap} {B C:Addr}
theorem scLn:FnScope ["cursor","start"] ["cursor"] (defScope s_read_line_interval):=⟨rfl,rfl,rfl,by decide +kernel,rfl,by decide +kernel,by decide +kernel⟩
theorem ok_lin {f:Addr} {fd:FuncData} (F:Fun K "read_line_interval" "read_line_interval" s_read_line_interval f fd) (T:Txt K mg B C) (M:Crs P w K mg base B C) (DV:Dfn P w K mg base C 7 "read_interval" ["text","start","end"] (spInterval K C)):
    FnOk P w K mg base (CXF P w C) 8 f fd ["cursor"] (spLn K B C):=by
  refine F.okX scLn (fun vs H Q E h=>?_) (fun cdv A outer s H vs Q E hr h=>?_)
  · obtain ⟨c,a,t,p,e,rfl,_⟩:=h
    rfl
  · obtain ⟨c,a,t,p,e,rfl,u,k⟩:=h
    obtain ⟨dx,hc⟩:=u.at_
    have hr1:=hr.mono (show 1<=7 by decide)
    refine ⟨_,pss_cons (ps_set (i:=1) scLn.nd rfl (Or.inl rfl) (pe_fld (pv 0) rfl))
      (pss_cons (ps_while xown (pt_cmpR op_notIn_seq (pe_mt0 M.byte hr1 (pv 0)) (pe_tup (pa_cons (pe_cst T.cNL) (pa_cons (pe_cst T.cEND) pa_nil))) (by with_unfolding_all rfl)) (pss_one (ps_expr (pe_mt0 M.adv hr1 (pv 0)))))
      (pss_one (ps_ret (pe_fn DV hr rfl (pa_cons (pe_fld (pv 0) rfl) (pa_cons (pv 1) (pa_cons (pe_fld (pv 0) rfl) pa_nil))))))),?_⟩
    refine ⟨_,rfl,c,B,dx,_,_,rfl,hc,T.cl,T.nP,cf_place _ _ _,?_⟩
    refine ⟨fun m σ H'=>∃ (pos:Nat),m=e - pos/\σ=[some (.ref c),some (.int (p:Int))]/\Cur K B H' c a t pos e/\Keep H H' c/\p<=pos/\(lnT (st t p e)).length=pos - p+(lnT (st t pos e)).length,
      ⟨_,p,rfl,rfl,u,Keep.refl _ _,Nat.le_refl _,by omega⟩,?_⟩
    rintro m σ H1 ⟨pos,rfl,rfl,u1,kp,hpp,inv⟩
    obtain ⟨dx1,hc1⟩:=u1.at_
    refine ⟨_,rfl,c,dx1,_,rfl,hc1,cf_no _ _ _ (by decide) (by decide) (by decide),c,a,t,pos,e,rfl,u1,(by show 2<=sizeLine;decide),fun b hb=>?_⟩
    have s2:Same H1 (upd H1 b (.tup [.int 10,.int (-1)])):=same_new hb
    have u2:=u1.same s2
    have hc2:=s2 _ _ hc1
    refine ⟨b,_,rfl,.inr (SqT.of upd_same),rfl,rfl,_,rfl,?_⟩
    show if (!inV (.int (headI (st t pos e))) [.int 10,.int (-1)])=true then _ else _
    rw [inV2]
    refine ite2 (fun h=>?_) fun h=>?_
    · rw [Bool.not_eq_true',Bool.or_eq_false_iff,decide_eq_false_iff_not,decide_eq_false_iff_not] at h
      obtain ⟨z,r,hz⟩:=headI_more h.2
      have hst:=st_next hz
      have hlt:=st_lt u1.len hz
      rw [hz] at h inv
      have z2:z ≠ 10:=fun q=>h.1 (by rw [q];rfl)
      rw [lnT_cons z2,List.length_cons] at inv
      refine ⟨fun σ' H'=>σ'=[some (.ref c),some (.int (p:Int))]/\Cur K B H' c a t (pos+1) e/\Keep H H' c,?_,?_⟩
      · rintro σ' H' ⟨rfl,u',kp'⟩
        exact ⟨_,by omega,pos+1,rfl,rfl,u',kp',by omega,by rw [hst];omega⟩
      · refine ⟨_,rfl,c,dx1,_,rfl,hc2,cf_no _ _ _ (by decide) (by decide) (by decide),c,dx1,a,pos,e,rfl,hc2,fun H3 h3 k3=>?_⟩
        exact ⟨rfl,u2.move k3 ⟨dx1,h3⟩ hlt,(kp.trans (Keep.of s2)).trans k3⟩
    · have h':headI (st t pos e)=10\/headI (st t pos e)=-1:=by
        by_cases q:headI (st t pos e)=10\/headI (st t pos e)=-1
        · exact q
        · refine absurd ?_ h
          rw [Bool.not_eq_true',Bool.or_eq_false_iff,decide_eq_false_iff_not,decide_eq_false_iff_not]
          exact ⟨fun z=>q (.inl z),fun z=>q (.inr z)⟩
      have hnil:lnT (st t pos e)=[]:=by
        rcases h' with q | q
        · obtain ⟨r,hr0⟩:=headI_cons (z:=10) q
          rw [hr0]
          exact lnT_ten
        · rw [headI_end q]
          rfl
      rw [hnil] at inv
      have hl:(lnT (st t p e)).length=pos - p:=by simpa using inv
      have en:st t p pos=lnT (st t p e):=by rw [<- lnT_take,hl,st_take u1.le]
      refine ⟨_,rfl,c,B,dx1,_,_,rfl,hc2,T.cl,T.nT,cf_text _ _ _,_,rfl,_,rfl,c,B,dx1,_,_,rfl,hc2,T.cl,T.nP,cf_place _ _ _,a,t,p,pos,rfl,u2.txt,hpp,Nat.le_trans u1.le u1.len,?_⟩
      rw [en]
      cases hR:readAt p (lnT (st t p e)) with
      | error x=>rw [hR] at k;exact k
      | ok x=>
        rw [hR] at k
        intro H' b' s' hb' hok
        refine k H' b' ?_ ((kp.trans (Keep.of s2)).trans (Keep.of s')) hb' hok
        rw [show p+(lnT (st t p e)).length=pos by omega]
        exact u2.same s'
theorem scBL:FnScope ["cursor","word","lines_before","most","start"] ["cursor","word","lines_before","most"] (defScope s_begin_line):=⟨rfl,rfl,rfl,by decide +kernel,rfl,by decide +kernel,by decide +kernel⟩
theorem ok_bl {f:Addr} {fd:FuncData} (F:Fun K "begin_line" "begin_line" s_begin_line f fd) (T:Txt K mg B C) (MT:Mth P w K mg base C B 3 "take" ["self","wanted"] (spTake K B C)) (MW:Mth P w K mg base C B 4 "take_word" ["self","word"] (spWord K B C)):
    FnOk P w K mg base (CXF P w C) 5 f fd ["cursor","word","lines_before","most"] (spBL K B C):=by
  refine F.okX scBL (fun vs H Q E h=>?_) (fun cdv A outer s H vs Q E hr h=>?_)
  · obtain ⟨c,a,t,p,e,x,l,n,k,rfl,_⟩:=h
    rfl
  · obtain ⟨c,a,t,p,e,x,l,n,k,rfl,hw,u,kF,kE,kQ⟩:=h
    obtain ⟨dx,hc⟩:=u.at_
    have hr2:=hr.mono (show 2<=4 by decide)
    have hr3:=hr.mono (show 3<=4 by decide)
    refine ⟨_,pss_cons (ps_set (i:=4) scBL.nd rfl (Or.inl rfl) (pe_fld (pv 0) rfl))
      (pss_cons (ps_expr (pe_mt MW hr (pv 0) (pa_cons (pv 1) pa_nil)))
      (pss_cons (ps_if (pt_cmpR op_eq (pv 2) (pv 3) (nomark _)) (pss_one (ps_raise T.xt hr2 rfl T.mC (pv 4))) pss_nil)
      (pss_one (ps_expr (pe_mt MT hr3 (pv 0) (pa_cons (pe_cst T.cBI) pa_nil)))))),?_⟩
    refine ⟨_,rfl,c,B,dx,_,_,rfl,hc,T.cl,T.nP,cf_place _ _ _,?_⟩
    refine ⟨_,rfl,c,dx,_,rfl,hc,cf_no _ _ _ (by decide) (by decide) (by decide),_,rfl,c,a,t,p,e,x,l,rfl,hw,u,fun y hy=>kE y (want_err hy) y,fun q v hq H2 u2 k2 hv=>?_⟩
    refine ⟨_,rfl,_,rfl,rfl,_,rfl,?_⟩
    rw [dint]
    refine ite2 (fun h=>?_) fun h=>?_
    · have h':n=k:=of_decide_eq_true h
      exact ⟨_,rfl,_,rfl,fun d hd=>kF h' p _ d upd_same⟩
    · have h':¬ n=k:=fun z=>h (decide_eq_true z)
      obtain ⟨dx2,hc2⟩:=u2.at_
      have hj:=want_ok (m:=[32]) hq
      rw [want_step] at hj
      subst hv
      refine ⟨_,rfl,c,dx2,_,rfl,hc2,cf_no _ _ _ (by decide) (by decide) (by decide),c,a,t,q,e,32,rfl,u2,fun hB=>?_,fun hB=>?_⟩
      · intro H3 u3 k3
        rw [if_pos hB,st_drop] at hj
        exact kQ _ _ h' hj H3 u3 (k2.trans k3) rfl
      · rw [if_neg hB] at hj
        exact kE _ hj _
theorem scSL:FnScope ["cursor","start","number"] ["cursor"] (defScope s_read_string_length):=⟨rfl,rfl,rfl,by decide +kernel,rfl,by decide +kernel,by decide +kernel⟩
theorem ok_sl {f:Addr} {fd:FuncData} (F:Fun K "read_string_length" "read_string_length" s_read_string_length f fd) (T:Txt K mg B C) (TI:TxI K mg) (M:Crs P w K mg base B C) (MT:Mth P w K mg base C B 3 "take" ["self","wanted"] (spTake K B C)) (MW:Mth P w K mg base C B 4 "take_word" ["self","word"] (spWord K B C)):
    FnOk P w K mg base (CXF P w C) 5 f fd ["cursor"] (spSL K B C):=by
  refine F.okX scSL (fun vs H Q E h=>?_) (fun cdv A outer s H vs Q E hr h=>?_)
  · obtain ⟨c,a,t,rfl,_⟩:=h
    rfl
  · obtain ⟨c,a,t,rfl,u,kE,kQ⟩:=h
    obtain ⟨dx,hc⟩:=u.at_
    have hr1:=hr.mono (show 1<=4 by decide)
    have hr2:=hr.mono (show 2<=4 by decide)
    have hr3:=hr.mono (show 3<=4 by decide)
    refine ⟨_,pss_cons (ps_expr (pe_mt MW hr (pv 0) (pa_cons pe_str pa_nil)))
      (pss_cons (ps_set (i:=1) scSL.nd rfl (Or.inl rfl) (pe_fld (pv 0) rfl))
      (pss_cons (ps_if (pt_cmpR op_eq (pe_mt0 M.byte hr1 (pv 0)) (pe_cst T.cZERO) (nomark _)) (pss_one (ps_raise T.xt hr2 rfl T.mC (pv 1))) pss_nil)
      (pss_cons (ps_set (i:=2) scSL.nd rfl (Or.inl rfl) pe_int)
      (pss_cons (ps_while xown (pt_chain op_le op_le (pe_cst T.cZERO) (pe_mt0 M.byte hr1 (pv 0)) (pe_cst T.cNINE))
        (pss_cons (ps_if (pt_cmpR op_eq (pe_op op_sub (pe_fld (pv 0) rfl) (pv 1)) (pe_cst TI.cMLD) (nomark _)) (pss_one (ps_raise T.xt hr2 rfl T.mC (pe_fld (pv 0) rfl))) pss_nil)
        (pss_cons (ps_set (i:=2) scSL.nd rfl (Or.inl rfl) (pe_op op_sub (pe_op op_add (pe_op op_mul (pv 2) pe_int) (pe_mt0 M.byte hr1 (pv 0))) (pe_cst T.cZERO)))
        (pss_one (ps_expr (pe_mt0 M.adv hr1 (pv 0)))))))
      (pss_cons (ps_if (pt_not (pt_chain op_le op_le (pe_cst TI.cLL) (pv 2) (pe_cst TI.cMLG))) (pss_one (ps_raise T.xt hr2 rfl T.mC (pv 1))) pss_nil)
      (pss_one (ps_expr (pe_mt MT hr3 (pv 0) (pa_cons (pe_cst T.cNL) pa_nil))))))))),?_⟩
    refine ⟨_,rfl,c,dx,_,rfl,hc,cf_no _ _ _ (by decide) (by decide) (by decide),c,a,t,0,t.length,"length ",wL,rfl,(by unfold Wd;decide +kernel),u,fun y hy=>?_,fun q v hq H2 u2 k2 hv=>?_⟩
    · rw [st_whole,List.drop_zero] at hy
      refine kE y ?_ y
      unfold firstR
      rw [hy]
    · rw [st_whole,List.drop_zero] at hq
      subst hv
      have eR:firstR t=numR q (st t q t.length):=by
        unfold firstR
        rw [hq]
      rw [eR] at kE kQ
      clear eR
      obtain ⟨dx2,hc2⟩:=u2.at_
      refine ⟨_,rfl,c,B,dx2,_,_,rfl,hc2,T.cl,T.nP,cf_place _ _ _,?_⟩
      refine ⟨_,rfl,c,dx2,_,rfl,hc2,cf_no _ _ _ (by decide) (by decide) (by decide),c,a,t,q,t.length,rfl,u2,rfl,_,rfl,?_⟩
      rw [dint]
      refine ite2 (fun h=>?_) fun h=>?_
      · have h':headI (st t q t.length)=((48:UInt8).toNat:Int):=of_decide_eq_true h
        obtain ⟨r,hr0⟩:=headI_cons h'
        refine ⟨_,rfl,_,rfl,fun d hd=>kE q ?_ q _ d upd_same⟩
        rw [hr0]
        rfl
      · have h48:¬ headI (st t q t.length)=((48:UInt8).toNat:Int):=fun z=>h (decide_eq_true z)
        refine ⟨fun m σ H'=>∃ (pos n:Nat),m=t.length - pos/\σ=[some (.ref c),some (.int (q:Int)),some (.int (n:Int))]/\Cur K B H' c a t pos t.length/\Keep H H' c/\q<=pos/\pos - q<=7/\(pos - q=0->n=0)/\longNumber q (st t q t.length)=goL7 (pos - q) n pos (st t pos t.length),
          ⟨_,q,0,rfl,rfl,u2,k2,Nat.le_refl _,by omega,fun _=>rfl,by rw [Nat.sub_self];rfl⟩,?_⟩
        rintro m σ H3 ⟨pos,n,rfl,rfl,u3,k3,hpp,h7,h0,inv⟩
        obtain ⟨dx3,hc3⟩:=u3.at_
        refine ⟨_,rfl,c,dx3,_,rfl,hc3,cf_no _ _ _ (by decide) (by decide) (by decide),c,a,t,pos,t.length,rfl,u3,_,_,rfl,rfl,_,rfl,?_⟩
        by_cases hdig:48<=headI (st t pos t.length)/\headI (st t pos t.length)<=57
        · refine ite2 (fun _=>?_) fun z=>absurd (decide_eq_true hdig.1) z
          refine ⟨_,_,rfl,rfl,_,rfl,ite2 (fun _=>?_) fun z=>absurd (decide_eq_true hdig.2) z⟩
          obtain ⟨b,r,hr0,b1,b2⟩:=headI_dig hdig.1 hdig.2
          have hst:=st_next hr0
          have hlt:=st_lt u3.len hr0
          refine ⟨fun σ' H'=>∃ (n':Nat),σ'=[some (.ref c),some (.int (q:Int)),some (.int (n':Int))]/\Cur K B H' c a t (pos+1) t.length/\Keep H H' c/\pos+1 - q<=7/\longNumber q (st t q t.length)=goL7 (pos+1 - q) n' (pos+1) (st t (pos+1) t.length),?_,?_⟩
          · rintro σ' H' ⟨n',rfl,u',kp',hk',inv'⟩
            exact ⟨t.length - (pos+1),by omega,pos+1,n',rfl,rfl,u',kp',by omega,hk',by omega,inv'⟩
          · refine ⟨_,rfl,c,B,dx3,_,_,rfl,hc3,T.cl,T.nP,cf_place _ _ _,_,rfl,_,_,rfl,rfl,rfl,_,rfl,?_⟩
            rw [dint]
            refine ite2 (fun h=>?_) fun h=>?_
            · have h':(pos:Int) - (q:Int)=7:=of_decide_eq_true h
              rw [hr0,show pos - q=7 by omega,goL7_full b1 b2] at inv
              refine ⟨_,rfl,c,B,dx3,_,_,rfl,hc3,T.cl,T.nP,cf_place _ _ _,_,rfl,fun d hd=>kE pos ?_ pos _ d upd_same⟩
              unfold numR
              rw [inv]
            · have h':¬ (pos:Int) - (q:Int)=7:=fun z=>h (decide_eq_true z)
              have k0:pos - q=0->n=0/\b ≠ 48:=fun z=>⟨h0 z,fun zz=>by
                have e1:pos=q:=by omega
                rw [<- e1,hr0,zz] at h48
                exact h48 rfl⟩
              rw [hr0,goL7_step b1 b2 (by omega) k0] at inv
              refine ⟨_,rfl,_,_,rfl,rfl,.inr ⟨by decide,by decide⟩,_,rfl,c,dx3,_,rfl,hc3,cf_no _ _ _ (by decide) (by decide) (by decide),c,a,t,pos,t.length,rfl,u3,_,_,rfl,rfl,_,_,rfl,rfl,?_⟩
              refine ⟨_,rfl,c,dx3,_,rfl,hc3,cf_no _ _ _ (by decide) (by decide) (by decide),c,dx3,a,pos,t.length,rfl,hc3,fun H4 h4 k4=>?_⟩
              refine ⟨n * 10+(b.toNat - 48),?_,u3.move k4 ⟨dx3,h4⟩ hlt,k3.trans k4,by omega,?_⟩
              · rw [hr0]
                show _=[some (V.ref c),some (V.int (q:Int)),some (V.int ((n * 10+(b.toNat - 48):Nat):Int))]
                have:(n:Int) * 10+(b.toNat:Int) - 48=((n * 10+(b.toNat - 48):Nat):Int):=by omega
                rw [<- this]
                rfl
              · rw [hst,show pos+1 - q=pos - q+1 by omega]
                exact inv
        · have inv2:=inv.trans (goL7_end (headI_nodig hdig))
          have eN:(pos - q=0\/n < 10000\/200000 < n)->∃ x,numR q (st t q t.length)=.error x:=fun z=>by
            unfold numR
            by_cases k0:pos - q=0
            · rw [inv2,if_pos k0]
              exact ⟨_,rfl⟩
            · rw [inv2,if_neg k0]
              dsimp only
              rw [if_pos (z.resolve_left k0)]
              exact ⟨_,rfl⟩
          have fin:∀ (hh:¬ (n < 10000\/200000 < n)) (kk:¬ pos - q=0),numR q (st t q t.length)=match LuteTab.want [10] pos (st t pos t.length) with
              | .error e=>.error e
              | .ok (_,q,v)=>.ok (n,q,v):=fun hh kk=>by
            unfold numR
            rw [inv2,if_neg kk]
            dsimp only
            rw [if_neg hh]
            all_goals (cases LuteTab.want [10] pos (st t pos t.length) <;> rfl)
          refine ite2 (fun _=>?_) fun _=>?_
          · refine ⟨_,_,rfl,rfl,_,rfl,ite2 (fun z=>?_) fun _=>?_⟩
            · rename_i hA
              exact absurd ⟨of_decide_eq_true hA,of_decide_eq_true z⟩ hdig
            · refine ⟨_,rfl,_,_,rfl,rfl,_,rfl,?_⟩
              refine ite2 (fun hA=>?_) fun hA=>?_
              · refine ⟨_,_,rfl,rfl,_,rfl,?_⟩
                refine ite2 (fun hB=>?_) fun hB=>?_
                · have hB':¬ (n:Int)<=200000:=fun z=>by
                    rw [decide_eq_true z] at hB
                    cases hB
                  obtain ⟨x,hx⟩:=eN (.inr (.inr (by omega)))
                  exact ⟨_,rfl,_,rfl,fun d hd=>kE x hx q _ d upd_same⟩
                · have hA':(10000:Int)<=(n:Int):=of_decide_eq_true hA
                  have hB':(n:Int)<=200000:=by
                    by_cases z:(n:Int)<=200000
                    · exact z
                    · refine absurd ?_ hB
                      rw [decide_eq_false z]
                      rfl
                  have k0:¬ pos - q=0:=fun z=>by
                    have:=h0 z
                    omega
                  have ee:=fin (by omega) k0
                  rw [want_step] at ee
                  rw [ee] at kE kQ
                  refine ⟨_,rfl,c,dx3,_,rfl,hc3,cf_no _ _ _ (by decide) (by decide) (by decide),c,a,t,pos,t.length,10,rfl,u3,fun hB=>?_,fun hB=>?_⟩
                  · intro H4 u4 k4
                    rw [if_pos hB,st_drop] at kQ
                    exact kQ n (pos+1) _ rfl H4 u4 (k3.trans k4) rfl
                  · rw [if_neg hB] at kE
                    exact kE _ rfl _
              · have hA':¬ (10000:Int)<=(n:Int):=fun z=>hA (decide_eq_true z)
                obtain ⟨x,hx⟩:=eN (.inr (.inl (by omega)))
                refine ⟨_,rfl,ite2 (fun _=>?_) fun z=>absurd (by rfl) z⟩
                exact ⟨_,rfl,_,rfl,fun d hd=>kE x hx q _ d upd_same⟩
          · refine ⟨_,rfl,ite2 (fun z=>by cases z) fun _=>?_⟩
            refine ⟨_,rfl,_,_,rfl,rfl,_,rfl,?_⟩
            refine ite2 (fun hA=>?_) fun hA=>?_
            · refine ⟨_,_,rfl,rfl,_,rfl,?_⟩
              refine ite2 (fun hB=>?_) fun hB=>?_
              · have hB':¬ (n:Int)<=200000:=fun z=>by
                  rw [decide_eq_true z] at hB
                  cases hB
                obtain ⟨x,hx⟩:=eN (.inr (.inr (by omega)))
                exact ⟨_,rfl,_,rfl,fun d hd=>kE x hx q _ d upd_same⟩
              · have hA':(10000:Int)<=(n:Int):=of_decide_eq_true hA
                have hB':(n:Int)<=200000:=by
                  by_cases z:(n:Int)<=200000
                  · exact z
                  · refine absurd ?_ hB
                    rw [decide_eq_false z]
                    rfl
                have k0:¬ pos - q=0:=fun z=>by
                  have:=h0 z
                  omega
                have ee:=fin (by omega) k0
                rw [want_step] at ee
                rw [ee] at kE kQ
                refine ⟨_,rfl,c,dx3,_,rfl,hc3,cf_no _ _ _ (by decide) (by decide) (by decide),c,a,t,pos,t.length,10,rfl,u3,fun hB=>?_,fun hB=>?_⟩
                · intro H4 u4 k4
                  rw [if_pos hB,st_drop] at kQ
                  exact kQ n (pos+1) _ rfl H4 u4 (k3.trans k4) rfl
                · rw [if_neg hB] at kE
                  exact kE _ rfl _
            · have hA':¬ (10000:Int)<=(n:Int):=fun z=>hA (decide_eq_true z)
              obtain ⟨x,hx⟩:=eN (.inr (.inl (by omega)))
              refine ⟨_,rfl,ite2 (fun _=>?_) fun z=>absurd (by rfl) z⟩
              exact ⟨_,rfl,_,rfl,fun d hd=>kE x hx q _ d upd_same⟩
end
end Lu
namespace Lu
open PySem PySem.Spec PyProof.Rows L2 Lute LuR LuW LuI
def fretF (fs:List Iv) (p:Nat) (u:Bytes):Rd Iv:=lnR wF (decide (15<=fs.length)) (fun x=>(fs.getLastD unison).lt x) p u
def courseF (fs:List Iv) (n p:Nat) (u:Bytes):Rd Iv:=lnR wC (decide (14<=n)) (soundsAll fs) p u
def bassF (n p:Nat) (u:Bytes):Rd Iv:=lnR wB (decide (14<=n)) (fun _=>true) p u
def row (fs:List Iv) (n:Nat) (x:Iv):List Iv:=if n < 6 then x::fs.map x.plus else [x]
def spFret (K:PySem.W.Frag) (B C:Addr):Sp:=fun vs H Q E=>∃ (c a m:Addr) (t:Bytes) (p e:Nat) (fs:List Iv),vs=[.ref c,.ref m]/\Cur K B H c a t p e/\NotesAt H m fs/\(∀ x ∈ fs,x.ok=true)/\fs.length<=15 ∧
  (∀ y,fretF fs p (st t p e)=.error y->ErrA C E) ∧
  ∀ x q u,fretF fs p (st t p e)=.ok (x,q,u)->∀ (H':Hp) (b:Addr),Cur K B H' c a t q e->Keep H H' c->u=st t q e->H' b=some (.tup (ivV x))->x.ok=true->Q (.ref b) H'
def spCourse (K:PySem.W.Frag) (B C:Addr):Sp:=fun vs H Q E=>∃ (c a m:Addr) (t:Bytes) (p e n:Nat) (fs:List Iv),vs=[.ref c,.ref m,.int (n:Int)]/\Cur K B H c a t p e/\NotesAt H m fs/\(∀ x ∈ fs,x.ok=true)/\fs.length<=15/\n<=14 ∧
  (∀ y,courseF fs n p (st t p e)=.error y->ErrA C E) ∧
  ∀ x q u,courseF fs n p (st t p e)=.ok (x,q,u)->∀ (H':Hp) (b:Addr),Cur K B H' c a t q e->Keep H H' c->u=st t q e->H b=none->NotesAt H' b (row fs n x)->x.ok=true->Q (.ref b) H'
def spBass (K:PySem.W.Frag) (B C:Addr):Sp:=fun vs H Q E=>∃ (c a:Addr) (t:Bytes) (p e n:Nat),vs=[.ref c,.int (n:Int)]/\Cur K B H c a t p e/\n<=14 ∧
  (∀ y,bassF n p (st t p e)=.error y->ErrA C E) ∧
  ∀ x q u,bassF n p (st t p e)=.ok (x,q,u)->∀ (H':Hp) (b:Addr),Cur K B H' c a t q e->Keep H H' c->u=st t q e->H b=none->NotesAt H' b [x]->x.ok=true->Q (.ref b) H'
theorem ivT_err {fine:Iv->Bool} {q x:Nat} {u:Bytes} (h:readAt q (lnT u)=.error x):ivT fine q u=.error x:=by
  unfold ivT
  rw [h]
theorem ivT_not {fine:Iv->Bool} {q:Nat} {x:Iv} {u:Bytes} (h:readAt q (lnT u)=.ok x) (hf:fine x=false):ivT fine q u=.error q:=by
  unfold ivT
  rw [h]
  dsimp only
  rw [hf,if_pos rfl]
theorem ivT_end {fine:Iv->Bool} {q:Nat} {x:Iv} {u:Bytes} (h:readAt q (lnT u)=.ok x) (hf:fine x=true):ivT fine q u=if headI (u.drop (lnT u).length)=((10:UInt8).toNat:Int) then .ok (x,q+(lnT u).length+1,(u.drop (lnT u).length).drop 1) else .error (q+(lnT u).length):=by
  unfold ivT
  rw [h]
  dsimp only
  rw [hf,if_neg (by decide),want_step]
  by_cases z:headI (u.drop (lnT u).length)=((10:UInt8).toNat:Int)
  · rw [if_pos z,if_pos z]
    rfl
  · rw [if_neg z,if_neg z]
theorem NotesAt.one {H:Hp} {m b:Addr} {x:Iv} (hm:H m=some (.lst [.ref b])) (hb:H b=some (.tup (ivV x))):NotesAt H m [x]:=
  ⟨[b],hm,rfl,fun i b' x' hb' hx'=>match i,hb',hx' with
    | 0,hb',hx'=>by cases hb';cases hx';exact hb
    | i+1,hb',_=>by simp at hb'⟩
section
variable {P:Program} {w:World} {K:PySem.W.Frag} {mg:Str->Option Value} {base:Heap} {B C:Addr}
theorem scFR:FnScope ["cursor","frets","start","fret","before"] ["cursor","frets"] (defScope s_read_fret):=⟨rfl,rfl,rfl,by decide +kernel,rfl,by decide +kernel,by decide +kernel⟩
theorem ok_fret {f:Addr} {fd:FuncData} (F:Fun K "read_fret" "read_fret" s_read_fret f fd) (T:Txt K mg B C) (TI:TxI K mg) (MT:Mth P w K mg base C B 3 "take" ["self","wanted"] (spTake K B C))
    (DB:Dfn P w K mg base C 5 "begin_line" ["cursor","word","lines_before","most"] (spBL K B C)) (DL:Dfn P w K mg base C 8 "read_line_interval" ["cursor"] (spLn K B C)) (DW:Dfn P w K mg base C 1 "width" ["interval"] (spWidth K)):
    FnOk P w K mg base (CXF P w C) 9 f fd ["cursor","frets"] (spFret K B C):=by
  refine F.okX scFR (fun vs H Q E h=>?_) (fun cdv A outer s H vs Q E hr h=>?_)
  · obtain ⟨c,a,m,t,p,e,fs,rfl,_⟩:=h
    rfl
  · obtain ⟨c,a,m,t,p,e,fs,rfl,u,hN,hok,h15,kE,kQ⟩:=h
    obtain ⟨dx,hc⟩:=u.at_
    obtain ⟨au,hau,hU⟩:=TI.uni
    have hr1:=hr.mono (show 1<=8 by decide)
    have hr2:=hr.mono (show 2<=8 by decide)
    have hr3:=hr.mono (show 3<=8 by decide)
    have hr5:=hr.mono (show 5<=8 by decide)
    refine ⟨_,pss_cons (ps_expr (pe_fn DB hr5 rfl (pa_cons (pv 0) (pa_cons pe_str (pa_cons (pe_callB call_len_seq (by rfl) T.len PySem.boot_len (pa_cons (pv 1) pa_nil)) (pa_cons (pe_cst TI.cMF) pa_nil))))))
      (pss_cons (ps_set (i:=2) scFR.nd rfl (Or.inl rfl) (pe_fld (pv 0) rfl))
      (pss_cons (ps_set (i:=3) scFR.nd rfl (Or.inl rfl) (pe_fn DL hr rfl (pa_cons (pv 0) pa_nil)))
      (pss_cons (ps_set (i:=4) scFR.nd rfl (Or.inl rfl) (pe_ifExp (pt_truth (pv 1) (fun _=>rfl)) (pe_ix ix_list (pv 1) (pe_un un_neg pe_int) (fun _ _=>rfl)) (pe_cst hau)))
      (pss_cons (ps_if (pt_cmpR op_le (pe_fn DW hr1 rfl (pa_cons (pv 3) pa_nil)) (pe_fn DW hr1 rfl (pa_cons (pv 4) pa_nil)) (nomark _)) (pss_one (ps_raise T.xt hr2 rfl T.mC (pv 2))) pss_nil)
      (pss_cons (ps_expr (pe_mt MT hr3 (pv 0) (pa_cons (pe_cst T.cNL) pa_nil)))
      (pss_one (ps_ret (pv 3)))))))),?_⟩
    obtain ⟨xs,hxs,hxl⟩:=hN.len
    have full:fs.length=15->ErrA C E:=fun z=>by
      obtain ⟨y,hy⟩:=lnR_full wF (fun x=>(fs.getLastD unison).lt x) p (st t p e)
      refine kE y ?_
      unfold fretF
      rw [decide_eq_true (by omega),hy]
    have less:fs.length ≠ 15->fretF fs p (st t p e)=match LuteTab.want (wF++[32]) p (st t p e) with
        | .error e=>.error e
        | .ok (_,q,u)=>ivT (fun x=>(fs.getLastD unison).lt x) q u:=fun z=>by
      unfold fretF
      rw [decide_eq_false (by omega)]
      exact lnR_go _ _ _ _
    refine ⟨_,rfl,_,rfl,m,xs,rfl,.inl (SqL.of hxs),c,a,t,p,e,"fret",wF,(xs.length:Int),15,rfl,(by unfold Wd;decide +kernel),u,fun h=>full (by omega),fun y hy=>?_,fun q v hn hq H1 u1 k1 hv=>?_⟩
    · by_cases z:fs.length=15
      · exact full z
      · exact kE y (by rw [less z,hy])
    · have hne:fs.length ≠ 15:=fun z=>hn (by rw [hxl,z];rfl)
      have ee:=less hne
      rw [hq] at ee
      dsimp only at ee
      subst hv
      obtain ⟨dx1,hc1⟩:=u1.at_
      have hN1:=hN.keep k1 hc
      refine ⟨_,rfl,c,B,dx1,_,_,rfl,hc1,T.cl,T.nP,cf_place _ _ _,?_⟩
      refine ⟨_,rfl,c,a,t,q,e,rfl,u1,?_⟩
      cases hR:readAt q (lnT (st t q e)) with
      | error x=>exact kE x (by rw [ee,ivT_err hR]) x
      | ok x=>
        intro H2 b u2 k2 hb hokx
        have hN2:=hN1.keep k2 hc1
        obtain ⟨xs2,hxs2,hxl2⟩:=hN2.len
        have go:∀ b':Addr,SqT K H2 b' (ivV (fs.getLastD unison))->(fs.getLastD unison).ok=true->∀ xs':List V,H2 m=some (.lst xs')->tSeq (tIfS (tTest (tOp (rI0 fun i j=>.bl (decide (i<=j))) (tCall (spWidth K) [] E (tCons (tVar 3) tNil)) (tCall (spWidth K) [] E (tCons (tVar 4) tNil)))) (tRaise C E (tVar 2)) tNext)
            (tSeq (tDrop (tMeth B "take" (spTake K B C) [] E (tVar 0) (tCons (tC (.int 10)) tNil))) (tRet (tVar 3))) { nx:=fun _ H'=>Q .non H',rt:=Q } [some (.ref c),some (.ref m),some (.int (q:Int)),some (.ref b),some (.ref b')] H2:=by
          intro b' hb' hokp xs' _
          refine ⟨_,rfl,b,x,rfl,SqT.of hb,hokx,fun H3 s3=>?_⟩
          refine ⟨_,rfl,b',_,rfl,s3.tup hb',hokp,fun H4 s4=>?_⟩
          have hlw:=lt_width hokp hokx
          refine ⟨_,_,rfl,rfl,_,rfl,?_⟩
          refine ite2 (fun h=>?_) fun h=>?_
          · have h':width x<=width (fs.getLastD unison):=of_decide_eq_true h
            have hf:(fs.getLastD unison).lt x=false:=by
              rw [hlw]
              exact decide_eq_false (by omega)
            exact ⟨_,rfl,_,rfl,fun d hd=>kE q (by rw [ee,ivT_not hR hf]) _ _ d upd_same⟩
          · have h':¬ width x<=width (fs.getLastD unison):=fun z=>h (decide_eq_true z)
            have hf:(fs.getLastD unison).lt x=true:=by
              rw [hlw]
              exact decide_eq_true (by omega)
            rw [ivT_end (fine:=fun x=>(fs.getLastD unison).lt x) hR hf,st_drop] at ee
            have u4:=(u2.same s3).same s4
            obtain ⟨dx4,hc4⟩:=u4.at_
            refine ⟨_,rfl,c,dx4,_,rfl,hc4,cf_no _ _ _ (by decide) (by decide) (by decide),c,a,t,_,e,10,rfl,u4,fun hB=>?_,fun hB=>?_⟩
            · intro H5 u5 k5
              rw [if_pos hB,st_drop] at ee
              exact ⟨_,rfl,kQ x _ _ ee H5 b u5 (((k1.trans k2).trans (Keep.of (s3.trans s4))).trans k5) rfl (k5 _ _ (s4 _ _ (s3 _ _ hb)) (ne_of (s4 _ _ (s3 _ _ hb)) hc4 (by intro z;cases z))) hokx⟩
            · rw [if_neg hB] at ee
              exact kE _ ee _
        rcases List.eq_nil_or_concat fs with e0 | ⟨l,y,e0⟩
        · have ex:xs2=[]:=List.length_eq_zero_iff.mp (by rw [hxl2,e0];rfl)
          refine ⟨_,rfl,_,.inl ⟨_,SqL.of hxs2,rfl⟩,?_⟩
          rw [ex]
          refine iteF ?_
          exact go au (by rw [e0];exact hU H2) (by rw [e0];decide +kernel) xs2 hxs2
        · rw [List.concat_eq_append] at e0
          obtain ⟨xs3,b3,hx3,ha3,hb3⟩:=NotesAt.last (l:=l) (y:=y) (by rw [<- e0];exact hN2)
          have ne3:(!xs3.isEmpty)=true:=by
            cases xs3 with
            | nil=>cases ha3
            | cons z r=>rfl
          refine ⟨_,rfl,_,.inl ⟨_,SqL.of hx3,rfl⟩,?_⟩
          rw [ne3]
          refine iteT ?_
          refine ⟨_,rfl,_,rfl,m,xs3,_,_,rfl,rfl,SqL.of hx3,ha3,?_⟩
          have el:fs.getLastD unison=y:=by rw [e0];simp
          exact go b3 (by rw [el];exact SqT.of hb3) (by rw [el];exact hok y (by rw [e0];simp)) xs3 hx3
theorem scBA:FnScope ["cursor","courses_before","string"] ["cursor","courses_before"] (defScope s_read_bass):=⟨rfl,rfl,rfl,by decide +kernel,rfl,by decide +kernel,by decide +kernel⟩
theorem ok_bass {f:Addr} {fd:FuncData} (F:Fun K "read_bass" "read_bass" s_read_bass f fd) (T:Txt K mg B C) (TI:TxI K mg) (MT:Mth P w K mg base C B 3 "take" ["self","wanted"] (spTake K B C))
    (DB:Dfn P w K mg base C 5 "begin_line" ["cursor","word","lines_before","most"] (spBL K B C)) (DL:Dfn P w K mg base C 8 "read_line_interval" ["cursor"] (spLn K B C)):
    FnOk P w K mg base (CXF P w C) 9 f fd ["cursor","courses_before"] (spBass K B C):=by
  refine F.okX scBA (fun vs H Q E h=>?_) (fun cdv A outer s H vs Q E hr h=>?_)
  · obtain ⟨c,a,t,p,e,n,rfl,_⟩:=h
    rfl
  · obtain ⟨c,a,t,p,e,n,rfl,u,h14,kE,kQ⟩:=h
    obtain ⟨dx,hc⟩:=u.at_
    have hr3:=hr.mono (show 3<=8 by decide)
    have hr5:=hr.mono (show 5<=8 by decide)
    refine ⟨_,pss_cons (ps_expr (pe_fn DB hr5 rfl (pa_cons (pv 0) (pa_cons pe_str (pa_cons (pv 1) (pa_cons (pe_cst TI.cMC) pa_nil))))))
      (pss_cons (ps_set (i:=2) scBA.nd rfl (Or.inl rfl) (pe_fn DL hr rfl (pa_cons (pv 0) pa_nil)))
      (pss_cons (ps_expr (pe_mt MT hr3 (pv 0) (pa_cons (pe_cst T.cNL) pa_nil)))
      (pss_one (ps_ret (pe_lst (pa_cons (pv 2) pa_nil)))))),?_⟩
    have full:n=14->ErrA C E:=fun z=>by
      obtain ⟨y,hy⟩:=lnR_full wB (fun _=>true) p (st t p e)
      refine kE y ?_
      unfold bassF
      rw [decide_eq_true (by omega),hy]
    have less:n ≠ 14->bassF n p (st t p e)=match LuteTab.want (wB++[32]) p (st t p e) with
        | .error e=>.error e
        | .ok (_,q,u)=>ivT (fun _=>true) q u:=fun z=>by
      unfold bassF
      rw [decide_eq_false (by omega)]
      exact lnR_go _ _ _ _
    refine ⟨_,rfl,_,rfl,c,a,t,p,e,"bass",wB,(n:Int),14,rfl,(by unfold Wd;decide +kernel),u,fun h=>full (by omega),fun y hy=>?_,fun q v hn hq H1 u1 k1 hv=>?_⟩
    · by_cases z:n=14
      · exact full z
      · exact kE y (by rw [less z,hy])
    · have ee:=less (fun z=>hn (by rw [z];rfl))
      rw [hq] at ee
      dsimp only at ee
      subst hv
      refine ⟨_,rfl,c,a,t,q,e,rfl,u1,?_⟩
      cases hR:readAt q (lnT (st t q e)) with
      | error x=>exact kE x (by rw [ee,ivT_err hR]) x
      | ok x=>
        intro H2 b u2 k2 hb hokx
        rw [ivT_end (fine:=fun _=>true) hR rfl,st_drop] at ee
        obtain ⟨dx2,hc2⟩:=u2.at_
        refine ⟨_,rfl,c,dx2,_,rfl,hc2,cf_no _ _ _ (by decide) (by decide) (by decide),c,a,t,_,e,10,rfl,u2,fun hB=>?_,fun hB=>?_⟩
        · intro H3 u3 k3
          rw [if_pos hB,st_drop] at ee
          have hb3:=k3 _ _ hb (ne_of hb hc2 (by intro z;cases z))
          refine ⟨_,rfl,(by show 1<=sizeLine;decide),fun m hm=>?_⟩
          have sm:=same_new (o:=.lst [.ref b]) hm
          exact kQ x _ _ ee _ m (u3.same sm) (((k1.trans k2).trans k3).trans (Keep.of sm)) rfl (keep_free ((k1.trans k2).trans k3) (let ⟨_,z⟩:=u3.at_;⟨_,z⟩) hm) (NotesAt.one upd_same (sm _ _ hb3)) hokx
        · rw [if_neg hB] at ee
          exact kE _ ee _
theorem scCS:FnScope ["cursor","frets","courses_before","start","string","sounds","fret","sound"] ["cursor","frets","courses_before"] (defScope s_read_course):=⟨rfl,rfl,rfl,by decide +kernel,rfl,by decide +kernel,by decide +kernel⟩
theorem ok_course {f:Addr} {fd:FuncData} (F:Fun K "read_course" "read_course" s_read_course f fd) (T:Txt K mg B C) (TI:TxI K mg) (MT:Mth P w K mg base C B 3 "take" ["self","wanted"] (spTake K B C))
    (DB:Dfn P w K mg base C 5 "begin_line" ["cursor","word","lines_before","most"] (spBL K B C)) (DL:Dfn P w K mg base C 8 "read_line_interval" ["cursor"] (spLn K B C))
    (DU:Dfn P w K mg base C 3 "upon" ["x","y"] (spUpon K)) (DI:Dfn P w K mg base C 1 "is_within_bounds" ["numbers"] (spBounds K)):
    FnOk P w K mg base (CXF P w C) 9 f fd ["cursor","frets","courses_before"] (spCourse K B C):=by
  refine F.okX scCS (fun vs H Q E h=>?_) (fun cdv A outer s H vs Q E hr h=>?_)
  · obtain ⟨c,a,m,t,p,e,n,fs,rfl,_⟩:=h
    rfl
  · obtain ⟨c,a,m,t,p,e,n,fs,rfl,u,hN,hok,h15,h14,kE,kQ⟩:=h
    obtain ⟨dx,hc⟩:=u.at_
    have hr1:=hr.mono (show 1<=8 by decide)
    have hr2:=hr.mono (show 2<=8 by decide)
    have hr3:=hr.mono (show 3<=8 by decide)
    have hr5:=hr.mono (show 5<=8 by decide)
    refine ⟨_,pss_cons (ps_expr (pe_fn DB hr5 rfl (pa_cons (pv 0) (pa_cons pe_str (pa_cons (pv 2) (pa_cons (pe_cst TI.cMC) pa_nil))))))
      (pss_cons (ps_set (i:=3) scCS.nd rfl (Or.inl rfl) (pe_fld (pv 0) rfl))
      (pss_cons (ps_set (i:=4) scCS.nd rfl (Or.inl rfl) (pe_fn DL hr rfl (pa_cons (pv 0) pa_nil)))
      (pss_cons (ps_set (i:=5) scCS.nd rfl (Or.inl rfl) (pe_lst (pa_cons (pv 4) pa_nil)))
      (pss_cons (ps_for xown rfl (pi_list (pv 1)) (pg_name (i:=6) scCS.nd rfl (Or.inl rfl))
        (pss_cons (ps_set (i:=7) scCS.nd rfl (Or.inl rfl) (pe_fn DU hr3 rfl (pa_cons (pv 6) (pa_cons (pv 4) pa_nil))))
        (pss_cons (ps_if (pt_not (pt_val (pe_fn DI hr1 rfl (pa_cons (pv 7) pa_nil)))) (pss_one (ps_raise T.xt hr2 rfl T.mC (pv 3))) pss_nil)
        (pss_one (ps_expr (pe_bm PySem.F.plainAttrs_list PySem.F.slot_list_append PySem.F.type_list_append mt_append (pv 5) (pa_cons (pv 7) pa_nil)))))))
      (pss_cons (ps_expr (pe_mt MT hr3 (pv 0) (pa_cons (pe_cst T.cNL) pa_nil)))
      (pss_cons (ps_if (pt_cmpR op_lt (pv 2) (pe_cst TI.cSC) (nomark _)) (pss_one (ps_ret (pv 5))) pss_nil)
      (pss_one (ps_ret (pe_lst (pa_cons (pv 4) pa_nil)))))))))),?_⟩
    have full:n=14->ErrA C E:=fun z=>by
      obtain ⟨y,hy⟩:=lnR_full wC (soundsAll fs) p (st t p e)
      refine kE y ?_
      unfold courseF
      rw [decide_eq_true (by omega),hy]
    have less:n ≠ 14->courseF fs n p (st t p e)=match LuteTab.want (wC++[32]) p (st t p e) with
        | .error e=>.error e
        | .ok (_,q,u)=>ivT (soundsAll fs) q u:=fun z=>by
      unfold courseF
      rw [decide_eq_false (by omega)]
      exact lnR_go _ _ _ _
    refine ⟨_,rfl,_,rfl,c,a,t,p,e,"course",wC,(n:Int),14,rfl,(by unfold Wd;decide +kernel),u,fun h=>full (by omega),fun y hy=>?_,fun q v hn hq H1 u1 k1 hv=>?_⟩
    · by_cases z:n=14
      · exact full z
      · exact kE y (by rw [less z,hy])
    · have ee:=less (fun z=>hn (by rw [z];rfl))
      rw [hq] at ee
      dsimp only at ee
      subst hv
      obtain ⟨dx1,hc1⟩:=u1.at_
      have hN1:=hN.keep k1 hc
      refine ⟨_,rfl,c,B,dx1,_,_,rfl,hc1,T.cl,T.nP,cf_place _ _ _,?_⟩
      refine ⟨_,rfl,c,a,t,q,e,rfl,u1,?_⟩
      cases hR:readAt q (lnT (st t q e)) with
      | error x=>exact kE x (by rw [ee,ivT_err hR]) x
      | ok x=>
        intro H2 b u2 k2 hb hokx
        have hN2:=hN1.keep k2 hc1
        refine ⟨_,rfl,(by show 1<=sizeLine;decide),fun ms hms=>?_⟩
        have sm:=same_new (o:=.lst [.ref b]) hms
        have hfree:H ms=Option.none:=keep_free (k1.trans k2) (let ⟨_,z⟩:=u2.at_;⟨_,z⟩) hms
        have hNs:NotesAt (upd H2 ms (.lst [.ref b])) ms [x]:=NotesAt.one upd_same (sm _ _ hb)
        obtain ⟨bs,g1,g2,g3⟩:=hN2.same sm
        have nmm:m ≠ ms:=fun z=>by
          have:=hN2.len
          obtain ⟨_,w1,_⟩:=this
          rw [z,hms] at w1
          cases w1
        have pc:∀ y:Iv,y.ok=true->okB (x.plus y)=(x.plus y).ok:=fun y hy=>by
          obtain ⟨_,_,_,_,hx1,_,_⟩:=ok_parts hokx
          obtain ⟨_,_,_,_,hy1,_,_⟩:=ok_parts hy
          obtain ⟨c1,c2⟩:=plus_common x y hx1 hy1
          exact okB_ok c1 c2
        refine ⟨_,rfl,m,rfl,⟨_,SqL.of g1⟩,for_list (K:=K) (a:=m) (xs:=bs.map V.ref) (fun i σ H'=>∃ v6 v7:Option V,σ=[some (.ref c),some (.ref m),some (.int (n:Int)),some (.int (q:Int)),some (.ref b),some (.ref ms),v6,v7] ∧
            (∀ z o,z ≠ ms->(upd H2 ms (.lst [.ref b])) z=some o->H' z=some o)/\NotesAt H' ms (x::(fs.take i).map x.plus)/\(fs.take i).all (fun f=>(x.plus f).ok)=true)
          ⟨Option.none,Option.none,rfl,fun z o _ h=>h,hNs,rfl⟩ (fun i σ H' _ ⟨v6,v7,_,hk,_⟩=>SqL.of (hk _ _ nmm g1)) ?_ ?_⟩
        · rintro i y σ H3 hy ⟨v6,v7,rfl,hk3,hN3,hall⟩
          rw [List.getElem?_map] at hy
          cases hcb:bs[i]? with
          | none=>rw [hcb] at hy;cases hy
          | some bi=>
            rw [hcb] at hy
            cases hy
            have hi:i < fs.length:=by rw [<- g2];exact (List.getElem?_eq_some_iff.mp hcb).1
            have hfi:fs[i]?=some fs[i]:=List.getElem?_eq_getElem hi
            have hbi:=g3 i bi _ hcb hfi
            have nbi:bi ≠ ms:=ne_of hbi upd_same (by intro z;cases z)
            have hbi3:=hk3 _ _ nbi hbi
            have nb:b ≠ ms:=fun z=>by rw [z,hms] at hb;cases hb
            have hb3:=hk3 _ _ nb (by rw [upd_ne nb];exact hb)
            have tk:fs.take (i+1)=fs.take i++[fs[i]]:=by rw [List.take_succ,hfi];rfl
            have hoki:fs[i].ok=true:=hok _ (List.getElem_mem hi)
            generalize fs[i]=y at *
            refine ⟨_,rfl,_,rfl,bi,b,y,x,rfl,.inr (SqT.of hbi3),SqT.of hb3,hoki,hokx,fun H4 b4 s4 hb4 hn4=>?_⟩
            refine ⟨_,rfl,b4,_,rfl,SqT.of hn4,fun H5 s5=>?_⟩
            refine ⟨_,rfl,?_⟩
            rw [pc y hoki]
            refine ite2 (fun h=>?_) fun h=>?_
            · have h':(x.plus y).ok=false:=by
                cases hq:(x.plus y).ok with
                | false=>rfl
                | true=>rw [hq] at h;cases h
              have hf:soundsAll fs x=false:=by
                unfold soundsAll
                rw [<- Bool.not_eq_true,List.all_eq_true]
                intro hall
                rw [hall y (List.mem_of_getElem? hfi)] at h'
                cases h'
              exact ⟨_,rfl,_,rfl,fun d hd=>kE q (by rw [ee,ivT_not hR hf]) _ _ d upd_same⟩
            · have h':(x.plus y).ok=true:=by
                cases hq:(x.plus y).ok with
                | true=>rfl
                | false=>rw [hq] at h;exact absurd rfl h
              have hN5:=(hN3.same s4).same s5
              obtain ⟨xs5,hx5,hl5⟩:=hN5.len
              refine ⟨_,rfl,.inl ⟨rfl,_,SqL.of hx5⟩,_,rfl,ms,_,_,rfl,rfl,hx5,?_,?_⟩
              · rw [hl5,List.length_cons,List.length_map,List.length_take]
                exact Nat.lt_of_le_of_lt (show min i fs.length+1<=16 by omega) (by show 16 < sizeLine;decide)
              · refine ⟨_,_,rfl,fun z o hz h=>?_,?_,?_⟩
                · rw [upd_ne hz]
                  exact s5 _ _ (s4 _ _ (hk3 z o hz h))
                · have:=hN5.snoc hx5 (s5 _ _ hn4)
                  rw [tk,List.map_append]
                  exact this
                · rw [tk,List.all_append,hall]
                  simp [h']
        · rintro σ H3 ⟨v6,v7,rfl,hk3,hN3,hall⟩
          rw [List.length_map,g2,List.take_length] at hN3 hall
          have hf:soundsAll fs x=true:=hall
          rw [ivT_end (fine:=soundsAll fs) hR hf,st_drop] at ee
          have u2':=u2.same sm
          obtain ⟨dx2,hc2⟩:=u2'.at_
          have ncm:c ≠ ms:=ne_of hc2 upd_same (by intro z;cases z)
          have hc3:=hk3 _ _ ncm hc2
          have nb:b ≠ ms:=fun z=>by rw [z,hms] at hb;cases hb
          have hb3:=hk3 _ _ nb (by rw [upd_ne nb];exact hb)
          have toH3:Keep H H3 c:=fun z o hz hzc=>by
            have nz:z ≠ ms:=fun w=>by rw [w,hfree] at hz;cases hz
            exact hk3 _ _ nz (by rw [upd_ne nz];exact k2 _ _ (k1 _ _ hz hzc) hzc)
          have u3:Cur K B H3 c a t (q+(lnT (st t q e)).length) e:=by
            refine ⟨⟨dx2,hc3⟩,?_,u2.le,u2.len⟩
            have na:∀ o,H a=some o->a ≠ ms:=fun o h z=>by rw [z,hfree] at h;cases h
            rcases u.txt with (hz | ⟨o,hz⟩) | hz
            · exact .inl (.inl (toH3 _ _ hz (ne_of hz hc (by intro z;cases z))))
            · exact .inl (.inr ⟨o,toH3 _ _ hz (ne_of hz hc (by intro z;cases z))⟩)
            · exact .inr hz
          refine ⟨_,rfl,c,dx2,_,rfl,hc3,cf_no _ _ _ (by decide) (by decide) (by decide),c,a,t,_,e,10,rfl,u3,fun hB=>?_,fun hB=>?_⟩
          · intro H4 u4 k4
            rw [if_pos hB,st_drop] at ee
            have hN4:=hN3.keep k4 hc3
            have hb4:=k4 _ _ hb3 (ne_of hb3 hc3 (by intro z;cases z))
            refine ⟨_,rfl,_,_,rfl,rfl,_,rfl,?_⟩
            refine ite2 (fun h=>?_) fun h=>?_
            · have h':(n:Int) < 6:=of_decide_eq_true h
              refine ⟨_,rfl,kQ x _ _ ee H4 ms u4 (toH3.trans k4) rfl hfree ?_ hokx⟩
              unfold row
              rw [if_pos (by omega)]
              exact hN4
            · have h':¬ (n:Int) < 6:=fun z=>h (decide_eq_true z)
              refine ⟨_,rfl,(by show 1<=sizeLine;decide),fun m5 hm5=>?_⟩
              have s5:=same_new (o:=.lst [.ref b]) hm5
              refine kQ x _ _ ee _ m5 (u4.same s5) ((toH3.trans k4).trans (Keep.of s5)) rfl (keep_free (toH3.trans k4) (let ⟨_,z⟩:=u4.at_;⟨_,z⟩) hm5) ?_ hokx
              unfold row
              rw [if_neg (by omega)]
              exact NotesAt.one upd_same (s5 _ _ hb4)
          · rw [if_neg hB] at ee
            exact kE _ ee _
end
end Lu
namespace Lu
open PySem PySem.Spec PyProof.Rows L2 Lute LuR LuW LuI
def TabAt (H:Hp) (m:Addr) (ls:List (List Iv)):Prop:=∃ bs:List Addr,H m=some (.lst (bs.map V.ref))/\bs.length=ls.length/\∀ (i:Nat) (b:Addr) (l:List Iv),bs[i]?=some b->ls[i]?=some l->b ≠ m/\NotesAt H b l
theorem TabAt.move {H H':Hp} {m:Addr} {l:List (List Iv)} (h:TabAt H m l) (k:∀ b o,H b=some o->(∃ xs,o=.lst xs)\/(∃ xs,o=.tup xs)->H' b=some o):TabAt H' m l:=by
  obtain ⟨bs,h1,h2,h3⟩:=h
  exact ⟨bs,k _ _ h1 (.inl ⟨_,rfl⟩),h2,fun i b x hb hx=>⟨(h3 i b x hb hx).1,(h3 i b x hb hx).2.move k⟩⟩
theorem TabAt.same {H H':Hp} {m:Addr} {l:List (List Iv)} (h:TabAt H m l) (k:Same H H'):TabAt H' m l:=h.move fun b o hb _=>k b o hb
theorem TabAt.keep {H H':Hp} {m c:Addr} {l:List (List Iv)} {B dx:Addr} {fs:List (Str × V)} (h:TabAt H m l) (k:Keep H H' c) (hc:H c=some (.ins B dx fs)):TabAt H' m l:=h.move fun b o hb hk=>k b o hb (ne_of hb hc (by
  rintro rfl
  rcases hk with ⟨_,z⟩ | ⟨_,z⟩ <;> cases z))
theorem NotesAt.upd {H:Hp} {m b:Addr} {l:List Iv} {xs:List V} {o:HO} (h:NotesAt H b l) (hm:H m=some (.lst xs)) (hb:b ≠ m):NotesAt (upd H m o) b l:=by
  obtain ⟨bs,h1,h2,h3⟩:=h
  exact ⟨bs,by rw [upd_ne hb];exact h1,h2,fun i b' x hb' hx=>by rw [upd_ne (ne_of (h3 i b' x hb' hx) hm (by intro z;cases z))];exact h3 i b' x hb' hx⟩
theorem TabAt.snoc {H:Hp} {m b:Addr} {ls:List (List Iv)} {l:List Iv} {xs:List V} (h:TabAt H m ls) (hx:H m=some (.lst xs)) (hb:NotesAt H b l) (hbm:b ≠ m):TabAt (upd H m (.lst (xs++[.ref b]))) m (ls++[l]):=by
  obtain ⟨bs,h1,h2,h3⟩:=h
  rw [h1] at hx
  cases hx
  refine ⟨bs++[b],by rw [upd_same,List.map_append];rfl,by rw [List.length_append,List.length_append,h2];rfl,fun i b' l' hb' hl'=>?_⟩
  have key:b' ≠ m/\NotesAt H b' l':=by
    by_cases hi:i < bs.length
    · rw [List.getElem?_append_left hi] at hb'
      rw [List.getElem?_append_left (by omega)] at hl'
      exact h3 i b' l' hb' hl'
    · rw [List.getElem?_append_right (by omega)] at hb'
      rw [List.getElem?_append_right (by omega)] at hl'
      have hi0:i - bs.length=0:=by
        have:=(List.getElem?_eq_some_iff.mp hb').1
        simp at this
        omega
      rw [hi0] at hb'
      rw [show i - ls.length=0 by omega] at hl'
      cases hb'
      cases hl'
      exact ⟨hbm,hb⟩
  exact ⟨key.1,key.2.upd h1 key.1⟩
theorem TabAt.len {H:Hp} {m:Addr} {l:List (List Iv)} (h:TabAt H m l):∃ xs,H m=some (.lst xs)/\xs.length=l.length:=by
  obtain ⟨bs,h1,h2,_⟩:=h
  exact ⟨_,h1,by rw [List.length_map,h2]⟩
def tab (t:Inst):List (List Iv):=t.courses.mapIdx (row t.frets)++t.basses.map fun x=>[x]
structure InOk (t:Inst):Prop where
  fr:∀ x ∈ t.frets,x.ok=true
  f15:t.frets.length<=15
  co:∀ x ∈ t.courses,x.ok=true
  ba:∀ x ∈ t.basses,x.ok=true
  n14:t.courses.length+t.basses.length<=14
  so:∀ x ∈ t.courses,∀ f ∈ t.frets,(x.plus f).ok=true
def spInst (K:PySem.W.Frag) (C:Addr):Sp:=fun vs H Q E=>∃ (a:Addr) (t:Bytes),vs=[.ref a]/\SqL K H a (tx t) ∧
  (∀ x,readInst t=.error x->ErrA C E)/\∀ i,readInst t=.ok i->InOk i->∀ (H':Hp) (m:Addr),Same H H'->TabAt H' m (tab i)->Q (.ref m) H'
theorem lnR_head {z:UInt8} {l:Bytes} {full:Bool} {fine:Iv->Bool} {p:Nat} {u:Bytes} (h:¬ headI u=(z.toNat:Int)):∃ y,lnR (z::l) full fine p u=.error y:=by
  unfold lnR
  rw [want_step,if_neg h]
  exact ⟨_,rfl⟩
theorem goL_err {R:Rd Iv} {T:Iv->Inst} {y:Nat} (h:R=.error y):goL R T=.error y:=by rw [h];rfl
theorem goL_ok {R:Rd Iv} {T:Iv->Inst} {x:Iv} {q:Nat} {u:Bytes} (h:R=.ok (x,q,u)):goL R T=li (T x) q u:=by rw [h];rfl
theorem li_fret {n p:Nat} {fs:List Iv} {u:Bytes} (h:headI u=102):li ⟨n,fs,[],[]⟩ p u=goL (fretF fs p u) fun x=>⟨n,fs++[x],[],[]⟩:=by
  obtain ⟨r,rfl⟩:=headI_cons (z:=102) h
  rw [li_cons,if_pos ⟨rfl,rfl⟩]
  rfl
theorem li_first {n p:Nat} {fs:List Iv} {u:Bytes} (h:¬ headI u=102):(∃ y,courseF fs 0 p u=.error y/\∃ z,li ⟨n,fs,[],[]⟩ p u=.error z)\/li ⟨n,fs,[],[]⟩ p u=goL (courseF fs 0 p u) fun x=>⟨n,fs,[x],[]⟩:=by
  by_cases h2:headI u=99
  · obtain ⟨r,rfl⟩:=headI_cons (z:=99) h2
    rw [li_cons,if_neg (fun q=>absurd q.1 (by decide)),if_pos ⟨rfl,rfl⟩]
    exact .inr rfl
  · obtain ⟨y,hy⟩:=lnR_head (z:=99) (l:=[111,117,114,115,101]) (full:=decide (14<=0)) (fine:=soundsAll fs) (p:=p) (u:=u) h2
    refine .inl ⟨y,hy,?_⟩
    cases u with
    | nil=>exact ⟨p,li_nil _ _⟩
    | cons c r=>
      rw [li_cons,if_neg (fun q=>h (by rw [q.1];rfl)),if_neg (fun q=>h2 (by rw [q.1];rfl)),if_neg (fun q=>by cases q.2)]
      exact ⟨_,rfl⟩
theorem li_course {n p:Nat} {fs cs:List Iv} {u:Bytes} (hc:cs ≠ []) (h:headI u=99):li ⟨n,fs,cs,[]⟩ p u=goL (courseF fs cs.length p u) fun x=>⟨n,fs,cs++[x],[]⟩:=by
  obtain ⟨r,rfl⟩:=headI_cons (z:=99) h
  rw [li_cons,if_neg (fun q=>absurd q.1 (by decide)),if_pos ⟨rfl,rfl⟩]
  unfold courseR courseF Inst.opens
  rw [List.append_nil]
theorem li_bass {n p:Nat} {fs cs bs:List Iv} {u:Bytes} (hc:cs ≠ []) (h:headI u=98):li ⟨n,fs,cs,bs⟩ p u=goL (bassF (cs.length+bs.length) p u) fun x=>⟨n,fs,cs,bs++[x]⟩:=by
  obtain ⟨r,rfl⟩:=headI_cons (z:=98) h
  have he:cs.isEmpty=false:=by cases cs with | nil=>exact absurd rfl hc | cons=>rfl
  rw [li_cons,if_neg (fun q=>absurd q.1 (by decide)),if_neg (fun q=>absurd q.1 (by decide)),if_pos ⟨rfl,he⟩]
  unfold bassR bassF Inst.opens
  rw [List.length_append]
theorem li_end {n p:Nat} {fs cs bs:List Iv} {u:Bytes} (hc:cs ≠ []) (hb:bs=[]->¬ headI u=99) (h:¬ headI u=98):(headI u=-1->li ⟨n,fs,cs,bs⟩ p u=.ok ⟨n,fs,cs,bs⟩)/\(¬ headI u=-1->∃ y,li ⟨n,fs,cs,bs⟩ p u=.error y):=by
  have he:cs.isEmpty=false:=by cases cs with | nil=>exact absurd rfl hc | cons=>rfl
  refine ⟨fun q=>?_,fun q=>?_⟩
  · rw [headI_end q,li_nil,if_neg (by show ¬ cs.isEmpty=true;rw [he];exact Bool.false_ne_true)]
  · cases u with
    | nil=>exact absurd rfl q
    | cons c r=>
      refine ⟨p,?_⟩
      rw [li_cons,if_neg (fun z=>by
        have z2:cs.isEmpty=true:=z.2
        rw [he] at z2
        cases z2),if_neg (fun z=>hb (List.isEmpty_iff.mp z.2) (by rw [z.1];rfl)),if_neg (fun z=>h (by rw [z.1];rfl))]
theorem mk_cur {K:PySem.W.Frag} {B:Addr} {H H':Hp} {c a dx:Addr} {t:Bytes} {p e:Nat} (hc:H' c=some (.ins B dx (cf a p e))) (s:Same H H') (hS:SqL K H a (tx t)) (hp:p<=e) (he:e<=t.length):Cur K B H' c a t p e:=⟨⟨dx,hc⟩,s.seq hS,hp,he⟩
section
variable {P:Program} {w:World} {K:PySem.W.Frag} {mg:Str->Option Value} {base:Heap} {B C:Addr}
theorem scIN:FnScope ["text","cursor","frets","courses"] ["text"] (defScope s_read_instrument):=⟨rfl,rfl,rfl,by decide +kernel,rfl,by decide +kernel,by decide +kernel⟩
theorem ok_inst {f:Addr} {fd:FuncData} (F:Fun K "read_instrument" "read_instrument" s_read_instrument f fd) (T:Txt K mg B C) (TI:TxI K mg) (M:Crs P w K mg base B C)
    (DI:Mke P w K mg base C B 1 "Cursor" ["self","text","place","end"] (spInit B)) (DS:Dfn P w K mg base C 5 "read_string_length" ["cursor"] (spSL K B C)) (DF:Dfn P w K mg base C 9 "read_fret" ["cursor","frets"] (spFret K B C))
    (DC:Dfn P w K mg base C 9 "read_course" ["cursor","frets","courses_before"] (spCourse K B C)) (DB:Dfn P w K mg base C 9 "read_bass" ["cursor","courses_before"] (spBass K B C)):
    FnOk P w K mg base (CXF P w C) 10 f fd ["text"] (spInst K C):=by
  refine F.okX scIN (fun vs H Q E h=>?_) (fun cdv A outer s H vs Q E hr h=>?_)
  · obtain ⟨a,t,rfl,_⟩:=h
    rfl
  · obtain ⟨a,t,rfl,hS,kE,kQ⟩:=h
    have hr1:=hr.mono (show 1<=9 by decide)
    have hr2:=hr.mono (show 2<=9 by decide)
    have hr5:=hr.mono (show 5<=9 by decide)
    refine ⟨_,(pss_cons (ps_set (i:=1) scIN.nd rfl (Or.inl rfl) (pe_mk DI hr2 rfl (pa_cons (pv 0) (pa_cons pe_int (pa_cons (pe_callB call_len_seq (by rfl) T.len PySem.boot_len (pa_cons (pv 0) pa_nil)) pa_nil)))))
        (pss_cons (ps_expr (pe_fn DS hr5 rfl (pa_cons (pv 1) pa_nil)))
        (pss_cons (ps_set (i:=2) scIN.nd rfl (Or.inl rfl) (pe_lst pa_nil))
        (pss_cons (ps_while xown (pt_cmpR op_eq (pe_mt0 M.byte hr1 (pv 1)) (pe_cst TI.cLF) (nomark _)) (pss_one (ps_expr (pe_bm PySem.F.plainAttrs_list PySem.F.slot_list_append PySem.F.type_list_append mt_append (pv 2) (pa_cons (pe_fn DF hr rfl (pa_cons (pv 1) (pa_cons (pv 2) pa_nil))) pa_nil)))))
        (pss_cons (ps_set (i:=3) scIN.nd rfl (Or.inl rfl) (pe_lst (pa_cons (pe_fn DC hr rfl (pa_cons (pv 1) (pa_cons (pv 2) (pa_cons pe_int pa_nil)))) pa_nil)))
        (pss_cons (ps_while xown (pt_cmpR op_eq (pe_mt0 M.byte hr1 (pv 1)) (pe_cst TI.cLC) (nomark _)) (pss_one (ps_expr (pe_bm PySem.F.plainAttrs_list PySem.F.slot_list_append PySem.F.type_list_append mt_append (pv 3) (pa_cons (pe_fn DC hr rfl (pa_cons (pv 1) (pa_cons (pv 2) (pa_cons (pe_callB call_len_seq (by rfl) T.len PySem.boot_len (pa_cons (pv 3) pa_nil)) pa_nil)))) pa_nil)))))
        (pss_cons (ps_while xown (pt_cmpR op_eq (pe_mt0 M.byte hr1 (pv 1)) (pe_cst TI.cLB) (nomark _)) (pss_one (ps_expr (pe_bm PySem.F.plainAttrs_list PySem.F.slot_list_append PySem.F.type_list_append mt_append (pv 3) (pa_cons (pe_fn DB hr rfl (pa_cons (pv 1) (pa_cons (pe_callB call_len_seq (by rfl) T.len PySem.boot_len (pa_cons (pv 3) pa_nil)) pa_nil))) pa_nil)))))
        (pss_cons (ps_if (pt_cmpR op_ne (pe_mt0 M.byte hr1 (pv 1)) (pe_cst T.cEND) (nomark _)) (pss_one (ps_raise T.xt hr2 rfl T.mC (pe_fld (pv 1) rfl))) pss_nil)
        (pss_one (ps_ret (pv 3))))))))))),?_⟩
    refine ⟨_,rfl,_,rfl,a,_,rfl,.inl hS,fun c dx hc0 hdx hne=>?_⟩
    have hlt:(tx t).length=t.length:=by unfold tx;rw [List.length_map]
    refine ⟨c,dx,a,0,t.length,by rw [hlt];rfl,upd_same,fun H1 hc1 k1=>⟨rfl,?_⟩⟩
    have s1:Same H H1:=Same.made hc0 hdx k1
    have u1:Cur K B H1 c a t 0 t.length:=⟨⟨dx,hc1⟩,s1.seq hS,Nat.zero_le _,Nat.le_refl _⟩
    have toH:∀ {Ha Hb:Hp},Same H Ha->Keep Ha Hb c->Same H Hb:=fun s k b o hb=>k _ _ (s _ _ hb) (fun z=>by rw [z,hc0] at hb;cases hb)
    have eR:=readInst_eq t
    refine ⟨_,rfl,c,a,t,rfl,u1,fun y hy=>kE y (by rw [eR,hy]),fun n q0 v0 hq0 H2 u2 k2 hv0=>?_⟩
    rw [hq0] at eR
    dsimp only at eR
    subst hv0
    have s2:=toH s1 k2
    refine ⟨Nat.zero_le _,fun mf hmf=>?_⟩
    have smf:=same_new (o:=.lst []) hmf
    have fmf:H mf=Option.none:=by
      cases q:H mf with
      | none=>rfl
      | some o=>rw [s2 _ _ q] at hmf;cases hmf
    refine ⟨fun mm σ H'=>∃ (fs:List Iv) (pos:Nat),mm=t.length - pos/\σ=[some (.ref a),some (.ref c),some (.ref mf),Option.none]/\Cur K B H' c a t pos t.length/\Same H H'/\NotesAt H' mf fs/\(∀ x ∈ fs,x.ok=true)/\fs.length<=15/\readInst t=li ⟨n,fs,[],[]⟩ pos (st t pos t.length),
      ⟨_,[],q0,rfl,rfl,u2.same smf,s2.trans smf,⟨[],upd_same,rfl,fun i b x hb=>by simp at hb⟩,(fun x hx=>nomatch hx),Nat.zero_le _,eR⟩,?_⟩
    rintro mm σ H3 ⟨fs,pos,rfl,rfl,u3,s3,hN3,hok3,h15,inv⟩
    obtain ⟨dx3,hc3⟩:=u3.at_
    refine ⟨_,rfl,c,dx3,_,rfl,hc3,cf_no _ _ _ (by decide) (by decide) (by decide),c,a,t,pos,t.length,rfl,u3,rfl,_,rfl,?_⟩
    rw [dint]
    obtain ⟨xs3,hx3,hl3⟩:=hN3.len
    refine ite2 (fun h=>?_) fun h=>?_
    · have h':headI (st t pos t.length)=102:=of_decide_eq_true h
      rw [li_fret h'] at inv
      refine ⟨fun σ' H'=>∃ (fs:List Iv) (q:Nat),pos < q/\σ'=[some (.ref a),some (.ref c),some (.ref mf),Option.none]/\Cur K B H' c a t q t.length/\Same H H'/\NotesAt H' mf fs/\(∀ x ∈ fs,x.ok=true)/\fs.length<=15/\readInst t=li ⟨n,fs,[],[]⟩ q (st t q t.length),?_,?_⟩
      · rintro σ' H' ⟨fs,q,hq,rfl,a1,a2,a3,a4,a5,a6⟩
        have:=a1.le
        exact ⟨t.length - q,by omega,fs,q,rfl,rfl,a1,a2,a3,a4,a5,a6⟩
      · refine ⟨_,rfl,.inl ⟨rfl,_,SqL.of hx3⟩,_,rfl,_,rfl,c,a,mf,t,pos,t.length,fs,rfl,u3,hN3,hok3,h15,fun y hy=>kE y (by rw [inv,goL_err hy]),fun x q v hR H4 b u4 k4 hv hb hokx=>?_⟩
        subst hv
        rw [goL_ok hR] at inv
        have hfull:=(lnR_ok hR).1
        have hlt15:¬ 15<=fs.length:=of_decide_eq_false hfull
        have hlen:=lnR_len hR
        rw [st_len u3.len,st_len u3.len] at hlen
        have hN4:=hN3.keep k4 hc3
        obtain ⟨xs4,hx4,hl4⟩:=hN4.len
        have s4:=toH s3 k4
        obtain ⟨dx4,hc4⟩:=u4.at_
        have ncm:c ≠ mf:=ne_of hc4 hx4 (by intro z;cases z)
        have s5:Same H (upd H4 mf (.lst (xs4++[.ref b]))):=fun z o hz=>by
          rw [upd_ne (fun w=>by rw [w,fmf] at hz;cases hz)]
          exact s4 _ _ hz
        refine ⟨mf,_,_,rfl,rfl,hx4,(by rw [hl4];exact Nat.lt_of_le_of_lt h15 (by show 15 < sizeLine;decide)),?_⟩
        refine ⟨fs++[x],q,by omega,rfl,mk_cur (dx:=dx4) (by rw [upd_ne ncm];exact hc4) s5 hS u4.le u4.len,s5,hN4.snoc hx4 hb,?_,?_,inv⟩
        · intro y hy
          rcases List.mem_append.mp hy with z | z
          · exact hok3 y z
          · rw [List.mem_singleton.mp z];exact hokx
        · rw [List.length_append,List.length_singleton]
          omega
    · have h102:¬ headI (st t pos t.length)=102:=fun z=>h (decide_eq_true z)
      clear h
      have hF:=li_first (n:=n) (p:=pos) (fs:=fs) h102
      refine ⟨_,rfl,_,rfl,c,a,mf,t,pos,t.length,0,fs,rfl,u3,hN3,hok3,h15,Nat.zero_le _,fun y hy=>?_,fun x q v hR H4 b u4 k4 hv hbf hNb hokx=>?_⟩
      · rcases hF with ⟨_,_,z,hz⟩ | hF
        · exact kE z (by rw [inv,hz])
        · exact kE y (by rw [inv,hF,goL_err hy])
      · subst hv
        have hF':li ⟨n,fs,[],[]⟩ pos (st t pos t.length)=li ⟨n,fs,[x],[]⟩ q (st t q t.length):=by
          rcases hF with ⟨y,hy,_⟩ | hF
          · rw [hy] at hR;cases hR
          · rw [hF,goL_ok hR]
        rw [hF'] at inv
        have hfine:=(lnR_ok hR).2.2
        have hN4:=hN3.keep k4 hc3
        have s4:=toH s3 k4
        refine ⟨(by show 1<=sizeLine;decide),fun mc hmc=>?_⟩
        have smc:=same_new (o:=.lst [.ref b]) hmc
        have fmc:H mc=Option.none:=by
          cases q:H mc with
          | none=>rfl
          | some o=>rw [s4 _ _ q] at hmc;cases hmc
        have nbm:b ≠ mc:=fun z=>by
          obtain ⟨_,z1,_⟩:=hNb
          rw [z,hmc] at z1
          cases z1
        have nmm:mf ≠ mc:=fun z=>by
          obtain ⟨_,z1,_⟩:=hN4.len
          rw [z,hmc] at z1
          cases z1
        have hT0:TabAt (upd H4 mc (.lst [.ref b])) mc ([x].mapIdx (row fs)):=by
          refine ⟨[b],upd_same,rfl,fun i b' l' hb' hl'=>?_⟩
          match i,hb',hl' with
          | 0,hb',hl'=>cases hb';cases hl';exact ⟨nbm,hNb.same smc⟩
          | i+1,hb',_=>simp at hb'
        have hso:∀ y ∈ ([x]:List Iv),∀ f ∈ fs,(y.plus f).ok=true:=fun y hy f hf=>by
          rw [List.mem_singleton.mp hy]
          exact List.all_eq_true.mp hfine f hf
        refine ⟨fun mm σ H'=>∃ (cs:List Iv) (pos:Nat),mm=t.length - pos/\σ=[some (.ref a),some (.ref c),some (.ref mf),some (.ref mc)]/\Cur K B H' c a t pos t.length/\Same H H'/\NotesAt H' mf fs/\TabAt H' mc (cs.mapIdx (row fs))/\cs ≠ []/\(∀ x ∈ cs,x.ok=true)/\cs.length<=14/\(∀ y ∈ cs,∀ f ∈ fs,(y.plus f).ok=true)/\readInst t=li ⟨n,fs,cs,[]⟩ pos (st t pos t.length),
          ⟨_,[x],q,rfl,rfl,u4.same smc,s4.trans smc,hN4.same smc,hT0,by simp,fun y hy=>by rw [List.mem_singleton.mp hy];exact hokx,by show 1<=14;decide,hso,inv⟩,?_⟩
        clear inv hF hF' hT0 hso u4 k4 hR hN4 s4 hNb smc hmc nbm hbf
        rintro mm σ H5 ⟨cs,pos5,rfl,rfl,u5,s5,hN5,hT5,hne5,hok5,h14,hso5,inv⟩
        obtain ⟨dx5,hc5⟩:=u5.at_
        obtain ⟨xs5,hx5,hl5⟩:=hT5.len
        rw [List.length_mapIdx] at hl5
        refine ⟨_,rfl,c,dx5,_,rfl,hc5,cf_no _ _ _ (by decide) (by decide) (by decide),c,a,t,pos5,t.length,rfl,u5,rfl,_,rfl,?_⟩
        rw [dint]
        refine ite2 (fun h=>?_) fun h=>?_
        · have h':headI (st t pos5 t.length)=99:=of_decide_eq_true h
          rw [li_course hne5 h'] at inv
          refine ⟨fun σ' H'=>∃ (cs:List Iv) (q:Nat),pos5 < q/\σ'=[some (.ref a),some (.ref c),some (.ref mf),some (.ref mc)]/\Cur K B H' c a t q t.length/\Same H H'/\NotesAt H' mf fs/\TabAt H' mc (cs.mapIdx (row fs))/\cs ≠ []/\(∀ x ∈ cs,x.ok=true)/\cs.length<=14/\(∀ y ∈ cs,∀ f ∈ fs,(y.plus f).ok=true)/\readInst t=li ⟨n,fs,cs,[]⟩ q (st t q t.length),?_,?_⟩
          · rintro σ' H' ⟨cs,q,hq,rfl,a1,a2,a3,a4,a5,a6,a7,a8,a9⟩
            have:=a1.le
            exact ⟨t.length - q,by omega,cs,q,rfl,rfl,a1,a2,a3,a4,a5,a6,a7,a8,a9⟩
          · refine ⟨_,rfl,.inl ⟨rfl,_,SqL.of hx5⟩,_,rfl,_,rfl,_,rfl,mc,_,rfl,.inl (SqL.of hx5),c,a,mf,t,pos5,t.length,cs.length,fs,by rw [hl5];rfl,u5,hN5,hok3,h15,h14,fun y hy=>kE y (by rw [inv,goL_err hy]),fun x q v hR H6 b u6 k6 hv hbf hNb hokx=>?_⟩
            subst hv
            rw [goL_ok hR] at inv
            have hR':=lnR_ok hR
            have hlt14:¬ 14<=cs.length:=of_decide_eq_false hR'.1
            have hlen:=lnR_len hR
            rw [st_len u5.len,st_len u5.len] at hlen
            have hN6:=hN5.keep k6 hc5
            have hT6:=hT5.keep k6 hc5
            obtain ⟨xs6,hx6,hl6⟩:=hT6.len
            rw [List.length_mapIdx] at hl6
            have s6:=toH s5 k6
            obtain ⟨dx6,hc6⟩:=u6.at_
            have ncm:c ≠ mc:=ne_of hc6 hx6 (by intro z;cases z)
            have nbm:b ≠ mc:=fun z=>by
              rw [z,hx5] at hbf
              cases hbf
            have s7:Same H (upd H6 mc (.lst (xs6++[.ref b]))):=fun z o hz=>by
              rw [upd_ne (fun w=>by rw [w,fmc] at hz;cases hz)]
              exact s6 _ _ hz
            refine ⟨mc,_,_,rfl,rfl,hx6,(by rw [hl6];exact Nat.lt_of_le_of_lt h14 (by show 14 < sizeLine;decide)),?_⟩
            refine ⟨cs++[x],q,by omega,rfl,mk_cur (dx:=dx6) (by rw [upd_ne ncm];exact hc6) s7 hS u6.le u6.len,s7,hN6.upd hx6 nmm,?_,by simp,?_,?_,?_,inv⟩
            · rw [List.mapIdx_concat]
              exact hT6.snoc hx6 hNb nbm
            · intro y hy
              rcases List.mem_append.mp hy with z | z
              · exact hok5 y z
              · rw [List.mem_singleton.mp z];exact hokx
            · rw [List.length_append,List.length_singleton]
              omega
            · intro y hy f hf
              rcases List.mem_append.mp hy with z | z
              · exact hso5 y z f hf
              · rw [List.mem_singleton.mp z]
                exact List.all_eq_true.mp hR'.2.2 f hf
        · have h99:¬ headI (st t pos5 t.length)=99:=fun z=>h (decide_eq_true z)
          clear h
          refine ⟨fun mm σ H'=>∃ (bs:List Iv) (pos:Nat),mm=t.length - pos/\σ=[some (.ref a),some (.ref c),some (.ref mf),some (.ref mc)]/\Cur K B H' c a t pos t.length/\Same H H'/\TabAt H' mc (cs.mapIdx (row fs)++bs.map fun x=>[x])/\(bs=[]->¬ headI (st t pos t.length)=99)/\(∀ x ∈ bs,x.ok=true)/\cs.length+bs.length<=14/\readInst t=li ⟨n,fs,cs,bs⟩ pos (st t pos t.length),
            ⟨_,[],pos5,rfl,rfl,u5,s5,by rw [List.map_nil,List.append_nil];exact hT5,fun _=>h99,(fun x hx=>nomatch hx),h14,inv⟩,?_⟩
          clear inv
          rintro mm σ H6 ⟨bs,pos6,rfl,rfl,u6,s6,hT6,hb99,hokb,hn14,inv⟩
          obtain ⟨dx6,hc6⟩:=u6.at_
          obtain ⟨xs6,hx6,hl6⟩:=hT6.len
          rw [List.length_append,List.length_mapIdx,List.length_map] at hl6
          refine ⟨_,rfl,c,dx6,_,rfl,hc6,cf_no _ _ _ (by decide) (by decide) (by decide),c,a,t,pos6,t.length,rfl,u6,rfl,_,rfl,?_⟩
          rw [dint]
          refine ite2 (fun h=>?_) fun h=>?_
          · have h':headI (st t pos6 t.length)=98:=of_decide_eq_true h
            rw [li_bass hne5 h'] at inv
            refine ⟨fun σ' H'=>∃ (bs:List Iv) (q:Nat),pos6 < q/\σ'=[some (.ref a),some (.ref c),some (.ref mf),some (.ref mc)]/\Cur K B H' c a t q t.length/\Same H H'/\TabAt H' mc (cs.mapIdx (row fs)++bs.map fun x=>[x])/\(bs=[]->¬ headI (st t q t.length)=99)/\(∀ x ∈ bs,x.ok=true)/\cs.length+bs.length<=14/\readInst t=li ⟨n,fs,cs,bs⟩ q (st t q t.length),?_,?_⟩
            · rintro σ' H' ⟨bs,q,hq,rfl,a1,a2,a3,a4,a5,a6,a7⟩
              have:=a1.le
              exact ⟨t.length - q,by omega,bs,q,rfl,rfl,a1,a2,a3,a4,a5,a6,a7⟩
            · refine ⟨_,rfl,.inl ⟨rfl,_,SqL.of hx6⟩,_,rfl,_,rfl,mc,_,rfl,.inl (SqL.of hx6),c,a,t,pos6,t.length,cs.length+bs.length,by rw [hl6];rfl,u6,hn14,fun y hy=>kE y (by rw [inv,goL_err hy]),fun x q v hR H7 b u7 k7 hv hbf hNb hokx=>?_⟩
              subst hv
              rw [goL_ok hR] at inv
              have hlt14:¬ 14<=cs.length+bs.length:=of_decide_eq_false (lnR_ok hR).1
              have hlen:=lnR_len hR
              rw [st_len u6.len,st_len u6.len] at hlen
              have hT7:=hT6.keep k7 hc6
              obtain ⟨xs7,hx7,hl7⟩:=hT7.len
              rw [List.length_append,List.length_mapIdx,List.length_map] at hl7
              have s7:=toH s6 k7
              obtain ⟨dx7,hc7⟩:=u7.at_
              have ncm:c ≠ mc:=ne_of hc7 hx7 (by intro z;cases z)
              have nbm:b ≠ mc:=fun z=>by
                rw [z,hx6] at hbf
                cases hbf
              have s8:Same H (upd H7 mc (.lst (xs7++[.ref b]))):=fun z o hz=>by
                rw [upd_ne (fun w=>by rw [w,fmc] at hz;cases hz)]
                exact s7 _ _ hz
              refine ⟨mc,_,_,rfl,rfl,hx7,(by rw [hl7];exact Nat.lt_of_le_of_lt hn14 (by show 14 < sizeLine;decide)),?_⟩
              refine ⟨bs++[x],q,by omega,rfl,mk_cur (dx:=dx7) (by rw [upd_ne ncm];exact hc7) s8 hS u7.le u7.len,s8,?_,fun z=>by simp at z,?_,?_,inv⟩
              · rw [List.map_append,<- List.append_assoc]
                exact hT7.snoc hx7 hNb nbm
              · intro y hy
                rcases List.mem_append.mp hy with z | z
                · exact hokb y z
                · rw [List.mem_singleton.mp z];exact hokx
              · rw [List.length_append,List.length_singleton]
                omega
          · have h98:¬ headI (st t pos6 t.length)=98:=fun z=>h (decide_eq_true z)
            have hE:=li_end (n:=n) (p:=pos6) (fs:=fs) hne5 hb99 h98
            refine ⟨_,rfl,c,dx6,_,rfl,hc6,cf_no _ _ _ (by decide) (by decide) (by decide),c,a,t,pos6,t.length,rfl,u6,rfl,_,rfl,?_⟩
            refine ite2 (fun h=>?_) fun h=>?_
            · have hne:¬ headI (st t pos6 t.length)=-1:=fun z=>by
                rw [z] at h
                exact absurd h (by decide)
              obtain ⟨y,hy⟩:=hE.2 hne
              exact ⟨_,rfl,c,B,dx6,_,_,rfl,hc6,T.cl,T.nP,cf_place _ _ _,_,rfl,fun d hd=>kE y (by rw [inv,hy]) _ _ d upd_same⟩
            · have heq:headI (st t pos6 t.length)=-1:=by
                by_cases z:headI (st t pos6 t.length)=-1
                · exact z
                · refine absurd ?_ h
                  show (!decide (V.int (headI (st t pos6 t.length))=V.int (-1)))=true
                  rw [dint,decide_eq_false z]
                  rfl
              rw [hE.1 heq] at inv
              exact ⟨_,rfl,kQ _ inv ⟨hok3,h15,hok5,hokb,hn14,hso5⟩ H6 mc s6 hT6⟩
end
end Lu
namespace Lu
open PySem PySem.Spec PyProof.Rows L2 Lute LuR LuW LuteSong
theorem SqL.kb {K:PySem.W.Frag} {H H':Hp} {a Pt:Addr} {xs:List V} {ps:Array Value} (h:SqL K H a xs) (k:KeepBut Pt H H') (hP:H Pt=some (.tbl ps)):SqL K H' a xs:=by
  rcases h with (h | ⟨o,h⟩) | h
  · exact .inl (.inl (k _ _ h (ne_of h hP (by intro z;cases z))))
  · exact .inl (.inr ⟨o,k _ _ h (ne_of h hP (by intro z;cases z))⟩)
  · exact .inr h
theorem SqL.ovl {K:PySem.W.Frag} {H:Hp} {a:Addr} {xs:List V} {cs:List (Addr × Obj)} (h:SqL K H a xs) (n:∀ c o,cs.lookup c=some o->H c=none):SqL K (L2.ovl H cs) a xs:=by
  rcases h with (h | ⟨o,h⟩) | h
  · exact .inl (.inl (ovl_keep n h))
  · exact .inl (.inr ⟨o,ovl_keep n h⟩)
  · exact .inr h
theorem SongAt.unt {H:Hp} {m:Addr} {so:Song} {cs:List (Addr × Obj)} (h:SongAt H m so) (hc:∀ c o,cs.lookup c=some o->H c=some (fz o)):SongAt (L2.unt H cs) m so:=
  h.move fun b o hb hk=>unt_keep hc hb fun z e=>by
    rcases hk with ⟨xs,q⟩ | ⟨xs,q⟩ <;> (rw [q] at e;cases e)
def lamIn (s:Stmt):Expr:=match (defBody s).getLast? with
  | some (.Return (some (.Call _ es _ _)) _)=>es.getLast?.getD (.Constant .none 0 ⟨0,0,0,0⟩)
  | _=>.Constant .none 0 ⟨0,0,0,0⟩
def lamSc (e:Expr):Scope:=match e with
  | .Lambda _ _ sc _=>sc
  | _=>default
end Lu
namespace Lu
open PySem PySem.Spec PyProof.Rows L2 Lute LuR LuW LuteSong LuI
def Rdr (sp:Sp) (a:Addr) (H:Hp) (ok:V->Hp->Prop) (er:Prop):Prop:=∀ (Q:VK) (E:XK),(∀ v H1,ok v H1->Q v H1)->(er->∀ c d H',E c d H')->sp [.ref a] H Q E
def Says (Q:VK) (z:Int):Prop:=∀ (H':Hp) (p:Addr),H' p=some (.lst [.int z])->Q (.ref p) H'
section
variable (P:Program) (w:World) (K:PySem.W.Frag) (mg:Str->Option Value) (base:Heap) (C:Addr) (k:Nat)
def spAT:Sp:=fun vs H Q _=>∃ (a1 g1 a2 g2 ga:Addr) (n1:Nat) (sp1:Sp) (ok1:V->Hp->Prop) (er1:Prop),vs=[.ref a1,.ref g1,.ref a2,.ref g2,.ref ga]/\Clb P w K mg base C 19 H g1 n1 sp1/\Rdr sp1 a1 H ok1 er1/\(er1->Says Q (-6)) ∧
  ∀ v1 H1,ok1 v1 H1->∃ (m1:Addr) (n2:Nat) (sp2:Sp) (ok2:V->Hp->Prop) (er2:Prop),v1=.ref m1/\Clb P w K mg base C 19 H1 g2 n2 sp2/\Rdr sp2 a2 H1 ok2 er2/\(er2->Says Q (-8)) ∧
  ∀ v2 H2,ok2 v2 H2->∃ (m2:Addr) (n:Nat) (sp':Sp),v2=.ref m2/\Clb P w K mg base C k H2 ga n sp'/\sp' [.ref m1,.ref m2] H2 Q E0
def spASI:Sp:=fun vs H Q _=>∃ (a ai ga:Addr) (t ti:Bytes),vs=[.ref a,.ref ai,.ref ga]/\SqL K H a (tx t)/\SqL K H ai (tx ti)/\(65536 < t.length\/4096 < ti.length->Says Q (-2)) ∧
  (¬ (65536 < t.length\/4096 < ti.length)->(∀ x,readSong t=.error x->Says Q (-6))/\∀ so,readSong t=.ok so->(∀ x,readInst ti=.error x->Says Q (-8)) ∧
    ∀ ins,readInst ti=.ok ins->InOk ins->∃ n sp',Clb P w K mg base C k H ga n sp'/\∀ (H':Hp) (m m':Addr),Same H H'->SongAt H' m so->TabAt H' m' (tab ins)->sp' [.ref m,.ref m'] H' Q E0)
end
structure Txt3 (mg:Str->Option Value):Prop where
  cN2:Cst mg "NO_SECOND_TEXT" (.int (-8))
  cMI:Cst mg "MOST_INSTRUMENT_BYTES" (.int 4096)
theorem rdr_song {K:PySem.W.Frag} {C a:Addr} {H:Hp} {t:Bytes} (hS:SqL K H a (tx t)):Rdr (spSong K C) a H (fun v H1=>∃ m so,v=.ref m/\readSong t=.ok so/\Same H H1/\SongAt H1 m so) (∃ x,readSong t=.error x):=fun Q E hQ hE=>
  ⟨a,t,rfl,hS,fun x hx H' d _=>hE ⟨x,hx⟩ _ _ _,fun so hso H' m sH hA=>hQ _ _ ⟨m,so,rfl,hso,sH,hA⟩⟩
theorem rdr_inst {K:PySem.W.Frag} {C a:Addr} {H:Hp} {t:Bytes} (hS:SqL K H a (tx t)):Rdr (spInst K C) a H (fun v H1=>∃ m i,v=.ref m/\readInst t=.ok i/\InOk i/\Same H H1/\TabAt H1 m (tab i)) (∃ x,readInst t=.error x):=fun Q E hQ hE=>
  ⟨a,t,rfl,hS,fun x hx y H' d _=>hE ⟨x,hx⟩ _ _ _,fun i hi hok H' m sH hA=>hQ _ _ ⟨m,i,rfl,hi,hok,sH,hA⟩⟩
section
variable {P:Program} {w:World} {K:PySem.W.Frag} {mg:Str->Option Value} {base:Heap} {B C:Addr}
theorem scAX:FnScope ["first","read_first","second","read_second","answer","told_first","told_second"] ["first","read_first","second","read_second","answer"] (defScope s_asked_of_texts):=⟨rfl,rfl,rfl,by decide +kernel,rfl,by decide +kernel,by decide +kernel⟩
theorem ok_askedT {k:Nat} (hk:20<=k) {f:Addr} {fd:FuncData} (F:Fun K "asked_of_texts" "asked_of_texts" s_asked_of_texts f fd) (T2:Txt2 mg) (T3:Txt3 mg) (DR:Dfn0 P w K mg base 20 "read_or_none" ["read","text"] (spRON P w K mg base C)):
    FnOk P w K mg base CX0 (k+1) f fd ["first","read_first","second","read_second","answer"] (spAT P w K mg base C k):=by
  refine F.ok scAX (fun vs H Q E h=>?_) (fun cdv A outer s H vs Q E hr h=>?_)
  · obtain ⟨a1,g1,a2,g2,ga,n1,sp1,ok1,er1,rfl,_⟩:=h
    rfl
  · obtain ⟨a1,g1,a2,g2,ga,n1,sp1,ok1,er1,rfl,C1,R1,e6,nx⟩:=h
    refine ⟨_,pss_cons (ps_set (i:=5) scAX.nd rfl (Or.inl rfl) (pe_fn0 DR (hr.mono hk) rfl (pa_cons (pv 1) (pa_cons (pv 0) pa_nil))))
      (pss_cons (ps_if (pt_cmpR op_isN (pv 5) pe_non (nomark _)) (pss_one (ps_ret (pe_lst (pa_cons (pe_cst T2.cNS) pa_nil)))) pss_nil)
      (pss_cons (ps_set (i:=6) scAX.nd rfl (Or.inl rfl) (pe_fn0 DR (hr.mono hk) rfl (pa_cons (pv 3) (pa_cons (pv 2) pa_nil))))
      (pss_cons (ps_if (pt_cmpR op_isN (pv 6) pe_non (nomark _)) (pss_one (ps_ret (pe_lst (pa_cons (pe_cst T3.cN2) pa_nil)))) pss_nil)
      (pss_one (ps_ret (pe_clb (P:=P) (w:=w) (K:=K) (mg:=mg) (base:=base) (C:=C) (i:=4) (k:=k) (E:=E0) rfl (Or.inl rfl) hr passF (pa_cons (pv 5) (pa_cons (pv 6) pa_nil)))))))),?_⟩
    refine ⟨_,rfl,_,rfl,g1,a1,n1,sp1,rfl,C1,R1 _ _ (fun v1 H1 hv1=>?_) fun he c d H'=>?_⟩
    · obtain ⟨m1,n2,sp2,ok2,er2,rfl,C2,R2,e8,nx2⟩:=nx v1 H1 hv1
      refine ⟨_,rfl,rfl,_,rfl,ite2 (fun z=>?_) fun _=>?_⟩
      · have z':V.ref m1=V.non:=of_decide_eq_true z
        cases z'
      · refine ⟨_,rfl,_,rfl,g2,a2,n2,sp2,rfl,C2,R2 _ _ (fun v2 H2 hv2=>?_) fun he c d H'=>?_⟩
        · obtain ⟨m2,n,sp',rfl,C3,hsp⟩:=nx2 v2 H2 hv2
          refine ⟨_,rfl,rfl,_,rfl,ite2 (fun z=>?_) fun _=>?_⟩
          · have z':V.ref m2=V.non:=of_decide_eq_true z
            cases z'
          · exact ⟨ga,rfl,_,rfl,_,rfl,n,sp',C3,hsp⟩
        · refine ⟨_,rfl,rfl,_,rfl,ite2 (fun _=>?_) fun z=>absurd (decide_eq_true rfl) z⟩
          exact ⟨(by show 1<=sizeLine;decide),fun p hp=>e8 he _ p upd_same⟩
    · refine ⟨_,rfl,rfl,_,rfl,ite2 (fun _=>?_) fun z=>absurd (decide_eq_true rfl) z⟩
      exact ⟨(by show 1<=sizeLine;decide),fun p hp=>e6 he _ p upd_same⟩
theorem scASI:FnScope ["s","i","answer"] ["s","i","answer"] (defScope s_asked_of_song_and_instrument):=⟨rfl,rfl,rfl,by decide +kernel,rfl,by decide +kernel,by decide +kernel⟩
theorem ok_askedSI {k:Nat} (hk:20<=k) {f:Addr} {fd:FuncData} (F:Fun K "asked_of_song_and_instrument" "asked_of_song_and_instrument" s_asked_of_song_and_instrument f fd) (T:Txt K mg B C) (T2:Txt2 mg) (T3:Txt3 mg)
    (DA:Dfn0 P w K mg base (k+1) "asked_of_texts" ["first","read_first","second","read_second","answer"] (spAT P w K mg base C k)) (DS:Dfn P w K mg base C 15 "read_song" ["text"] (spSong K C)) (DN:Dfn P w K mg base C 10 "read_instrument" ["text"] (spInst K C)):
    FnOk P w K mg base CX0 (k+2) f fd ["s","i","answer"] (spASI P w K mg base C k):=by
  refine F.ok scASI (fun vs H Q E h=>?_) (fun cdv A outer s H vs Q E hr h=>?_)
  · obtain ⟨a,ai,ga,t,ti,rfl,_⟩:=h
    rfl
  · obtain ⟨a,ai,ga,t,ti,rfl,hS,hSi,kL,kS⟩:=h
    obtain ⟨gs,hgs,CLs⟩:=DS.clb
    obtain ⟨gi,hgi,CLi⟩:=DN.clb
    have htx:∀ t:Bytes,(tx t).length=t.length:=fun t=>by unfold tx;rw [List.length_map]
    refine ⟨_,pss_cons (ps_if (PW.pt (pw_or (pt_cmpR op_gt (pe_callB call_len_seq (by rfl) T.len PySem.boot_len (pa_cons (pv 0) pa_nil)) (pe_cst T2.cMB) (nomark _)) (pw_or1 (pt_cmpR op_gt (pe_callB call_len_seq (by rfl) T.len PySem.boot_len (pa_cons (pv 1) pa_nil)) (pe_cst T3.cMI) (nomark _))))) (pss_one (ps_ret (pe_lst (pa_cons (pe_cst T2.cTL) pa_nil)))) pss_nil)
      (pss_one (ps_ret (pe_fn0 DA hr rfl (pa_cons (pv 0) (pa_cons (pe_fnv hgs) (pa_cons (pv 1) (pa_cons (pe_fnv hgi) (pa_cons (pv 2) pa_nil)))))))),?_⟩
    refine ⟨_,rfl,a,_,rfl,.inl hS,_,_,rfl,rfl,_,rfl,?_⟩
    rw [htx]
    refine or_test (b2:=decide ((4096:Int) < (ti.length:Int))) (fun Q' q=>⟨_,rfl,ai,_,rfl,.inl hSi,_,_,rfl,rfl,_,rfl,by rw [htx];exact q⟩) ?_
    refine ite2 (fun h=>?_) fun h=>?_
    · rw [Bool.or_eq_true,decide_eq_true_eq,decide_eq_true_eq] at h
      exact ⟨(by show 1<=sizeLine;decide),fun p hp=>kL (by omega) _ p upd_same⟩
    · rw [Bool.or_eq_true,decide_eq_true_eq,decide_eq_true_eq] at h
      obtain ⟨k6,kQ⟩:=kS (by omega)
      refine ⟨_,rfl,_,rfl,_,rfl,a,gs,ai,gi,ga,1,spSong K C,_,_,rfl,(CLs H).mono (by decide),rdr_song hS,fun ⟨x,hx⟩=>k6 x hx,?_⟩
      rintro v1 H1 ⟨m,so,rfl,hso,s1,hA⟩
      obtain ⟨k8,kI⟩:=kQ so hso
      refine ⟨m,1,spInst K C,_,_,rfl,(CLi H1).mono (by decide),rdr_inst (s1.seq hSi),fun ⟨x,hx⟩=>k8 x hx,?_⟩
      rintro v2 H2 ⟨m2,ins,rfl,hins,hok,s2,hT⟩
      obtain ⟨n,sp',CL,hsp⟩:=kI ins hins hok
      exact ⟨m2,n,sp',rfl,CL.on (Frz.of (s1.trans s2)),hsp H2 m m2 (s1.trans s2) (hA.same s2) hT⟩
end
end Lu
namespace Lu
open Lute LuteSong LuteTab LuW LuC
theorem plus_unison {x:Iv} (h:x.ok=true):x.plus unison=x:=by
  obtain ⟨_,_,_,_,h1,_,hc⟩:=ok_parts h
  have e:x.plus unison=Iv.low x:=by
    unfold Iv.plus
    congr 1
    cases x
    simp [unison]
  rw [e]
  unfold Iv.low
  rw [hc]
  cases x
  simp
theorem stop_ok (c f:Nat) (hc:1<=c) (h14:c<=14) (hf:f<=15):(⟨c,f⟩:Stop).ok=decide (c<=6\/f=0):=by
  unfold Stop.ok
  dsimp only
  rw [decide_eq_true hc,Bool.true_and]
  by_cases h6:c<=6
  · rw [if_pos h6,decide_eq_true hf,decide_eq_true (.inl h6)]
  · rw [if_neg h6,decide_eq_true h14,Bool.true_and]
    by_cases h0:f=0
    · rw [h0,decide_eq_true (.inr rfl)]
      rfl
    · rw [decide_eq_false (fun z=>z.elim h6 h0)]
      exact beq_eq_false_iff_ne.mpr h0
theorem stops_eq {t:Inst} (h:InOk t) {i:Nat} (hi:i < t.opens.length):stopsOn t (i+1)=(((List.range (t.many (i+1)+1)).filter fun f=>decide (i+1<=6\/f=0)).map fun f=>(⟨i+1,f⟩:Stop)):=by
  unfold stopsOn
  rw [List.filter_map]
  congr 1
  refine List.filter_congr fun f hf=>?_
  have hf':f<=t.many (i+1):=by have:=List.mem_range.mp hf;omega
  have h15:t.many (i+1)<=15:=by
    unfold Inst.many
    split
    · exact h.f15
    · exact Nat.zero_le _
  have h14:i+1<=14:=by
    have:=h.n14
    unfold Inst.opens at hi
    rw [List.length_append] at hi
    omega
  show ((⟨i+1,f⟩:Stop).ok && t.place (i+1) f)=_
  rw [stop_ok _ _ (by omega) h14 (by omega)]
  unfold Inst.place
  rw [decide_eq_true (show 1<=i+1 by omega),decide_eq_true (show i+1<=t.opens.length by omega),decide_eq_true hf']
  simp
theorem range_map_getD (fs:List Iv) (x:Iv):((List.range fs.length).map fun f=>x.plus (fs.getD f unison))=fs.map x.plus:=by
  refine List.ext_getElem (by simp) fun i h1 h2=>?_
  simp only [List.getElem_map,List.getElem_range]
  rw [List.getD_eq_getElem?_getD,List.getElem?_eq_getElem (by simpa using h2)]
  rfl
theorem sounds_row {t:Inst} (h:InOk t) {i:Nat} (hi:i < t.opens.length):((stopsOn t (i+1)).map fun s=>t.sounds s.course s.fret)=if i < t.courses.length then row t.frets i t.opens[i] else [t.opens[i]]:=by
  have hok:t.opens[i].ok=true:=by
    have hm:t.opens[i] ∈ t.opens:=List.getElem_mem hi
    unfold Inst.opens at hm
    rcases List.mem_append.mp hm with z | z
    · exact h.co _ z
    · exact h.ba _ z
  have hg:t.opens.getD i unison=t.opens[i]:=by rw [List.getD_eq_getElem?_getD,List.getElem?_eq_getElem hi];rfl
  rw [stops_eq h hi,List.map_map]
  have e:((fun s:Stop=>t.sounds s.course s.fret) ∘ fun f=>(⟨i+1,f⟩:Stop))=fun f=>t.opens[i].plus (t.fret f):=by
    funext f
    show (t.opens.getD (i+1 - 1) unison).plus (t.fret f)=_
    rw [Nat.add_sub_cancel,hg]
  rw [e]
  have e0:t.opens[i].plus (t.fret 0)=t.opens[i]:=plus_unison hok
  have one:((List.range (t.many (i+1)+1)).filter fun f=>decide (f=0))=[0]:=by
    rw [List.range_succ_eq_map,List.filter_cons,if_pos (by rfl),List.filter_eq_nil_iff.mpr]
    intro f hf
    obtain ⟨g,_,rfl⟩:=List.mem_map.mp hf
    simp
  by_cases hc:i < t.courses.length
  · rw [if_pos hc]
    unfold row
    by_cases h6:i < 6
    · rw [if_pos h6,List.filter_eq_self.mpr (fun f _=>decide_eq_true (.inl (by omega)))]
      have em:t.many (i+1)=t.frets.length:=by unfold Inst.many;rw [if_pos (by omega)]
      rw [em,List.range_succ_eq_map,List.map_cons,List.map_map,e0,<- range_map_getD]
      congr 1
    · rw [if_neg h6]
      have ef:(fun f=>decide (i+1<=6\/f=0))=fun f:Nat=>decide (f=0):=by
        funext f
        by_cases z:f=0
        · rw [decide_eq_true (.inr z),decide_eq_true z]
        · rw [decide_eq_false (fun q=>q.elim (by omega) z),decide_eq_false z]
      rw [ef,one,List.map_cons,e0]
      all_goals rfl
  · rw [if_neg hc]
    have em:t.many (i+1)=0:=by unfold Inst.many;rw [if_neg (by omega)]
    rw [em]
    have:((List.range (0+1)).filter fun f=>decide (i+1<=6\/f=0))=[0]:=by
      show ([0]:List Nat).filter (fun f=>decide (i+1<=6\/f=0))=[0]
      rw [List.filter_cons,if_pos (decide_eq_true (.inr rfl))]
      rfl
    rw [this,List.map_cons,e0]
    all_goals rfl
theorem opens_left {t:Inst} {i:Nat} (hi:i < t.opens.length) (hc:i < t.courses.length):t.opens[i]=t.courses[i]:=List.getElem_append_left (bs:=t.basses) hc
theorem opens_right {t:Inst} {i:Nat} (hi:i < t.opens.length) (hc:t.courses.length<=i) (hb:i - t.courses.length < t.basses.length):t.opens[i]=t.basses[i - t.courses.length]:=List.getElem_append_right (as:=t.courses) (bs:=t.basses) hc
theorem tab_eq {t:Inst} (h:InOk t):tab t=((List.range t.opens.length).map fun i=>i+1).map fun c=>(stopsOn t c).map fun s=>t.sounds s.course s.fret:=by
  have hl:t.opens.length=t.courses.length+t.basses.length:=by unfold Inst.opens;rw [List.length_append]
  show t.courses.mapIdx (row t.frets)++t.basses.map (fun x=>[x])=_
  refine List.ext_getElem ?_ fun i h1 h2=>?_
  · simp [hl]
  · have hi:i < t.opens.length:=by simpa using h2
    rw [List.getElem_map,List.getElem_map,List.getElem_range,sounds_row h hi]
    by_cases hc:i < t.courses.length
    · rw [if_pos hc,List.getElem_append_left (by simpa using hc),List.getElem_mapIdx,opens_left hi hc]
    · rw [if_neg hc,List.getElem_append_right (by simpa using hc),List.getElem_map,opens_right hi (by omega) (by omega)]
      simp
theorem ways_cnt {t:Inst} (h:InOk t) (l:List Iv):(placings t l).length=cnt (tab t) l:=by
  unfold placings
  rw [placed_cnt,<- tab_eq h]
theorem tab_ok {t:Inst} (h:InOk t):∀ r ∈ tab t,(∀ x ∈ r,x.ok=true)/\r.length<=16:=by
  intro r hr
  unfold tab at hr
  rcases List.mem_append.mp hr with z | z
  · obtain ⟨i,hi,rfl⟩:=List.mem_mapIdx.mp z
    have hm:=List.getElem_mem hi
    unfold row
    split
    · refine ⟨fun x hx=>?_,by simp only [List.length_cons,List.length_map];have:=h.f15;omega⟩
      rcases List.mem_cons.mp hx with q | q
      · rw [q];exact h.co _ hm
      · obtain ⟨f,hf,rfl⟩:=List.mem_map.mp q
        exact h.so _ hm f hf
    · refine ⟨fun x hx=>?_,by simp⟩
      rw [List.mem_singleton.mp hx]
      exact h.co _ hm
  · obtain ⟨x,hx,rfl⟩:=List.mem_map.mp z
    refine ⟨fun y hy=>?_,by simp⟩
    rw [List.mem_singleton.mp hy]
    exact h.ba _ hx
end Lu
namespace L2
open PySem PySem.Spec PyProof.Rows
section
variable {prog:Program} {w:World} {A:Around} {E:Value->Shared->Prop} {s:Shared}
theorem lenT_meets {d:Addr} (hd:(d == sysModules)=false):MeetsIn prog w (Builtin.«dict.__len__» ⟨[.ref d],[]⟩) (fun _ R s=>∃ xs,s.heap.DictOfH (tupleKind (mixKind prog w)) d xs/\R (.ok (.ret (.int xs.length s.toks))) { s with toks:=s.toks+1 }):=
  .of_wp fun A R s ⟨xs,⟨o,es,ep,ho,hc,hdat,hes,_,_⟩,h⟩=>by
    have n:es.size=xs.length:=by rw [<- Array.length_toList,hes,List.length_map]
    show wpAny _ _ (dictSize d >>= _) _ _ s;unfold dictSize;refine wpAny_bind (wpAny_bind (wpAny_dictEntries ho hdat (wpAny_pure ?_)));show wpAny _ _ (Builtin.Dict.pendingCount d >>= _) _ _ s
    exact wpAny_bind (wpAny_pendingCount_other hd (wpAny_ret_mkInt (by rw [Nat.add_zero,n];exact h)))
theorem lenT_call {d:Addr} {xs:List (List Key × Addr × Value)} {Q:Value->Shared->Prop} (hd:(d == sysModules)=false) (hm:s.heap.DictOfH (tupleKind (mixKind prog w)) d xs) (hf:(xs.length:Int) < 2 ^ 63)
    (h:Q (.int xs.length (s.toks+1)) { s with toks:=s.toks+1+1 }):wpAny (model prog w) A (call (.builtin "len") [.ref d]) Q E s:=by
  refine Calls.call_function_entry kind_len plain_len entry_len (args_len1 _) ?_;unfold Builtin.«len»;refine wpAny_bind (m:=oneArg "len" _) (wpAny_pure (wpAny_bind (m:=callSpecial? (.ref d) (Str.ofString "__len__")) (wpAny_callSpecial?_slot (name:=Str.ofString "__len__") hm.typeIs F.slot_dict_len
    (call_meetsIn F.slot_dict_len hm.typeIs F.entry_dict_len (F.args_dict_len_1 _) (lenT_meets hd) ⟨xs,hm,?_⟩))))
  show wpAny _ _ _ _ _ { s with toks:=s.toks+1 };refine wpAny_bind (wpAny_holding (wpAny_pure (wpAny_bind (wpAny_letGo ?_))))
  show wpAny _ _ (if ((xs.length:Nat):Int) < 0 then _ else _) _ _ _;rw [if_neg (by omega)];show wpAny _ _ (if ((xs.length:Nat):Int) ≥ 2 ^ 63 then _ else _) _ _ _;rw [if_neg (by omega)]
  exact wpAny_bind (wpAny_mkInt (wpAny_pure ⟨_,rfl,h⟩))
end
theorem call_lenT {X:Cx}:CallR X (.builtin "len") (fun xs H Q=>∃ a kvs,xs=[V.ref a]/\H a=some (.dT kvs)/\Q (.int kvs.length) H):=by
  intro pins s σ H xs us Q I r h
  obtain ⟨a,kvs,rfl,ha,q⟩:=h
  obtain ⟨u,rfl,ru⟩:=vals1 r
  cases ru
  obtain ⟨z,hd,ys,rel,dd⟩:=dt_of I.hok ha
  have e:kvs.length=ys.length:=Paired.length rel
  refine lenT_call hd dd (by rw [<- e];rw [sizeLine_eq] at z;omega) ?_
  rw [<- e]
  exact ⟨.int kvs.length,H,I.tok _,⟨_,rfl⟩,q⟩
theorem lc_enum {K:PySem.W.Frag} {a:Addr} {xs:List V} {g:TG} {tt:TT} {te:TE} {σ:List (Option V)} {vs:List Nat} {Qd:Hp->Prop} {H1:Hp} {D:Addr} (Pv:Nat->Hp->Prop) (hA:∀ i H,i<=xs.length->Pv i H->SqL K H a xs) (h0:Pv 0 (upd H1 D (.lst [])))
    (step:∀ (i:Nat) (x:V) (H:Hp) (T:Addr),xs[i]?=some x->Pv i H->H T=none->g (.ref T) (wipe σ vs) (upd H T (.tup [.int (i:Int),x])) fun σ2 H2=>wipe σ2 vs=wipe σ vs/\tt σ2 H2 fun b H3=>if b=true then te σ2 H3 fun y H4=>∃ acc,H4 D=some (.lst acc)/\acc.length < sizeLine/\Pv (i+1) (upd H4 D (.lst (acc++[y]))) else Pv (i+1) H3)
    (hQ:∀ H',Pv xs.length H'->Qd H'):
    ∃ W:Nat->Nat->Hp->Prop,(∃ m,W 0 m (upd H1 D (.lst [])))/\∀ i m H,W i m H->((Ite K a).stop i H/\Qd H)\/((Ite K a).go i H/\∃ Nx:Hp->Prop,(∀ H',Nx H'->∃ m',m' < m/\W (i+1) m' H') ∧
      ∀ x H',(Ite K a).yld i H x H'->g x (wipe σ vs) H' fun σ2 H2=>wipe σ2 vs=wipe σ vs/\tt σ2 H2 fun b H3=>if b=true then te σ2 H3 fun y H4=>∃ acc,H4 D=some (.lst acc)/\acc.length < sizeLine/\Nx (upd H4 D (.lst (acc++[y]))) else Nx H3):=by
  refine ⟨fun i m H=>m=xs.length - i/\i<=xs.length/\Pv i H,⟨xs.length,by simp,Nat.zero_le _,h0⟩,?_⟩
  rintro i m H ⟨rfl,hi,p⟩
  by_cases hlt:i < xs.length
  · refine .inr ⟨⟨xs,xs[i],hA i H hi p,by simp [hlt]⟩,Pv (i+1),fun H' h1=>⟨xs.length - (i+1),by omega,rfl,hlt,h1⟩,fun v H' yl=>?_⟩
    obtain ⟨T,x,rfl,hT,rfl,hx⟩:=yl
    exact step i x H T (hx xs (hA i H hi p)) p hT
  · have e:i=xs.length:=by omega
    subst e
    exact .inl ⟨⟨xs,hA _ H hi p,Nat.le_refl _⟩,hQ H p⟩
end L2
namespace Lu
open PySem PySem.Spec PyProof.Rows L2 Lute LuR LuW LuC
def ivK (x:Iv):List Key:=[.inl x.a,.inl x.b,.inl x.c,.inl x.e,.inl (x.d:Int)]
theorem ivK_inj {x y:Iv} (h:ivK x=ivK y):x=y:=by
  unfold ivK at h
  injection h with h1 h
  injection h with h2 h
  injection h with h3 h
  injection h with h4 h
  injection h with h5 _
  injection h1 with h1
  injection h2 with h2
  injection h3 with h3
  injection h4 with h4
  injection h5 with h5
  cases x
  cases y
  dsimp only at h1 h2 h3 h4 h5
  rw [h1,h2,h3,h4,Int.ofNat_inj.mp h5]
def uKo:Nat->List Iv->List (List Key × V)
  | _,[]=>[]
  | o,x::r=>(ivK x,.int ((1+16 ^ (o+1):Nat):Int))::uKo (o+1) r
theorem uKo_len:∀ (o:Nat) (D:List Iv),(uKo o D).length=D.length
  | _,[]=>rfl
  | o,x::r=>by unfold uKo;rw [List.length_cons,List.length_cons,uKo_len]
theorem uKo_snoc:∀ (o:Nat) (D:List Iv) (x:Iv),uKo o (D++[x])=uKo o D++[(ivK x,.int ((1+16 ^ (o+D.length+1):Nat):Int))]
  | o,[],x=>rfl
  | o,y::r,x=>by
    show _::uKo (o+1) (r++[x])=_
    rw [uKo_snoc (o+1) r x,List.length_cons,show o+1+r.length=o+(r.length+1) by omega]
    rfl
theorem uKo_val:∀ (o:Nat) (D:List Iv) (x:Iv),valV (uKo o D) (ivK x)=if x ∈ D then some (.int ((1+16 ^ (o+D.idxOf x+1):Nat):Int)) else none
  | o,[],x=>by rw [if_neg (by simp)];rfl
  | o,y::r,x=>by
    show valV ((ivK y,_)::uKo (o+1) r) (ivK x)=_
    by_cases e:y=x
    · subst e
      rw [valV_pos rfl,if_pos List.mem_cons_self,List.idxOf_cons_self]
      all_goals rfl
    · rw [valV_neg (fun z=>e (ivK_inj z)),uKo_val (o+1) r x]
      by_cases hm:x ∈ r
      · rw [if_pos hm,if_pos (List.mem_cons_of_mem _ hm),List.idxOf_cons,show (y == x)=false from beq_eq_false_iff_ne.mpr e,show o+1+r.idxOf x=o+(r.idxOf x+1) by omega]
        all_goals rfl
      · rw [if_neg hm,if_neg (fun z=>(List.mem_cons.mp z).elim (fun q=>e q.symm) hm)]
theorem uKo_put {D:List Iv} {x:Iv} (h:x ∉ D):putK (uKo 0 D) (ivK x) (.int ((1+16 ^ (D.length+1):Nat):Int))=uKo 0 (D++[x]):=by
  unfold putK
  rw [if_neg,uKo_snoc,Nat.zero_add]
  intro z
  obtain ⟨p,hp,hk⟩:=List.any_eq_true.mp z
  have hv:=uKo_val 0 D x
  rw [if_neg h] at hv
  unfold valV at hv
  have:=Option.map_eq_none_iff.mp hv
  rw [List.find?_eq_none] at this
  exact this p hp hk
def chV (c:Ch):List V:=[.int (c.1:Int),.int (c.2.1:Int),.int (c.2.2:Int)]
def spNU:Sp:=fun vs H Q _=>∃ (m:Addr) (l:List Iv),vs=[.ref m]/\NotesAt H m l/\l.length<=14/\∀ (H':Hp) (u:Addr),Same H H'->H u=none->H' u=some (.dT (uKo 0 (dd l)))->Q (.ref u) H'
def ChAt (H:Hp) (m:Addr) (l:List Ch):Prop:=∃ bs:List Addr,H m=some (.lst (bs.map V.ref))/\bs.length=l.length/\∀ (i:Nat) (b:Addr) (x:Ch),bs[i]?=some b->l[i]?=some x->H b=some (.tup (chV x))
theorem ChAt.same {H H':Hp} {m:Addr} {l:List Ch} (h:ChAt H m l) (k:Same H H'):ChAt H' m l:=by
  obtain ⟨bs,h1,h2,h3⟩:=h
  exact ⟨bs,k _ _ h1,h2,fun i b x hb hx=>k _ _ (h3 i b x hb hx)⟩
theorem ChAt.snoc {H:Hp} {m b:Addr} {l:List Ch} {x:Ch} {xs:List V} (h:ChAt H m l) (hx:H m=some (.lst xs)) (hb:H b=some (.tup (chV x))):ChAt (upd H m (.lst (xs++[.ref b]))) m (l++[x]):=by
  obtain ⟨bs,h1,h2,h3⟩:=h
  rw [h1] at hx
  cases hx
  refine ⟨bs++[b],by rw [upd_same,List.map_append];rfl,by rw [List.length_append,List.length_append,h2];rfl,fun i b' x' hb' hx'=>?_⟩
  have key:H b'=some (.tup (chV x')):=by
    by_cases hi:i < bs.length
    · rw [List.getElem?_append_left hi] at hb'
      rw [List.getElem?_append_left (by omega)] at hx'
      exact h3 i b' x' hb' hx'
    · rw [List.getElem?_append_right (by omega)] at hb'
      rw [List.getElem?_append_right (by omega)] at hx'
      have hi0:i - bs.length=0:=by
        have:=(List.getElem?_eq_some_iff.mp hb').1
        simp at this
        omega
      rw [hi0] at hb'
      rw [show i - l.length=0 by omega] at hx'
      cases hb'
      cases hx'
      exact hb
  rw [upd_ne (ne_of key h1 (by intro z;cases z))]
  exact key
def spCO:Sp:=fun vs H Q _=>∃ (mc u:Addr) (r D:List Iv),vs=[.ref mc,.ref u]/\NotesAt H mc r/\r.length<=16/\H u=some (.dT (uKo 0 D))/\D.length<=14/\∀ (H':Hp) (p:Addr),Same H H'->H p=none->ChAt H' p (chOf D r)->Q (.ref p) H'
structure TxP (mg:Str->Option Value):Prop where
  cPB:Cst mg "PART_BITS" (.int 4)
  cPM:Cst mg "PART_MASK" (.int 15)
  enu:mg "enumerate"=none
section
variable {P:Program} {w:World} {K:PySem.W.Frag} {mg:Str->Option Value} {base:Heap} {B C:Addr}
theorem scUn:FnScope ["notes","units","note"] ["notes"] (defScope s_note_units):=⟨rfl,rfl,rfl,by decide +kernel,rfl,by decide +kernel,by decide +kernel⟩
theorem ok_nu {f:Addr} {fd:FuncData} (F:Fun K "note_units" "note_units" s_note_units f fd) (len:mg "len"=none) (TP:TxP mg):FnOk P w K mg base (CXF P w C) 1 f fd ["notes"] spNU:=by
  refine F.okX scUn (fun vs H Q E h=>?_) (fun cdv A outer s H vs Q E hr h=>?_)
  · obtain ⟨m,l,rfl,_⟩:=h
    rfl
  · obtain ⟨m,l,rfl,hN,h14,k⟩:=h
    refine ⟨_,pss_cons (ps_set (i:=1) scUn.nd rfl (Or.inl rfl) pe_dnewT)
      (pss_cons (ps_for xown rfl (pi_list (pv 0)) (pg_name (i:=2) scUn.nd rfl (Or.inl rfl))
        (pss_one (ps_if (pt_cmp (pc_dnotin (hu_of hr) (pv 2) (pv 1)))
          (pss_one (ps_dput (hu_of hr) (pv 1) (pv 2) (pe_op op_add pe_int (pe_op op_shl pe_int (pe_op op_mul (pe_cst TP.cPB) (pe_op op_add (pe_callB call_lenT (by rfl) len PySem.boot_len (pa_cons (pv 1) pa_nil)) pe_int)))) (by rfl))) pss_nil)))
      (pss_one (ps_ret (pv 1)))),?_⟩
    intro u hu
    have su:=same_new (o:=.dT []) hu
    obtain ⟨bs,h1,h2,h3⟩:=hN
    refine ⟨_,rfl,m,rfl,⟨_,SqL.of (su _ _ h1)⟩,for_list (K:=K) (a:=m) (xs:=bs.map V.ref) (fun i σ H'=>∃ v:Option V,σ=[some (.ref m),some (.ref u),v]/\Same H H'/\H' u=some (.dT (uKo 0 (dd (l.take i)))))
      ⟨Option.none,rfl,su,upd_same⟩ (fun i σ H' _ ⟨v,_,hk,_⟩=>SqL.of (hk _ _ h1)) ?_ ?_⟩
    · rintro i x σ H' hx ⟨v,rfl,sH,hU⟩
      rw [List.getElem?_map] at hx
      cases hb:bs[i]? with
      | none=>rw [hb] at hx;cases hx
      | some b=>
        rw [hb] at hx
        cases hx
        have hi:i < l.length:=by rw [<- h2];exact (List.getElem?_eq_some_iff.mp hb).1
        have hli:l[i]?=some l[i]:=List.getElem?_eq_getElem hi
        have hbt:=sH _ _ (h3 i b _ hb hli)
        have tk:l.take (i+1)=l.take i++[l[i]]:=by rw [List.take_succ,hli];rfl
        have hlen:(dd (l.take i)).length<=14:=Nat.le_trans (dd_facts _).2.2 (by rw [List.length_take];omega)
        rw [tk,dd_snoc]
        generalize l[i]=y at *
        generalize dd (l.take i)=D at *
        refine ⟨_,rfl,_,rfl,u,_,rfl,DGet.t hU (k:=ivK y) hbt,_,rfl,?_⟩
        rw [uKo_val]
        by_cases hm:y ∈ D
        · rw [if_pos hm,if_pos hm]
          exact iteF ⟨_,rfl,sH,hU⟩
        · rw [if_neg hm,if_neg hm]
          refine iteT ?_
          refine ⟨_,rfl,u,_,rfl,hU,_,_,rfl,rfl,_,_,rfl,rfl,.inl ⟨by decide,by decide⟩,?_⟩
          rw [uKo_len]
          refine ⟨_,_,rfl,rfl,⟨by omega,by omega,by decide⟩,_,_,rfl,rfl,?_⟩
          refine ⟨_,rfl,_,rfl,u,_,rfl,DPut.t hU (k:=ivK y) hbt (by rw [uKo_len];exact Nat.lt_of_le_of_lt hlen (by decide)),?_⟩
          have ev:(1:Int)+1 * 2 ^ (4 * ((D.length:Int)+1)).toNat=((1+16 ^ (D.length+1):Nat):Int):=by
            have:(4 * ((D.length:Int)+1)).toNat=4 * (D.length+1):=by omega
            rw [this,Int.pow_mul]
            simp
          show ∃ v':Option V,[some (V.ref m),some (V.ref u),some (V.ref b)]=[some (V.ref m),some (V.ref u),v']/\Same H (upd H' u (.dT (putK (uKo 0 D) (ivK y) (.int (1+1 * 2 ^ (4 * ((D.length:Int)+1)).toNat)))))/\(upd H' u (.dT (putK (uKo 0 D) (ivK y) (.int (1+1 * 2 ^ (4 * ((D.length:Int)+1)).toNat))))) u=some (.dT (uKo 0 (D++[y])))
          rw [ev,uKo_put hm]
          refine ⟨_,rfl,fun b' o hb'=>?_,upd_same⟩
          rw [upd_ne (ne_of_none hb' hu)]
          exact sH b' o hb'
    · rintro σ H' ⟨v,rfl,sH,hU⟩
      rw [List.length_map,h2,List.take_length] at hU
      exact ⟨_,rfl,k H' u sH hu hU⟩
end
end Lu
namespace Lu
open PySem PySem.Spec PyProof.Rows L2 Lute LuR LuW LuC
theorem chOf_len (D r:List Iv):(chOf D r).length<=r.length:=by
  unfold chOf
  rw [List.length_map]
  exact Nat.le_trans (List.length_filter_le _ _) (by rw [List.length_zipIdx];exact Nat.le_refl _)
section
variable {P:Program} {w:World} {K:PySem.W.Frag} {mg:Str->Option Value} {base:Heap} {B C:Addr}
def coN:List Str:=["course","units","fret","sound"]
theorem scCh:FnScope coN ["course","units"] (defScope s_choices_on_course):=⟨rfl,rfl,rfl,by decide +kernel,rfl,by decide +kernel,by decide +kernel⟩
theorem ok_co {f:Addr} {fd:FuncData} (F:Fun K "choices_on_course" "choices_on_course" s_choices_on_course f fd) (TP:TxP mg):FnOk P w K mg base (CXF P w C) 1 f fd ["course","units"] spCO:=by
  refine F.okX scCh (fun vs H Q E h=>?_) (fun cdv A outer s H vs Q E hr h=>?_)
  · obtain ⟨mc,u,r,D,rfl,_⟩:=h
    rfl
  · obtain ⟨mc,u,r,D,rfl,hN,h16,hU,hD14,k⟩:=h
    refine ⟨_,pss_one (ps_ret (pe_lc (own:=[("fret",2),("sound",3)]) (g:=gTup K 2 (gCons (gName 2) (gCons (gName 3) gNil))) (tt:=tB (tDIn (tVar 3) (tVar 1)))
        (te:=tTup (tCons (tVar 2) (tCons (tDGet (tVar 1) (tVar 3)) (tCons (tOp (rI CMul fun i j=>.int (i * j)) (tC (.int 15)) (tOp (rI0 fun i j=>.int (i - j)) (tDGet (tVar 1) (tVar 3)) (tC (.int 1)))) tNil)))) rfl scCh.nd (pi_enum (by rfl) TP.enu (pa_cons (pv 0) pa_nil))
          (show BlkOk coN (defScope s_choices_on_course) _ [("fret",2),("sound",3)] from ⟨rfl,by decide +kernel,by decide +kernel,by decide +kernel,by decide +kernel⟩)
          (fun _ _ _ _ _=>pg_tup rfl (pgs_cons (pg_name (i:=2) scCh.nd rfl (Or.inl rfl)) (pgs_cons (pg_name (i:=3) scCh.nd rfl (Or.inl rfl)) pgs_nil))) (fun _ _ _ _ _=>pts_one (pt_cmp (pc_din (hu_of hr) (pv 3) (pv 1))))
          (fun _ _ _ _ _=>pe_tup (pa_cons (pv 2) (pa_cons (pe_dget (hu_of hr) (pv 1) (pv 3) (fun _ _=>rfl)) (pa_cons (pe_op op_mul (pe_cst TP.cPM) (pe_op op_sub (pe_dget (hu_of hr) (pv 1) (pv 3) (fun _ _=>rfl)) pe_int)) pa_nil)))))),?_⟩
    obtain ⟨bs,h1,h2,h3⟩:=hN
    refine ⟨_,rfl,mc,_,rfl,SqL.of h1,fun p hp=>?_⟩
    refine lc_enum (K:=K) (a:=mc) (xs:=bs.map V.ref) (fun i H'=>Same H H'/\ChAt H' p (chOf D (r.take i))) (fun i H' _ q=>SqL.of (q.1 _ _ h1)) ⟨same_new hp,[],upd_same,rfl,fun i b x hb=>by simp at hb⟩ ?_ ?_
    · rintro i x H' T hx ⟨sH,hC⟩ hT
      rw [List.getElem?_map] at hx
      cases hb:bs[i]? with
      | none=>rw [hb] at hx;cases hx
      | some b=>
        rw [hb] at hx
        cases hx
        have hi:i < r.length:=by rw [<- h2];exact (List.getElem?_eq_some_iff.mp hb).1
        have hri:r[i]?=some r[i]:=List.getElem?_eq_getElem hi
        have hbt:=sH _ _ (h3 i b _ hb hri)
        have tk:r.take (i+1)=r.take i++[r[i]]:=by rw [List.take_succ,hri];rfl
        rw [tk,chOf_snoc,List.length_take,Nat.min_eq_left (Nat.le_of_lt hi)]
        generalize r[i]=y at *
        have sT:=same_new (o:=.tup [.int (i:Int),.ref b]) hT
        have hUT:=sT _ _ (sH _ _ hU)
        have hbT:=sT _ _ hbt
        refine ⟨T,_,rfl,SqT.of upd_same,rfl,_,_,rfl,_,_,rfl,rfl,?_⟩
        refine ⟨rfl,?_⟩
        refine ⟨_,rfl,_,rfl,u,_,rfl,DGet.t hUT (k:=ivK y) hbT,_,rfl,?_⟩
        rw [uKo_val,Nat.zero_add]
        by_cases hm:y ∈ D
        · rw [if_pos hm,if_pos hm]
          refine iteT ?_
          have hv:valV (uKo 0 D) (ivK y)=some (.int ((1+16 ^ (D.idxOf y+1):Nat):Int)):=by rw [uKo_val,Nat.zero_add,if_pos hm]
          have hg:DGet (upd H' T (.tup [.int (i:Int),.ref b])) u (.ref b) (some (.int ((1+16 ^ (D.idxOf y+1):Nat):Int))):=by
            rw [<- hv]
            exact DGet.t hUT (k:=ivK y) hbT
          refine ⟨_,rfl,_,rfl,_,rfl,u,_,rfl,hg,_,rfl,_,rfl,u,_,rfl,hg,_,_,rfl,rfl,_,_,rfl,rfl,.inl ⟨by decide,by decide⟩,?_⟩
          refine ⟨(by show 3<=sizeLine;decide),fun q hq=>?_⟩
          obtain ⟨xs,hx',hxl⟩:∃ xs,H' p=some (.lst xs)/\xs.length=(chOf D (r.take i)).length:=by
            obtain ⟨cs,c1,c2,_⟩:=hC
            exact ⟨_,c1,by rw [List.length_map,c2]⟩
          have sq:=same_new (o:=.tup (chV (i,unit D y,mask D y))) hq
          have s2:Same H' (upd (upd H' T (.tup [.int (i:Int),.ref b])) q (.tup (chV (i,unit D y,mask D y)))):=sT.trans sq
          have ev:(15:Int) * (((1+16 ^ (D.idxOf y+1):Nat):Int) - 1)=((mask D y:Nat):Int):=by
            unfold mask
            rw [Int.natCast_mul,Int.natCast_add]
            have:((1:Nat):Int)+((16 ^ (D.idxOf y+1):Nat):Int) - 1=((16 ^ (D.idxOf y+1):Nat):Int):=by omega
            rw [this]
            rfl
          have eo:(HO.tup [.int (i:Int),.int ((1+16 ^ (D.idxOf y+1):Nat):Int),.int (15 * (((1+16 ^ (D.idxOf y+1):Nat):Int) - 1))])=.tup (chV (i,unit D y,mask D y)):=by
            rw [ev]
            rfl
          show ∃ acc,(upd (upd H' T (.tup [.int (i:Int),.ref b])) q (HO.tup [.int (i:Int),.int ((1+16 ^ (D.idxOf y+1):Nat):Int),.int (15 * (((1+16 ^ (D.idxOf y+1):Nat):Int) - 1))])) p=some (.lst acc)/\acc.length < sizeLine/\Same H (upd (upd (upd H' T (.tup [.int (i:Int),.ref b])) q (HO.tup [.int (i:Int),.int ((1+16 ^ (D.idxOf y+1):Nat):Int),.int (15 * (((1+16 ^ (D.idxOf y+1):Nat):Int) - 1))])) p (.lst (acc++[.ref q])))/\ChAt (upd (upd (upd H' T (.tup [.int (i:Int),.ref b])) q (HO.tup [.int (i:Int),.int ((1+16 ^ (D.idxOf y+1):Nat):Int),.int (15 * (((1+16 ^ (D.idxOf y+1):Nat):Int) - 1))])) p (.lst (acc++[.ref q]))) p (chOf D (r.take i)++[(i,unit D y,mask D y)])
          rw [eo]
          refine ⟨xs,s2 _ _ hx',?_,fun b' o hb'=>?_,(hC.same s2).snoc (s2 _ _ hx') upd_same⟩
          · rw [hxl]
            refine Nat.lt_of_le_of_lt (chOf_len _ _) (Nat.lt_of_le_of_lt (m:=16) ?_ (by decide))
            rw [List.length_take]
            omega
          · rw [upd_ne (ne_of_none hb' hp)]
            exact s2 _ _ (sH _ _ hb')
        · rw [if_neg hm,if_neg hm]
          exact iteF ⟨sH.trans sT,hC.same sT⟩
    · rintro H' ⟨sH,hC⟩
      rw [List.length_map,h2,List.take_length] at hC
      exact k H' p sH hp hC
end
end Lu
namespace Lu
open PySem PySem.Spec PyProof.Rows L2 Lute LuR LuW LuC
def pf (m:Addr) (wh:Int) (d:Addr):List (Str × V):=putF "counted" (.ref d) (putF "whole" (.int wh) (putF "choices" (.ref m) []))
theorem pf_ch (m:Addr) (wh:Int) (d:Addr):(pf m wh d).lookup ("choices":Str)=some (.ref m):=by
  unfold pf
  rw [lookup_putF,if_neg (by decide),lookup_putF,if_neg (by decide),lookup_putF,if_pos rfl]
theorem pf_wh (m:Addr) (wh:Int) (d:Addr):(pf m wh d).lookup ("whole":Str)=some (.int wh):=by
  unfold pf
  rw [lookup_putF,if_neg (by decide),lookup_putF,if_pos rfl]
theorem pf_co (m:Addr) (wh:Int) (d:Addr):(pf m wh d).lookup ("counted":Str)=some (.ref d):=by
  unfold pf
  rw [lookup_putF,if_pos rfl]
theorem pf_no (m:Addr) (wh:Int) (d:Addr):(pf m wh d).lookup ("count_from":Str)=none:=by
  unfold pf
  rw [lookup_putF,if_neg (by decide),lookup_putF,if_neg (by decide),lookup_putF,if_neg (by decide)]
  rfl
def ChsAt (H:Hp) (m:Addr) (ls:List (List Ch)):Prop:=∃ bs:List Addr,H m=some (.lst (bs.map V.ref))/\bs.length=ls.length/\∀ (i:Nat) (b:Addr) (l:List Ch),bs[i]?=some b->ls[i]?=some l->b ≠ m/\ChAt H b l
theorem ChsAt.same {H H':Hp} {m:Addr} {l:List (List Ch)} (h:ChsAt H m l) (k:Same H H'):ChsAt H' m l:=by
  obtain ⟨bs,h1,h2,h3⟩:=h
  exact ⟨bs,k _ _ h1,h2,fun i b x hb hx=>⟨(h3 i b x hb hx).1,(h3 i b x hb hx).2.same k⟩⟩
theorem ChAt.keep {H H':Hp} {m d:Addr} {l:List Ch} {o:HO} (h:ChAt H m l) (k:Keep H H' d) (hd:H d=some o) (n1:∀ xs,o ≠ .lst xs) (n2:∀ xs,o ≠ .tup xs):ChAt H' m l:=by
  obtain ⟨bs,h1,h2,h3⟩:=h
  exact ⟨bs,k _ _ h1 (ne_of h1 hd (fun z=>n1 _ z.symm)),h2,fun i b x hb hx=>k _ _ (h3 i b x hb hx) (ne_of (h3 i b x hb hx) hd (fun z=>n2 _ z.symm))⟩
theorem ChsAt.keep {H H':Hp} {m d:Addr} {l:List (List Ch)} {o:HO} (h:ChsAt H m l) (k:Keep H H' d) (hd:H d=some o) (n1:∀ xs,o ≠ .lst xs) (n2:∀ xs,o ≠ .tup xs):ChsAt H' m l:=by
  obtain ⟨bs,h1,h2,h3⟩:=h
  exact ⟨bs,k _ _ h1 (ne_of h1 hd (fun z=>n1 _ z.symm)),h2,fun i b x hb hx=>⟨(h3 i b x hb hx).1,(h3 i b x hb hx).2.keep k hd n1 n2⟩⟩
theorem ChAt.upd {H:Hp} {m b:Addr} {l:List Ch} {xs:List V} {o:HO} (h:ChAt H b l) (hm:H m=some (.lst xs)) (hb:b ≠ m):ChAt (upd H m o) b l:=by
  obtain ⟨bs,h1,h2,h3⟩:=h
  exact ⟨bs,by rw [upd_ne hb];exact h1,h2,fun i b' x hb' hx=>by rw [upd_ne (ne_of (h3 i b' x hb' hx) hm (by intro z;cases z))];exact h3 i b' x hb' hx⟩
theorem ChsAt.snoc {H:Hp} {m b:Addr} {ls:List (List Ch)} {l:List Ch} {xs:List V} (h:ChsAt H m ls) (hx:H m=some (.lst xs)) (hb:ChAt H b l) (hbm:b ≠ m):ChsAt (upd H m (.lst (xs++[.ref b]))) m (ls++[l]):=by
  obtain ⟨bs,h1,h2,h3⟩:=h
  rw [h1] at hx
  cases hx
  refine ⟨bs++[b],by rw [upd_same,List.map_append];rfl,by rw [List.length_append,List.length_append,h2];rfl,fun i b' l' hb' hl'=>?_⟩
  have key:b' ≠ m/\ChAt H b' l':=by
    by_cases hi:i < bs.length
    · rw [List.getElem?_append_left hi] at hb'
      rw [List.getElem?_append_left (by omega)] at hl'
      exact h3 i b' l' hb' hl'
    · rw [List.getElem?_append_right (by omega)] at hb'
      rw [List.getElem?_append_right (by omega)] at hl'
      have hi0:i - bs.length=0:=by
        have:=(List.getElem?_eq_some_iff.mp hb').1
        simp at this
        omega
      rw [hi0] at hb'
      rw [show i - ls.length=0 by omega] at hl'
      cases hb'
      cases hl'
      exact ⟨hbm,hb⟩
  exact ⟨key.1,key.2.upd h1 key.1⟩
structure TxQ (K:PySem.W.Frag) (B:Addr):Prop where
  cl:Cls K B
  nC:NoAttr K B "choices"
  nW:NoAttr K B "whole"
  nD:NoAttr K B "counted"
def spPI (B:Addr):Sp:=fun vs H Q _=>∃ (x dx mc mn:Addr) (rs:List (List Iv)) (l:List Iv),vs=[.ref x,.ref mc,.ref mn]/\H x=some (.ins B dx [])/\TabAt H mc rs/\rs.length<=14/\(∀ r ∈ rs,r.length<=16)/\NotesAt H mn l/\l.length<=14 ∧
  ∀ (H':Hp) (m d:Addr),H' x=some (.ins B dx (pf m ((enc (dd l) l:Nat):Int) d))->ChsAt H' m (rs.map (chOf (dd l)))->H' d=some (.dT [])->H d=none->Keep H H' x->Q .non H'
section
variable {P:Program} {w:World} {K:PySem.W.Frag} {mg:Str->Option Value} {base:Heap} {B C:Addr}
def piN:List Str:=["self","courses","notes","units","course","note"]
theorem scPI:FnScope piN ["self","courses","notes"] (defScope s_Placings_init):=⟨rfl,rfl,rfl,by decide +kernel,rfl,by decide +kernel,by decide +kernel⟩
theorem ok_pinit {f:Addr} {fd:FuncData} (F:Fun K "__init__" "Placings.__init__" s_Placings_init f fd) (T:TxQ K B) (zs:mg "sum"=none) (DU:Dfn P w K mg base C 1 "note_units" ["notes"] spNU) (DC:Dfn P w K mg base C 1 "choices_on_course" ["course","units"] spCO):
    FnOk P w K mg base (CXF P w C) 2 f fd ["self","courses","notes"] (spPI B):=by
  refine F.okX scPI (fun vs H Q E h=>?_) (fun cdv A outer s H vs Q E hr h=>?_)
  · obtain ⟨x,dx,mc,mn,rs,l,rfl,_⟩:=h
    rfl
  · obtain ⟨x,dx,mc,mn,rs,l,rfl,hx,hT,h14,h16,hN,hl14,k⟩:=h
    obtain ⟨gc,fdc,GC,hmc,hkc,hbc⟩:=DC
    refine ⟨_,pss_cons (ps_set (i:=3) scPI.nd rfl (Or.inr rfl) (pe_fn DU hr rfl (pa_cons (pv 2) pa_nil)))
      (pss_cons (ps_fld (pv 0) (pe_lc (own:=[("course",4)]) (g:=gName 4) (te:=tCall spCO [] E0 (tCons (tVar 4) (tCons (tVar 3) tNil))) rfl scPI.nd (pi_list (pv 1))
          (show BlkOk piN (defScope s_Placings_init) _ [("course",4)] from ⟨rfl,by decide +kernel,by decide +kernel,by decide +kernel,by decide +kernel⟩)
          (fun _ _ _ _ _=>pg_name (i:=4) scPI.nd rfl (Or.inl rfl)) (fun _ _ _ _ _=>pts_nil)
          (fun _ _ _ _ _=>pe_call GC hr rfl hmc hkc hbc .nil passF (pa_cons (pv 4) (pa_cons (pv 3) pa_nil)))) rfl)
      (pss_cons (ps_fld (pv 0) (pe_callB (cr_sum rfl) (by rfl) zs boot_sum' (pa_cons (pe_lc (own:=[("note",5)]) (g:=gName 5) (te:=tDGet (tVar 3) (tVar 5)) rfl scPI.nd (pi_list (pv 2))
          (show BlkOk piN (defScope s_Placings_init) _ [("note",5)] from ⟨rfl,by decide +kernel,by decide +kernel,by decide +kernel,by decide +kernel⟩)
          (fun _ _ _ _ _=>pg_name (i:=5) scPI.nd rfl (Or.inl rfl)) (fun _ _ _ _ _=>pts_nil)
          (fun _ _ _ _ _=>pe_dget (hu_of hr) (pv 3) (pv 5) (fun _ _=>rfl))) pa_nil)) rfl)
      (pss_one (ps_fld (pv 0) pe_dnewT rfl)))),?_⟩
    refine ⟨_,rfl,mn,l,rfl,hN,hl14,fun H1 u s1 hu0 hu=>?_⟩
    obtain ⟨dn,dm,dlen⟩:=dd_facts l
    obtain ⟨bs,t1,t2,t3⟩:=hT
    refine ⟨_,rfl,mc,rfl,⟨_,SqL.of (s1 _ _ t1)⟩,fun p hp=>?_⟩
    have hpH:H p=Option.none:=by
      cases q:H p with
      | none=>rfl
      | some o=>rw [s1 _ _ q] at hp;cases hp
    refine lc_list (K:=K) (a:=mc) (xs:=bs.map V.ref) (fun i H'=>Same H1 H'/\ChsAt H' p ((rs.take i).map (chOf (dd l)))) ⟨same_new hp,[],upd_same,rfl,fun i b x hb=>by simp at hb⟩ (fun i H' _ q=>SqL.of (q.1 _ _ (s1 _ _ t1))) ?_ ?_
    · rintro i y H2 hy ⟨s2,hC⟩
      rw [List.getElem?_map] at hy
      cases hb:bs[i]? with
      | none=>rw [hb] at hy;cases hy
      | some b=>
        rw [hb] at hy
        cases hy
        have hi:i < rs.length:=by rw [<- t2];exact (List.getElem?_eq_some_iff.mp hb).1
        have hri:rs[i]?=some rs[i]:=List.getElem?_eq_getElem hi
        have hNb:=((t3 i b _ hb hri).2.same s1).same s2
        have tk:rs.take (i+1)=rs.take i++[rs[i]]:=by rw [List.take_succ,hri];rfl
        have hr16:=h16 _ (List.getElem_mem hi)
        rw [tk,List.map_append]
        generalize rs[i]=r at *
        refine ⟨rfl,_,rfl,_,rfl,b,u,r,dd l,rfl,hNb,hr16,s2 _ _ hu,Nat.le_trans dlen hl14,fun H3 q s3 hq hch=>?_⟩
        obtain ⟨ys,hy',hyl⟩:∃ ys,H2 p=some (.lst ys)/\ys.length=((rs.take i).map (chOf (dd l))).length:=by
          obtain ⟨cs,c1,c2,_⟩:=hC
          exact ⟨_,c1,by rw [List.length_map,c2]⟩
        have nq:q ≠ p:=fun z=>by rw [z,hy'] at hq;cases hq
        refine ⟨ys,s3 _ _ hy',?_,fun b' o hb'=>?_,(hC.same s3).snoc (s3 _ _ hy') hch nq⟩
        · rw [hyl,List.length_map,List.length_take]
          exact Nat.lt_of_le_of_lt (m:=14) (by omega) (by decide)
        · rw [upd_ne (ne_of_none hb' hp)]
          exact s3 _ _ (s2 _ _ hb')
    · rintro H2 ⟨s2,hC⟩
      rw [List.length_map,t2,List.take_length] at hC
      have hx2:=s2 _ _ (s1 _ _ hx)
      refine ⟨_,rfl,x,B,dx,[],rfl,hx2,T.cl,T.nC,(by show 0 < 1000;decide),?_⟩
      have kx:∀ {Ha:Hp} {o:HO},Keep Ha (upd Ha x o) x:=fun {Ha o} b o' h hb=>by rw [upd_ne hb];exact h
      generalize hH3:L2.upd H2 x (.ins B dx (putF "choices" (.ref p) []))=H3
      have k3:Keep H2 H3 x:=by rw [<- hH3];exact kx
      have hx3:H3 x=some (.ins B dx (putF "choices" (.ref p) [])):=by rw [<- hH3];exact upd_same
      have hC3:=hC.keep k3 hx2 (by intro xs z;cases z) (by intro xs z;cases z)
      have hN3:=((hN.same s1).same s2).keep k3 hx2
      have hu3:H3 u=some (.dT (uKo 0 (dd l))):=k3 _ _ (s2 _ _ hu) (ne_of (s2 _ _ hu) hx2 (by intro z;cases z))
      obtain ⟨ns,n1,n2,n3⟩:=hN3
      refine ⟨_,rfl,mn,rfl,⟨_,SqL.of n1⟩,fun q hq=>?_⟩
      refine lc_list (K:=K) (a:=mn) (xs:=ns.map V.ref) (fun i H'=>Same H3 H'/\H' q=some (.lst ((l.take i).map fun y=>V.int ((unit (dd l) y:Nat):Int)))) ⟨same_new hq,upd_same⟩ (fun i H' _ z=>SqL.of (z.1 _ _ n1)) ?_ ?_
      · rintro i y H4 hy ⟨s4,hq4⟩
        rw [List.getElem?_map] at hy
        cases hb:ns[i]? with
        | none=>rw [hb] at hy;cases hy
        | some b=>
          rw [hb] at hy
          cases hy
          have hi:i < l.length:=by rw [<- n2];exact (List.getElem?_eq_some_iff.mp hb).1
          have hli:l[i]?=some l[i]:=List.getElem?_eq_getElem hi
          have hbt:=s4 _ _ (n3 i b _ hb hli)
          have tk:l.take (i+1)=l.take i++[l[i]]:=by rw [List.take_succ,hli];rfl
          have hmem:l[i] ∈ dd l:=(dm _).mpr (List.getElem_mem hi)
          rw [tk,List.map_append]
          generalize l[i]=y at *
          have hv:valV (uKo 0 (dd l)) (ivK y)=some (.int ((unit (dd l) y:Nat):Int)):=by rw [uKo_val,Nat.zero_add,if_pos hmem];rfl
          have hg:DGet H4 u (.ref b) (some (.int ((unit (dd l) y:Nat):Int))):=by
            rw [<- hv]
            exact DGet.t (s4 _ _ hu3) (k:=ivK y) hbt
          refine ⟨rfl,_,rfl,_,rfl,u,_,rfl,hg,_,hq4,?_,fun b' o hb'=>?_,upd_same⟩
          · rw [List.length_map,List.length_take]
            exact Nat.lt_of_le_of_lt (m:=14) (by omega) (by decide)
          · rw [upd_ne (ne_of_none hb' hq)]
            exact s4 _ _ hb'
      · rintro H4 ⟨s4,hq4⟩
        rw [List.length_map,n2,List.take_length] at hq4
        have hx4:=s4 _ _ hx3
        refine ⟨q,l.map fun y=>((unit (dd l) y:Nat):Int),rfl,SqL.of (by rw [List.map_map];exact hq4),?_⟩
        have es:∀ m:List Iv,(m.map fun y=>((unit (dd l) y:Nat):Int)).sum=((enc (dd l) m:Nat):Int):=fun m=>by
          unfold enc
          induction m with
          | nil=>rfl
          | cons y r ih=>rw [List.map_cons,List.sum_cons,ih,List.map_cons,List.sum_cons,Int.natCast_add]
        rw [es]
        refine ⟨_,rfl,x,B,dx,_,rfl,hx4,T.cl,T.nW,(by show 1 < 1000;decide),?_⟩
        generalize hH5:L2.upd H4 x (.ins B dx (putF "whole" (.int ((enc (dd l) l:Nat):Int)) (putF "choices" (.ref p) [])))=H5
        have k5:Keep H4 H5 x:=by rw [<- hH5];exact kx
        have hx5:H5 x=some (.ins B dx (putF "whole" (.int ((enc (dd l) l:Nat):Int)) (putF "choices" (.ref p) []))):=by rw [<- hH5];exact upd_same
        have hC5:=(hC3.same s4).keep k5 hx4 (by intro xs z;cases z) (by intro xs z;cases z)
        intro d hd
        have sd:=same_new (o:=.dT []) hd
        have nxd:x ≠ d:=fun z=>by rw [<- z,hx5] at hd;cases hd
        refine ⟨_,rfl,x,B,dx,_,rfl,sd _ _ hx5,T.cl,T.nD,(by show 2 < 1000;decide),?_⟩
        refine k _ p d upd_same ((hC5.same sd).keep kx (sd _ _ hx5) (by intro xs z;cases z) (by intro xs z;cases z)) (by rw [upd_ne nxd.symm];exact upd_same) ?_ ?_
        · cases qd:H d with
          | none=>rfl
          | some o=>rw [k5 _ _ (s4 _ _ (k3 _ _ (s2 _ _ (s1 _ _ qd)) nxd.symm)) nxd.symm] at hd;cases hd
        intro b o hb hbx
        rw [upd_ne hbx]
        exact sd _ _ (k5 _ _ (s4 _ _ (k3 _ _ (s2 _ _ (s1 _ _ hb)) hbx)) hbx)
end
end Lu
namespace LuC
open Lute
def subs:List Iv->List (List Iv)
  | []=>[[]]
  | x::r=>subs r++(subs r).map fun s=>x::s
theorem subs_len:∀ l:List Iv,(subs l).length=2 ^ l.length
  | []=>rfl
  | x::r=>by
    unfold subs
    rw [List.length_append,List.length_map,subs_len r,List.length_cons,Nat.pow_succ]
    omega
theorem subs_self:∀ l:List Iv,l ∈ subs l
  | []=>List.mem_singleton.mpr rfl
  | x::r=>List.mem_append_right _ (List.mem_map.mpr ⟨r,subs_self r,rfl⟩)
theorem subs_erase:∀ {l s:List Iv} {x:Iv},s ∈ subs l->s.erase x ∈ subs l
  | [],s,x,h=>by
    rw [List.mem_singleton.mp h]
    exact List.mem_singleton.mpr rfl
  | y::r,s,x,h=>by
    rcases List.mem_append.mp h with h | h
    · exact List.mem_append_left _ (subs_erase h)
    · obtain ⟨s',hs,rfl⟩:=List.mem_map.mp h
      by_cases e:y=x
      · subst e
        rw [List.erase_cons_head]
        exact List.mem_append_left _ hs
      · rw [List.erase_cons_tail (by simpa using e)]
        exact List.mem_append_right _ (List.mem_map.mpr ⟨_,subs_erase hs,rfl⟩)
theorem subs_sub:∀ {l s:List Iv},s ∈ subs l->s.length<=l.length/\∀ y ∈ s,y ∈ l
  | [],s,h=>by
    rw [List.mem_singleton.mp h]
    exact ⟨Nat.le_refl _,fun y hy=>hy⟩
  | y::r,s,h=>by
    rcases List.mem_append.mp h with h | h
    · obtain ⟨h1,h2⟩:=subs_sub h
      exact ⟨Nat.le_succ_of_le h1,fun z hz=>List.mem_cons_of_mem _ (h2 z hz)⟩
    · obtain ⟨s',hs,rfl⟩:=List.mem_map.mp h
      obtain ⟨h1,h2⟩:=subs_sub hs
      refine ⟨Nat.succ_le_succ h1,fun z hz=>?_⟩
      rcases List.mem_cons.mp hz with q | q
      · exact q ▸ List.mem_cons_self
      · exact List.mem_cons_of_mem _ (h2 z q)
theorem nodup_len {α:Type} [DecidableEq α]:∀ {l m:List α},l.Nodup->(∀ x ∈ l,x ∈ m)->l.length<=m.length
  | [],m,_,_=>Nat.zero_le _
  | x::r,m,h,hs=>by
    have hx:=hs x List.mem_cons_self
    obtain ⟨h1,h2⟩:=List.nodup_cons.mp h
    have:=nodup_len (m:=m.erase x) h2 fun y hy=>(List.mem_erase_of_ne (fun e:y=x=>h1 (e ▸ hy))).mpr (hs y (List.mem_cons_of_mem _ hy))
    rw [List.length_erase_of_mem hx] at this
    have:0 < m.length:=List.length_pos_of_mem hx
    simp only [List.length_cons]
    omega
theorem cntN_zero:∀ chs:List (List Ch),cntN chs 0=1
  | []=>rfl
  | ch::r=>by unfold cntN;rw [if_pos rfl]
theorem cntN_big {chs:List (List Ch)} {n:Nat} (h0:n ≠ 0) (h:chs.length < n % 16):cntN chs n=0:=by
  cases chs with
  | nil=>unfold cntN;rw [if_neg h0]
  | cons ch r=>
    unfold cntN
    rw [if_neg h0,if_pos (show r.length+1 < n % 16 from h)]
theorem cntN_step {ch:List Ch} {r:List (List Ch)} {n:Nat} (h0:n ≠ 0) (h:¬ r.length+1 < n % 16):cntN (ch::r) n=cntN r n+(ch.map fun c=>if (n &&& c.2.2) ≠ 0 then cntN r (n - c.2.1) else 0).sum:=by
  conv=>lhs;unfold cntN
  rw [if_neg h0,if_neg h]
theorem chOf_mem {D r:List Iv} {c:Ch} (h:c ∈ chOf D r):∃ y ∈ D,c.2.1=unit D y/\c.2.2=mask D y:=by
  unfold chOf at h
  obtain ⟨p,hp,rfl⟩:=List.mem_map.mp h
  exact ⟨p.1,by simpa using (List.mem_filter.mp hp).2,rfl,rfl⟩
end LuC
namespace Lu
open PySem PySem.Spec PyProof.Rows L2 Lute LuR LuW LuC
def mKey (i n:Nat):List Key:=[.inl (i:Int),.inl (n:Int)]
theorem mKey_inj {i n j k:Nat} (h:mKey i n=mKey j k):i=j/\n=k:=by
  unfold mKey at h
  injection h with h1 h
  injection h with h2 _
  injection h1 with h1
  injection h2 with h2
  exact ⟨Int.ofNat_inj.mp h1,Int.ofNat_inj.mp h2⟩
def Memo (chs:List (List Ch)) (D l:List Iv) (memo:List (List Key × V)):Prop:=(memo.map (·.1)).Nodup/\∀ p ∈ memo,∃ i s,i<=14/\s ∈ subs l/\p=(mKey i (enc D s),V.int ((cntN (chs.drop i) (enc D s):Nat):Int))
theorem Memo.len {chs:List (List Ch)} {D l:List Iv} {memo:List (List Key × V)} (h:Memo chs D l memo) (h14:l.length<=14):memo.length < sizeLine:=by
  have h1:=nodup_len (m:=(List.range 15).flatMap fun i=>(subs l).map fun s=>mKey i (enc D s)) h.1 fun k hk=>by
    obtain ⟨p,hp,rfl⟩:=List.mem_map.mp hk
    obtain ⟨i,s,hi,hs,rfl⟩:=h.2 p hp
    exact List.mem_flatMap.mpr ⟨i,List.mem_range.mpr (by omega),List.mem_map.mpr ⟨s,hs,rfl⟩⟩
  rw [List.length_map,List.length_flatMap] at h1
  simp only [List.length_map,subs_len] at h1
  rw [List.map_const',List.sum_replicate_nat,List.length_range] at h1
  have h2:2 ^ l.length<=2 ^ 14:=Nat.pow_le_pow_right (by decide) h14
  rw [sizeLine_eq]
  omega
theorem Memo.val {chs:List (List Ch)} {D l:List Iv} {memo:List (List Key × V)} (h:Memo chs D l memo) {i n:Nat} {v:V} (hv:valV memo (mKey i n)=some v):v=.int ((cntN (chs.drop i) n:Nat):Int):=by
  unfold valV at hv
  obtain ⟨p,hp,rfl⟩:=Option.map_eq_some_iff.mp hv
  have hk:p.1=mKey i n:=of_decide_eq_true (List.find?_some (p:=fun kv:List Key × V=>decide (kv.1=mKey i n)) hp)
  obtain ⟨j,s,_,_,rfl⟩:=h.2 p (List.mem_of_find?_eq_some hp)
  obtain ⟨e1,e2⟩:=mKey_inj hk
  rw [e1,e2]
theorem Memo.put {chs:List (List Ch)} {D l:List Iv} {memo:List (List Key × V)} (h:Memo chs D l memo) {i:Nat} {s:List Iv} (hi:i<=14) (hs:s ∈ subs l):Memo chs D l (putK memo (mKey i (enc D s)) (.int ((cntN (chs.drop i) (enc D s):Nat):Int))):=by
  unfold putK
  by_cases q:(memo.any fun kv=>decide (kv.1=mKey i (enc D s)))=true
  · rw [if_pos q]
    refine ⟨?_,fun p hp=>?_⟩
    · rw [List.map_map]
      have e:((fun kv:List Key × V=>kv.1) ∘ fun kv=>if kv.1=mKey i (enc D s) then (kv.1,V.int ((cntN (chs.drop i) (enc D s):Nat):Int)) else kv)=fun kv=>kv.1:=by
        funext kv
        show (if kv.1=mKey i (enc D s) then (kv.1,V.int ((cntN (chs.drop i) (enc D s):Nat):Int)) else kv).1=kv.1
        split <;> rfl
      rw [e]
      exact h.1
    · obtain ⟨kv,hkv,rfl⟩:=List.mem_map.mp hp
      by_cases z:kv.1=mKey i (enc D s)
      · rw [if_pos z,z]
        exact ⟨i,s,hi,hs,rfl⟩
      · rw [if_neg z]
        exact h.2 kv hkv
  · rw [if_neg q]
    refine ⟨?_,fun p hp=>?_⟩
    · rw [List.map_append]
      refine List.nodup_append.mpr ⟨h.1,by simp,fun a ha b hb e=>?_⟩
      have eb:b=mKey i (enc D s):=List.mem_singleton.mp hb
      obtain ⟨p,hp,rfl⟩:=List.mem_map.mp ha
      exact q (List.any_eq_true.mpr ⟨p,hp,decide_eq_true (e.trans eb)⟩)
    · rcases List.mem_append.mp hp with z | z
      · exact h.2 p z
      · rw [List.mem_singleton.mp z]
        exact ⟨i,s,hi,hs,rfl⟩
theorem val_put (memo:List (List Key × V)) (k:List Key) (v:V):valV (putK memo k v) k=some v:=by rw [valV_put,if_pos rfl]
theorem memo_nil (chs:List (List Ch)) (D l:List Iv):Memo chs D l []:=⟨List.nodup_nil,fun p hp=>nomatch hp⟩
structure PlOk (H:Hp) (B x dx m d:Addr) (wh:Int) (chs:List (List Ch)) (D l:List Iv):Prop where
  at_:H x=some (.ins B dx (pf m wh d))
  ch:ChsAt H m chs
  memo:∃ memo,H d=some (.dT memo)/\Memo chs D l memo
def spCF (B:Addr):Nat->Sp
  | 0=>fun _ _ _ _=>False
  | n+1=>fun vs H Q _=>∃ (x dx m d:Addr) (wh:Int) (rs:List (List Iv)) (D l s:List Iv) (i:Nat),vs=[.ref x,.int (i:Int),.int ((enc D s:Nat):Int)]/\PlOk H B x dx m d wh (rs.map (chOf D)) D l/\rs.length<=14/\l.length<=14/\(∀ y ∈ l,y ∈ D)/\i<=rs.length/\rs.length - i<=n/\s ∈ subs l ∧
    ∀ H',PlOk H' B x dx m d wh (rs.map (chOf D)) D l->Keep H H' d->Q (.int ((cntN ((rs.map (chOf D)).drop i) (enc D s):Nat):Int)) H'
section
variable {P:Program} {w:World} {K:PySem.W.Frag} {mg:Str->Option Value} {base:Heap} {B C:Addr}
theorem bit_and (a b:Nat):Builtin.bitAnd (a:Int) (b:Int)=((a &&& b:Nat):Int):=rfl
theorem scCF:FnScope ["self","course","left","key","count","fret","unit","mask"] ["self","course","left"] (defScope s_Placings_count_from):=⟨rfl,rfl,rfl,by decide +kernel,rfl,by decide +kernel,by decide +kernel⟩
theorem ok_cf (n:Nat) {f:Addr} {fd:FuncData} (F:Fun K "count_from" "Placings.count_from" s_Placings_count_from f fd) (T:TxQ K B) (TP:TxP mg) (zl:mg "len"=none) (MR:Mth P w K mg base C B n "count_from" ["self","course","left"] (spCF B n)):
    FnOk P w K mg base (CXF P w C) (n+1) f fd ["self","course","left"] (spCF B (n+1)):=by
  refine F.okX scCF (fun vs H Q E h=>?_) (fun cdv A outer s0 H vs Q E hr h=>?_)
  · obtain ⟨x,dx,m,d,wh,rs,D,l,s,i,rfl,_⟩:=h
    rfl
  · obtain ⟨x,dx,m,d,wh,rs,D,l,s,i,rfl,hP,h14,hl14,hD,hi,hn,hs,k⟩:=h
    obtain ⟨hx,hch,memo,hmem,hM⟩:=hP
    refine ⟨_,pss_cons (ps_if (pt_cmpR op_eq (pv 2) pe_int (nomark _)) (pss_one (ps_ret pe_int)) pss_nil)
      (pss_cons (ps_if (pt_cmpR op_gt (pe_op op_and (pv 2) (pe_cst TP.cPM)) (pe_op op_sub (pe_callB call_len_seq (by rfl) zl PySem.boot_len (pa_cons (pe_fld (pv 0) rfl) pa_nil)) (pv 1)) (nomark _)) (pss_one (ps_ret pe_int)) pss_nil)
      (pss_cons (ps_set (i:=3) scCF.nd rfl (Or.inl rfl) (pe_tup (pa_cons (pv 1) (pa_cons (pv 2) pa_nil))))
      (pss_cons (ps_if (pt_cmp (pc_dnotin (hu_of hr) (pv 3) (pe_fld (pv 0) rfl)))
        (pss_cons (ps_set (i:=4) scCF.nd rfl (Or.inl rfl) (pe_mt MR hr (pv 0) (pa_cons (pe_op op_add (pv 1) pe_int) (pa_cons (pv 2) pa_nil))))
        (pss_cons (ps_for xown rfl (pi_list (pe_ix ix_list (pe_fld (pv 0) rfl) (pv 1) (fun _ _=>rfl))) (pg_tup rfl (pgs_cons (pg_name (i:=5) scCF.nd rfl (Or.inl rfl)) (pgs_cons (pg_name (i:=6) scCF.nd rfl (Or.inl rfl)) (pgs_cons (pg_name (i:=7) scCF.nd rfl (Or.inl rfl)) pgs_nil))))
          (pss_one (ps_if (pt_cmpR op_ne (pe_op op_and (pv 2) (pv 7)) pe_int (nomark _))
            (pss_one (ps_aug (i:=4) scCF.nd rfl (Or.inl rfl) (pe_mt MR hr (pv 0) (pa_cons (pe_op op_add (pv 1) pe_int) (pa_cons (pe_op op_sub (pv 2) (pv 6)) pa_nil))) ip_add)) pss_nil)))
        (pss_one (ps_dput (hu_of hr) (pe_fld (pv 0) rfl) (pv 3) (pv 4) (by rfl))))) pss_nil)
      (pss_one (ps_ret (pe_dget (hu_of hr) (pe_fld (pv 0) rfl) (pv 3) (fun _ _=>rfl))))))),?_⟩
    refine ⟨_,rfl,rfl,_,rfl,?_⟩
    rw [dint]
    have hsub:=subs_sub hs
    refine ite2 (fun h=>?_) fun h=>?_
    · have h':((enc D s:Nat):Int)=0:=of_decide_eq_true h
      have e0:enc D s=0:=by omega
      have:=k H ⟨hx,hch,memo,hmem,hM⟩ (Keep.refl _ _)
      rw [e0,cntN_zero] at this
      exact this
    · have h0:enc D s ≠ 0:=fun z=>h (decide_eq_true (by rw [z];rfl))
      clear h
      obtain ⟨bs,c1,c2,c3⟩:=hch
      have hch:ChsAt H m (rs.map (chOf D)):=⟨bs,c1,c2,c3⟩
      rw [List.length_map] at c2
      refine ⟨_,rfl,_,_,rfl,rfl,_,rfl,x,B,dx,_,_,rfl,hx,T.cl,T.nC,pf_ch _ _ _,m,_,rfl,.inl (SqL.of c1),_,rfl,_,_,rfl,rfl,_,_,rfl,rfl,_,rfl,?_⟩
      have em:Builtin.bitAnd ((enc D s:Nat):Int) 15=(s.length:Int):=by
        rw [bitAnd_m4]
        have:=enc_mod (D:=D) (l:=s) (by omega)
        omega
      rw [em,List.length_map,c2]
      refine ite2 (fun h=>?_) fun h=>?_
      · have h':(rs.length:Int) - (i:Int) < (s.length:Int):=of_decide_eq_true h
        have:=k H ⟨hx,hch,memo,hmem,hM⟩ (Keep.refl _ _)
        rw [cntN_big h0 (by rw [List.length_drop,List.length_map,enc_mod (by omega)];omega)] at this
        exact this
      · have h':¬ (rs.length:Int) - (i:Int) < (s.length:Int):=fun z=>h (decide_eq_true z)
        clear h
        refine ⟨_,rfl,_,rfl,(by show 2<=sizeLine;decide),fun kb hkb=>?_⟩
        have sk:=same_new (o:=.tup [.int (i:Int),.int ((enc D s:Nat):Int)]) hkb
        have hk1:(upd H kb (.tup [.int (i:Int),.int ((enc D s:Nat):Int)])) kb=some (.tup ((mKey i (enc D s)).map kV)):=upd_same
        have hx1:=sk _ _ hx
        have hm1:=sk _ _ hmem
        have hch1:=hch.same sk
        generalize upd H kb (.tup [.int (i:Int),.int ((enc D s:Nat):Int)])=H1 at *
        have fin:∀ (H':Hp) (v4 v5 v6 v7:Option V) (memo':List (List Key × V)) (v:V),H' x=some (.ins B dx (pf m wh d))->H' kb=some (.tup ((mKey i (enc D s)).map kV))->H' d=some (.dT memo')->Memo (rs.map (chOf D)) D l memo'->ChsAt H' m (rs.map (chOf D))->valV memo' (mKey i (enc D s))=some v->Keep H H' d->
            tRet (tDGet (tFld K (tVar 0) "counted") (tVar 3)) { nx:=fun _ H'=>Q .non H',rt:=Q } [some (.ref x),some (.int (i:Int)),some (.int ((enc D s:Nat):Int)),some (.ref kb),v4,v5,v6,v7] H':=by
          intro H' v4 v5 v6 v7 memo' v hx' hk' hd' hM' hc' hv hK
          refine ⟨_,rfl,x,B,dx,_,_,rfl,hx',T.cl,T.nD,pf_co _ _ _,_,rfl,d,v,rfl,?_,?_⟩
          · rw [<- hv]
            exact DGet.t hd' hk'
          · rw [hM'.val hv]
            exact k H' ⟨hx',hc',memo',hd',hM'⟩ hK
        refine ⟨_,rfl,_,rfl,x,B,dx,_,_,rfl,hx1,T.cl,T.nD,pf_co _ _ _,d,_,rfl,DGet.t hm1 hk1,_,rfl,?_⟩
        cases hv:valV memo (mKey i (enc D s)) with
        | some v=>exact iteF (fin H1 _ _ _ _ memo v hx1 hk1 hm1 hM hch1 hv (Keep.of sk))
        | none=>
          refine iteT ?_
          have hsne:s ≠ []:=fun z=>h0 ((enc_zero D s).mpr z)
          have hs1:1<=s.length:=Nat.one_le_iff_ne_zero.mpr fun z=>hsne (List.length_eq_zero_iff.mp z)
          have hir:i < rs.length:=by omega
          have hdrop:(rs.map (chOf D)).drop i=chOf D rs[i]::(rs.map (chOf D)).drop (i+1):=by
            rw [List.drop_eq_getElem_cons (by rw [List.length_map];exact hir),List.getElem_map]
          obtain ⟨n',rfl⟩:∃ n',n=n'+1:=⟨n - 1,by omega⟩
          have hlr:¬ ((rs.map (chOf D)).drop (i+1)).length+1 < enc D s % 16:=by
            rw [List.length_drop,List.length_map,enc_mod (by omega)]
            omega
          have hstep:=cntN_step (ch:=chOf D rs[i]) h0 hlr
          rw [<- hdrop] at hstep
          have hri:(rs.map (chOf D))[i]?=some (chOf D rs[i]):=by rw [List.getElem?_map,List.getElem?_eq_getElem hir];rfl
          generalize rs[i]=r at *
          refine ⟨_,rfl,x,dx,_,rfl,hx1,pf_no _ _ _,_,rfl,_,_,rfl,rfl,_,rfl,x,dx,m,d,wh,rs,D,l,s,i+1,rfl,⟨hx1,hch1,memo,hm1,hM⟩,h14,hl14,hD,hir,by omega,hs,fun H2 hP2 k2=>?_⟩
          obtain ⟨hx2,hch2,memo2,hm2,hM2⟩:=hP2
          obtain ⟨bs2,d1,d2,d3⟩:=hch2
          have hch2:ChsAt H2 m (rs.map (chOf D)):=⟨bs2,d1,d2,d3⟩
          have hib:i < bs2.length:=by rw [d2,List.length_map];exact hir
          have hbi:bs2[i]?=some bs2[i]:=List.getElem?_eq_getElem hib
          obtain ⟨_,es,e1,e2,e3⟩:=d3 i _ _ hbi hri
          generalize bs2[i]=bch at *
          have hk2:H2 kb=some (.tup ((mKey i (enc D s)).map kV)):=k2 _ _ hk1 (ne_of hk1 hm1 (by intro z;cases z))
          refine ⟨_,rfl,x,B,dx,_,_,rfl,hx2,T.cl,T.nC,pf_ch _ _ _,_,rfl,m,_,_,_,rfl,rfl,SqL.of d1,atI_nat (by rw [List.getElem?_map,hbi];rfl),bch,rfl,⟨_,SqL.of e1⟩,
            for_list (K:=K) (a:=bch) (xs:=es.map V.ref) (fun j σ H'=>∃ (v5 v6 v7:Option V),σ=[some (.ref x),some (.int (i:Int)),some (.int ((enc D s:Nat):Int)),some (.ref kb),some (.int ((cntN ((rs.map (chOf D)).drop (i+1)) (enc D s)+(((chOf D r).take j).map fun c=>if (enc D s &&& c.2.2) ≠ 0 then cntN ((rs.map (chOf D)).drop (i+1)) (enc D s - c.2.1) else 0).sum:Nat):Int)),v5,v6,v7]/\PlOk H' B x dx m d wh (rs.map (chOf D)) D l/\Keep H2 H' d)
              ⟨Option.none,Option.none,Option.none,rfl,⟨hx2,hch2,memo2,hm2,hM2⟩,Keep.refl _ _⟩ (fun j σ H' _ ⟨v5,v6,v7,_,_,kk⟩=>SqL.of (kk _ _ e1 (ne_of e1 hm2 (by intro z;cases z)))) ?_ ?_⟩
          · rintro j y σ H3 hy ⟨v5,v6,v7,rfl,hP3,k3⟩
            rw [List.getElem?_map] at hy
            cases hb:es[j]? with
            | none=>rw [hb] at hy;cases hy
            | some b=>
              rw [hb] at hy
              cases hy
              have hj:j < (chOf D r).length:=by rw [<- e2];exact (List.getElem?_eq_some_iff.mp hb).1
              have hcj:(chOf D r)[j]?=some (chOf D r)[j]:=List.getElem?_eq_getElem hj
              have hbt:=k3 _ _ (e3 j b _ hb hcj) (ne_of (e3 j b _ hb hcj) hm2 (by intro z;cases z))
              have tk:(chOf D r).take (j+1)=(chOf D r).take j++[(chOf D r)[j]]:=by rw [List.take_succ,hcj];rfl
              obtain ⟨y,hyD,hu,hmk⟩:=chOf_mem (List.getElem_mem hj)
              rw [tk,List.map_append,List.sum_append]
              generalize (chOf D r)[j]=c at *
              refine ⟨b,_,rfl,SqT.of hbt,rfl,_,_,rfl,_,_,rfl,_,_,rfl,rfl,?_⟩
              refine ⟨_,rfl,_,rfl,_,_,rfl,rfl,rfl,_,rfl,?_⟩
              show if (!decide (V.int (Builtin.bitAnd ((enc D s:Nat):Int) ((c.2.2:Nat):Int))=V.int 0))=true then _ else _
              rw [dint,bit_and]
              by_cases hz:(enc D s &&& c.2.2)=0
              · rw [decide_eq_true (by rw [hz];rfl)]
                refine iteF ⟨some (.int (c.1:Int)),some (.int (c.2.1:Int)),some (.int (c.2.2:Int)),?_,hP3,k3⟩
                rw [List.map_cons,if_neg (fun q=>q hz)]
                rfl
              · rw [decide_eq_false (fun q=>hz (by omega))]
                refine iteT ?_
                have hym:y ∈ s:=(enc_has (by omega) hyD (fun z hz=>hD z (hsub.2 z hz))).mp (by rw [<- hmk];exact hz)
                obtain ⟨en1,en2⟩:=enc_erase (D:=D) hym
                have hz2:((enc D s:Nat):Int) - ((c.2.1:Nat):Int)=((enc D (s.erase y):Nat):Int):=by
                  rw [en1,hu]
                  omega
                have hx3:=hP3.at_
                refine ⟨_,rfl,_,rfl,x,dx,_,rfl,hx3,pf_no _ _ _,_,rfl,_,_,rfl,rfl,_,rfl,_,rfl,_,_,rfl,rfl,x,dx,m,d,wh,rs,D,l,s.erase y,i+1,?_,hP3,h14,hl14,hD,hir,by omega,subs_erase hs,fun H4 hP4 k4=>?_⟩
                · show [V.ref x,V.int ((i:Int)+1),V.int (((enc D s:Nat):Int) - ((c.2.1:Nat):Int))]=_
                  rw [hz2]
                  rfl
                · refine ⟨_,_,rfl,rfl,some (.int (c.1:Int)),some (.int (c.2.1:Int)),some (.int (c.2.2:Int)),?_,hP4,k3.trans k4⟩
                  have ea:∀ A S:Nat,((A+S:Nat):Int)+((cntN ((rs.map (chOf D)).drop (i+1)) (enc D (s.erase y)):Nat):Int)=((A+(S+(([c]:List Ch).map fun c=>if (enc D s &&& c.2.2) ≠ 0 then cntN ((rs.map (chOf D)).drop (i+1)) (enc D s - c.2.1) else 0).sum):Nat):Int):=fun A S=>by
                    rw [List.map_cons,if_pos hz,List.map_nil,List.sum_cons,List.sum_nil,Nat.add_zero,en1,<- hu,<- Int.natCast_add,Nat.add_assoc]
                    all_goals rfl
                  exact congrArg (fun z=>[some (V.ref x),some (.int (i:Int)),some (.int ((enc D s:Nat):Int)),some (.ref kb),some (V.int z),some (.int (c.1:Int)),some (.int (c.2.1:Int)),some (.int (c.2.2:Int))]) (ea _ _)
          · rintro σ H3 ⟨v5,v6,v7,rfl,hP3,k3⟩
            rw [List.length_map,e2,List.take_length,<- hstep]
            obtain ⟨hx3,hch3,memo3,hm3,hM3⟩:=hP3
            have hk3:H3 kb=some (.tup ((mKey i (enc D s)).map kV)):=k3 _ _ hk2 (ne_of hk2 hm2 (by intro z;cases z))
            refine ⟨_,rfl,_,rfl,x,B,dx,_,_,rfl,hx3,T.cl,T.nD,pf_co _ _ _,_,rfl,d,_,rfl,DPut.t hm3 hk3 (hM3.len hl14),?_⟩
            have kd:Keep H3 (upd H3 d (.dT (putK memo3 (mKey i (enc D s)) (.int ((cntN ((rs.map (chOf D)).drop i) (enc D s):Nat):Int))))) d:=fun b o hb hbd=>by rw [upd_ne hbd];exact hb
            exact fin _ _ _ _ _ _ _ (kd _ _ hx3 (ne_of hx3 hm3 (by intro z;cases z))) (kd _ _ hk3 (ne_of hk3 hm3 (by intro z;cases z))) upd_same (hM3.put (by omega) hs) (hch3.keep kd hm3 (by intro xs z;cases z) (by intro xs z;cases z)) (val_put _ _ _) (((Keep.of sk).trans k2).trans (k3.trans kd))
end
end Lu
namespace Lu
open PySem PySem.Spec PyProof.Rows L2 Lute LuR LuW LuC LuteSong
def spCP:Sp:=fun vs H Q _=>∃ (mc mn:Addr) (rs:List (List Iv)) (l:List Iv),vs=[.ref mc,.ref mn]/\TabAt H mc rs/\rs.length<=14/\(∀ r ∈ rs,r.length<=16)/\NotesAt H mn l/\l.length<=14/\∀ H',Same H H'->Q (.int ((cnt rs l:Nat):Int)) H'
def spMO:Sp:=fun vs H Q _=>∃ (m:Addr) (so:Song),vs=[.ref m]/\SongAt H m so/\so.length<=512/\(∀ v ∈ so,Verse.ok v=true)/\∀ (H':Hp) (p:Addr),Same H H'->H p=none->TabAt H' p (notesOf so)->Q (.ref p) H'
def waysOut (so:Song) (rs:List (List Iv)) (k:Nat):List Int:=match (notesOf so)[k]? with
  | none=>[-4]
  | some l=>[((cnt rs l:Nat):Int)]
def spWM:Sp:=fun vs H Q _=>∃ (m mc:Addr) (k:Nat) (so:Song) (rs:List (List Iv)),vs=[.ref m,.ref mc,.int (k:Int)]/\SongAt H m so/\so.length<=512/\(∀ v ∈ so,Verse.ok v=true)/\TabAt H mc rs/\rs.length<=14/\(∀ r ∈ rs,r.length<=16) ∧
  ∀ (H':Hp) (p:Addr),H' p=some (.lst ((waysOut so rs k).map V.int))->Q (.ref p) H'
theorem notes_snoc (s:Song) (v:Verse):notesOf (s++[v])=notesOf s++(match v with
    | .bar=>[]
    | .moment _ l=>[l]):=by
  unfold notesOf
  rw [List.filterMap_append]
  cases v <;> rfl
theorem notes_len {so:Song} (h:∀ v ∈ so,Verse.ok v=true):∀ l ∈ notesOf so,l.length<=14:=fun l hl=>by
  obtain ⟨v,hv,e⟩:=List.mem_filterMap.mp hl
  cases v with
  | bar=>cases e
  | moment n l'=>
    cases e
    exact (ok_moment (h _ hv)).2.2.2
theorem notes_count (so:Song):(notesOf so).length<=so.length:=List.length_filterMap_le _ _
section
variable {P:Program} {w:World} {K:PySem.W.Frag} {mg:Str->Option Value} {base:Heap} {B C:Addr}
theorem scCP:FnScope ["courses","notes","placings"] ["courses","notes"] (defScope s_count_placings):=⟨rfl,rfl,rfl,by decide +kernel,rfl,by decide +kernel,by decide +kernel⟩
theorem ok_cp {f:Addr} {fd:FuncData} (F:Fun K "count_placings" "count_placings" s_count_placings f fd) (T:TxQ K B) (DP:Mke P w K mg base C B 2 "Placings" ["self","courses","notes"] (spPI B)) (MC:Mth P w K mg base C B 15 "count_from" ["self","course","left"] (spCF B 15)):
    FnOk P w K mg base (CXF P w C) 16 f fd ["courses","notes"] spCP:=by
  refine F.okX scCP (fun vs H Q E h=>?_) (fun cdv A outer s H vs Q E hr h=>?_)
  · obtain ⟨mc,mn,rs,l,rfl,_⟩:=h
    rfl
  · obtain ⟨mc,mn,rs,l,rfl,hT,h14,h16,hN,hl,k⟩:=h
    refine ⟨_,pss_cons (ps_set (i:=2) scCP.nd rfl (Or.inl rfl) (pe_mk DP (hr.mono (by decide)) rfl (pa_cons (pv 0) (pa_cons (pv 1) pa_nil))))
      (pss_one (ps_ret (pe_mt MC hr (pv 2) (pa_cons pe_int (pa_cons (pe_fld (pv 2) rfl) pa_nil))))),?_⟩
    refine ⟨_,rfl,_,rfl,fun x dx hx0 hdx hne=>?_⟩
    have s0:Same H (upd (upd H dx (.own x)) x (.ins B dx [])):=fun b o hb=>by rw [upd_ne (ne_of_none hb hx0),upd_ne (ne_of_none hb hdx)];exact hb
    refine ⟨x,dx,mc,mn,rs,l,rfl,upd_same,hT.same s0,h14,h16,hN.same s0,hl,fun H1 m d hx1 hC hd hd0 k1=>⟨rfl,?_⟩⟩
    have nd:H d=Option.none:=by
      cases q:H d with
      | none=>rfl
      | some o=>rw [s0 _ _ q] at hd0;cases hd0
    have s1:Same H H1:=Same.made hx0 hdx k1
    refine ⟨_,rfl,x,dx,_,rfl,hx1,pf_no _ _ _,_,rfl,x,B,dx,_,_,rfl,hx1,T.cl,T.nW,pf_wh _ _ _,x,dx,m,d,_,rs,dd l,l,l,0,rfl,⟨hx1,hC,[],hd,memo_nil _ _ _⟩,h14,hl,fun y hy=>((dd_facts l).2.1 y).mpr hy,Nat.zero_le _,by omega,subs_self l,fun H2 hP2 k2=>?_⟩
    rw [List.drop_zero,cntN_enc rs l hl fun y hy=>((dd_facts l).2.1 y).mpr hy]
    exact k H2 fun b o hb=>k2 _ _ (s1 _ _ hb) (fun z=>by rw [z,nd] at hb;cases hb)
def moN:List Str:=["lines","length","notes"]
theorem scMO:FnScope moN ["lines"] (defScope s_moments_of):=⟨rfl,rfl,rfl,by decide +kernel,rfl,by decide +kernel,by decide +kernel⟩
theorem ok_mo {f:Addr} {fd:FuncData} (F:Fun K "moments_of" "moments_of" s_moments_of f fd):FnOk P w K mg base (CXF P w C) 1 f fd ["lines"] spMO:=by
  refine F.okX scMO (fun vs H Q E h=>?_) (fun cdv A outer s H vs Q E hr h=>?_)
  · obtain ⟨m,so,rfl,_⟩:=h
    rfl
  · obtain ⟨m,so,rfl,hS,h512,hok,k⟩:=h
    refine ⟨_,pss_one (ps_ret (pe_lc (own:=[("length",1),("notes",2)]) (g:=gTup K 2 (gCons (gName 1) (gCons (gName 2) gNil))) (tt:=tTest (tOp (rI0 fun i j=>.bl (decide (j < i))) (tVar 1) (tC (.int 0)))) (te:=tVar 2) rfl scMO.nd (pi_list (pv 0))
          (show BlkOk moN (defScope s_moments_of) _ [("length",1),("notes",2)] from ⟨rfl,by decide +kernel,by decide +kernel,by decide +kernel,by decide +kernel⟩)
          (fun _ _ _ _ _=>pg_tup rfl (pgs_cons (pg_name (i:=1) scMO.nd rfl (Or.inl rfl)) (pgs_cons (pg_name (i:=2) scMO.nd rfl (Or.inl rfl)) pgs_nil))) (fun _ _ _ _ _=>pts_one (pt_cmpR op_gt (pv 1) pe_int (nomark _)))
          (fun _ _ _ _ _=>pv 2))),?_⟩
    have nt:=hS.nt
    obtain ⟨bs,h1,h2,h3⟩:=hS
    refine ⟨_,rfl,m,rfl,⟨_,SqL.of h1⟩,fun p hp=>?_⟩
    refine lc_list (K:=K) (a:=m) (xs:=bs.map V.ref) (fun i H'=>Same H H'/\TabAt H' p (notesOf (so.take i))) ⟨same_new hp,[],upd_same,rfl,fun i b x hb=>by simp at hb⟩ (fun i H' _ q=>SqL.of (q.1 _ _ h1)) ?_ ?_
    · rintro i y H1 hy ⟨s1,hT⟩
      rw [List.getElem?_map] at hy
      cases hb:bs[i]? with
      | none=>rw [hb] at hy;cases hy
      | some b=>
        rw [hb] at hy
        cases hy
        have hi:i < so.length:=by rw [<- h2];exact (List.getElem?_eq_some_iff.mp hb).1
        have hv:so[i]?=some so[i]:=List.getElem?_eq_getElem hi
        have tk:so.take (i+1)=so.take i++[so[i]]:=by rw [List.take_succ,hv];rfl
        have hVH:=h3 i b _ hb hv
        have hok1:=hok _ (List.getElem_mem hi)
        rw [tk,notes_snoc]
        generalize so[i]=v at *
        cases v with
        | bar=>
          obtain ⟨nl,q1,q2,q3⟩:=hVH
          refine ⟨b,_,rfl,SqT.of (s1 _ _ q1),rfl,_,_,rfl,_,_,rfl,rfl,rfl,_,rfl,_,_,rfl,rfl,_,rfl,?_⟩
          exact iteF ⟨s1,by rw [List.append_nil];exact hT⟩
        | moment n l=>
          obtain ⟨nl,q1,q2,q3,q4⟩:=hVH
          have hn:=lengths_pos (ok_moment hok1).1
          refine ⟨b,_,rfl,SqT.of (s1 _ _ q1),rfl,_,_,rfl,_,_,rfl,rfl,rfl,_,rfl,_,_,rfl,rfl,_,rfl,?_⟩
          rw [decide_eq_true (show (0:Int) < (n:Int) by omega)]
          refine iteT ?_
          obtain ⟨xs,hx,hxl⟩:=hT.len
          have nn:nl ≠ p:=fun z=>by
            obtain ⟨_,w1,_⟩:=q3
            rw [z,hp] at w1
            cases w1
          refine ⟨_,rfl,xs,hx,?_,fun b' o hb'=>?_,hT.snoc hx (q3.same s1) nn⟩
          · rw [hxl]
            refine Nat.lt_of_le_of_lt (notes_count _) (Nat.lt_of_le_of_lt (m:=512) ?_ (by decide))
            rw [List.length_take]
            omega
          · rw [upd_ne (ne_of_none hb' hp)]
            exact s1 _ _ hb'
    · rintro H1 ⟨s1,hT⟩
      rw [List.length_map,h2,List.take_length] at hT
      exact k H1 p s1 hp hT
theorem scWM:FnScope ["lines","courses","k","moments"] ["lines","courses","k"] (defScope s_ways_of_moment):=⟨rfl,rfl,rfl,by decide +kernel,rfl,by decide +kernel,by decide +kernel⟩
theorem ok_wm {f:Addr} {fd:FuncData} (F:Fun K "ways_of_moment" "ways_of_moment" s_ways_of_moment f fd) (zl:mg "len"=none) (c4:Cst mg "NO_SUCH_LINE" (.int (-4))) (DM:Dfn P w K mg base C 1 "moments_of" ["lines"] spMO) (DC:Dfn P w K mg base C 16 "count_placings" ["courses","notes"] spCP):
    FnOk P w K mg base (CXF P w C) 17 f fd ["lines","courses","k"] spWM:=by
  refine F.okX scWM (fun vs H Q E h=>?_) (fun cdv A outer s H vs Q E hr h=>?_)
  · obtain ⟨m,mc,k,so,rs,rfl,_⟩:=h
    rfl
  · obtain ⟨m,mc,k,so,rs,rfl,hS,h512,hok,hT,h14,h16,kQ⟩:=h
    refine ⟨_,pss_cons (ps_set (i:=3) scWM.nd rfl (Or.inl rfl) (pe_fn DM (hr.mono (by decide)) rfl (pa_cons (pv 0) pa_nil)))
      (pss_cons (ps_if (pt_cmpR op_ge (pv 2) (pe_callB call_len_seq (by rfl) zl PySem.boot_len (pa_cons (pv 3) pa_nil)) (nomark _)) (pss_one (ps_ret (pe_lst (pa_cons (pe_cst c4) pa_nil)))) pss_nil)
      (pss_one (ps_ret (pe_lst (pa_cons (pe_fn DC hr rfl (pa_cons (pv 1) (pa_cons (pe_ix ix_list (pv 3) (pv 2) (fun _ _=>rfl)) pa_nil))) pa_nil))))),?_⟩
    refine ⟨_,rfl,m,so,rfl,hS,h512,hok,fun H1 p s1 hp hT1=>?_⟩
    obtain ⟨bs,g1,g2,g3⟩:=hT1
    refine ⟨_,rfl,_,rfl,p,_,rfl,.inl (SqL.of g1),_,_,rfl,rfl,_,rfl,?_⟩
    rw [List.length_map,g2]
    refine ite2 (fun h=>?_) fun h=>?_
    · have h':((notesOf so).length:Int)<=(k:Int):=of_decide_eq_true h
      refine ⟨(by show 1<=sizeLine;decide),fun q hq=>kQ _ q ?_⟩
      have e:waysOut so rs k=[-4]:=by
        unfold waysOut
        rw [List.getElem?_eq_none (by omega)]
      rw [e]
      exact upd_same
    · have h':¬ ((notesOf so).length:Int)<=(k:Int):=fun z=>h (decide_eq_true z)
      have hk:k < (notesOf so).length:=by omega
      have hkb:k < bs.length:=by omega
      have e1:bs[k]?=some bs[k]:=List.getElem?_eq_getElem hkb
      have e2:(notesOf so)[k]?=some (notesOf so)[k]:=List.getElem?_eq_getElem hk
      have hNk:=(g3 k _ _ e1 e2).2
      have hl14:=notes_len hok _ (List.getElem_mem hk)
      have e:waysOut so rs k=[((cnt rs (notesOf so)[k]:Nat):Int)]:=by
        unfold waysOut
        rw [e2]
      rw [e] at kQ
      generalize bs[k]=b at *
      generalize (notesOf so)[k]=l at *
      refine ⟨_,rfl,_,rfl,_,rfl,p,_,_,_,rfl,rfl,SqL.of g1,atI_nat (by rw [List.getElem?_map,e1];rfl),mc,b,rs,l,rfl,hT.same s1,h14,h16,hNk,hl14,fun H2 s2=>?_⟩
      exact ⟨(by show 1<=sizeLine;decide),fun q hq=>kQ _ q upd_same⟩
def spWays (K:PySem.W.Frag):Sp:=fun vs H Q _=>∃ (a ai:Addr) (ns is:List Int) (k:Int),vs=[.int k,.ref a,.ref ai]/\0<=k/\(∀ c Pt,PySem.W.tabIn K "ways"=some (c,Pt)->H Pt=some (.tbl #[]))/\SqL K H a (ns.map V.int)/\(∀ z ∈ ns,0<=z/\z<=255)/\SqL K H ai (is.map V.int)/\(∀ z ∈ is,0<=z/\z<=255) ∧
  ∀ (H':Hp) (p:Addr),H' p=some (.lst ((PyWqaucp.ways k ns is).map V.int))->Q (.ref p) H'
theorem ways_eq (k:Int) (ns is:List Int):PyWqaucp.ways k ns is=if 65536 < (LuSongNeutral.bytes ns).length\/4096 < (LuSongNeutral.bytes is).length then [-2] else (match readSong (LuSongNeutral.bytes ns) with
    | .error _=>[-6]
    | .ok x=>match readInst (LuSongNeutral.bytes is) with
      | .error _=>[-8]
      | .ok t=>match (notesOf x)[k.toNat]? with
        | none=>[-4]
        | some l=>[((placings t l).length:Int)]):=by
  show LuteF.of2 (LuSongNeutral.bytes ns) (LuSongNeutral.bytes is) _=_
  unfold LuteF.of2
  show (if 65536 < (LuSongNeutral.bytes ns).length\/4096 < (LuSongNeutral.bytes is).length then _ else _)=_
  split
  · rfl
  · cases readSong (LuSongNeutral.bytes ns) with
    | error e=>rfl
    | ok x=>
      dsimp only
      cases readInst (LuSongNeutral.bytes is) with
      | error e=>rfl
      | ok t=>
        dsimp only
        show (match (notesOf x)[k.toNat]? with | none=>_ | some l=>_)=_
        cases (notesOf x)[k.toNat]? <;> rfl
theorem TabAt.unt {H:Hp} {m:Addr} {rs:List (List Iv)} {cs:List (Addr × Obj)} (h:TabAt H m rs) (hc:∀ c o,cs.lookup c=some o->H c=some (fz o)):TabAt (L2.unt H cs) m rs:=
  h.move fun b o hb hk=>unt_keep hc hb fun z e=>by
    rcases hk with ⟨xs,q⟩ | ⟨xs,q⟩ <;> (rw [q] at e;cases e)
theorem scWY:FnScope ["k","s","i"] ["k","s","i"] (defScope s_ways):=⟨rfl,rfl,rfl,by decide +kernel,rfl,by decide +kernel,by decide +kernel⟩
theorem scWL:LamScope ["lines","courses","k"] ["lines","courses"] (lamSc (lamIn s_ways)):=⟨rfl,rfl,rfl,by decide +kernel,rfl,by decide +kernel,by decide +kernel,by decide +kernel⟩
theorem freeWL:∀ y ∈ (lamSc (lamIn s_ways)).names,y.2=.free->(defScope s_ways).names.lookup y.1=some .cell:=by decide +kernel
theorem nameWL:∀ x,(x,NameKind.free) ∈ (lamSc (lamIn s_ways)).names->x="k":=by
  have:∀ y ∈ (lamSc (lamIn s_ways)).names,y.2=.free->y.1="k":=by decide +kernel
  exact fun x hx=>this _ hx rfl
theorem ok_ways {f c Pt:Addr} {fd:FuncData} (F:FunT K "ways" "ways" s_ways f fd c Pt) (BM:BMod base mg) (hT:PySem.W.tabIn K "ways"=some (c,Pt)) (DA:Dfn0 P w K mg base 42 "asked_of_song_and_instrument" ["s","i","answer"] (spASI P w K mg base C 40)) (DW:Dfn P w K mg base C 17 "ways_of_moment" ["lines","courses","k"] spWM):
    FnOk P w K mg base CX0 43 f fd ["k","s","i"] (spWays K):=by
  refine F.okT scWY (fun vs H Q E h=>?_) (fun A outer s H vs Q E hr h=>?_)
  · obtain ⟨a,ai,ns,is,k,rfl,_⟩:=h
    rfl
  · obtain ⟨a,ai,ns,is,k,rfl,hk0,hPt,hS,hns,hI,his,kQ⟩:=h
    have hPt:=hPt _ _ hT
    obtain ⟨ga,fda,GA,hma,hka,hba⟩:=DA.any (C:=C)
    obtain ⟨gn,fdn,GN,hmn,hkn,hbn⟩:=DW
    rw [<- tx_bytes hns] at hS
    rw [<- tx_bytes his] at hI
    rw [ways_eq] at kQ
    generalize LuSongNeutral.bytes ns=t at *
    generalize LuSongNeutral.bytes is=ti at *
    refine ⟨_,pss_one (ps_ret (pe_callC (C:=C) (L:=[("k",0)]) (E:=E0) GA hr rfl hma hka hba passF (fun y i hy=>by
        have e:=List.mem_singleton.mp hy
        cases e
        exact ⟨rfl,rfl,rfl⟩) (pa_cons (pv 1) (pa_cons (pv 2) (pa_cons (pe_lam (qual:="ways.<locals>.<lambda>") rfl F.hd BM rfl (fun y hy e=>cell_has (freeWL y hy e))) pa_nil))))),?_⟩
    refine ⟨fun x i hx=>?_,_,rfl,_,rfl,hPt,fun lf H2 kb hP2 O cs Z=>?_⟩
    · have e:=List.mem_singleton.mp hx
      cases e
      exact ⟨_,rfl⟩
    have nz:∀ c o,cs.lookup c=some o->H2 c=none:=fun c o e=>(Z.free c o e).1
    refine ⟨a,ai,lf,t,ti,rfl,SqL.ovl (SqL.kb hS kb hPt) nz,SqL.ovl (SqL.kb hI kb hPt) nz,fun h H' p hp fr=>?_,fun h=>⟨fun x hx H' p hp fr=>?_,fun so hso=>⟨fun x hx H' p hp fr=>?_,fun ins hins hok=>?_⟩⟩⟩
    · rw [if_pos h] at kQ
      exact kQ _ p (unt_keep fr hp (fun _ z=>by cases z))
    · rw [if_neg h,hx] at kQ
      exact kQ _ p (unt_keep fr hp (fun _ z=>by cases z))
    · rw [if_neg h,hso,hx] at kQ
      exact kQ _ p (unt_keep fr hp (fun _ z=>by cases z))
    · rw [if_neg h,hso,hins] at kQ
      dsimp only at kQ
      have eo:(match (notesOf so)[k.toNat]? with
        | none=>[-4]
        | some l=>[((placings ins l).length:Int)])=waysOut so (tab ins) k.toNat:=by
        unfold waysOut
        cases (notesOf so)[k.toNat]? with
        | none=>rfl
        | some l=>
          dsimp only
          rw [ways_cnt hok]
      rw [eo] at kQ
      have hl14:(tab ins).length<=14:=by
        unfold tab
        rw [List.length_append,List.length_mapIdx,List.length_map]
        exact hok.n14
      have LA:=lamAt (P:=P) (w:=w) (K:=K) (mg:=mg) (base:=base) (C:=C) (N:=["lines","courses","k"]) (ps:=["lines","courses"]) (fr:=[.int k]) O Z (fun x hx=>⟨0,.int k,by rw [nameWL x hx];exact List.mem_singleton.mpr rfl,rfl⟩) scWL rfl (fun j x v e1 e2=>by
          cases j with
          | zero=>
            cases e1
            cases e2
            exact ⟨0,List.mem_singleton.mpr rfl,rfl⟩
          | succ j=>simp at e1) (fun cl pm cd ctv us hl=>match us,hl with | [_,_],_=>rfl)
      refine ⟨2,fun vs H' Q' E'=>∃ m mc,vs=[.ref m,.ref mc]/\SongAt H' m so/\TabAt H' mc (tab ins)/\∀ (H'':Hp) (p:Addr),H'' p=some (.lst ((waysOut so (tab ins) k.toNat).map V.int))->Q' (.ref p) H'',(LA.run 39 _ (fun vs H' Q' E' h=>by obtain ⟨m,mc,rfl,_⟩:=h;rfl) fun cd cl A' outer' s' H' vs Q' E' hF hr' hsp=>?_),fun H' m m' sH hS1 hT1=>⟨m,m',rfl,hS1,hT1,fun H'' p hp fr=>kQ _ p (unt_keep fr hp (fun _ z=>by cases z))⟩⟩
      obtain ⟨m,mc,rfl,hS1,hT1,kq⟩:=hsp
      have hcs:=fun c o (e:cs.lookup c=some o)=>hF c _ _ (ovl_in e)
      obtain ⟨s512,sok,_⟩:=song_ok hso
      refine ⟨_,pe_call GN (hr'.mono (by decide)) rfl hmn hkn hbn .nil lpass (pa_cons (pv 0) (pa_cons (pv 1) (pa_cons (pv 2) pa_nil))),?_⟩
      exact ⟨_,rfl,_,rfl,_,rfl,m,mc,k.toNat,so,tab ins,by rw [Int.toNat_of_nonneg hk0];rfl,hS1.unt hcs,s512,sok,hT1.unt hcs,hl14,fun r hr=>(tab_ok hok r hr).2,fun H'' p hp nn=>kq _ p (ovl_keep nn hp)⟩
end
end Lu
namespace L2
open PySem PySem.Spec PyProof.Rows
def GFn (K:PySem.W.Frag) (x:Str) (st:Stmt):Prop:=∃ (f:Addr) (oc:Value) (od:Option Addr) (kV doc pm:Value) (an:Option Addr) (cdv ct:Value) (sl:Array (Option Value)),PySem.W.nsIn K mainGlobals x=some (some (.ref f)) ∧
  K.lookup f=some ⟨oc,od,.func (PySem.W.fnOf x x (defArgs st) (defBody st) (defScope st) .none kV doc pm an cdv ct),sl⟩/\PySem.W.codeIn K cdv x=true/\PySem.W.keepIn K (.ref f)=true
def CFn (K:PySem.W.Frag) (B:Addr) (m q:Str) (st:Stmt):Prop:=∃ (f:Addr) (oc:Value) (od:Option Addr) (kV doc pm:Value) (an:Option Addr) (cdv ct:Value) (sl:Array (Option Value)),PySem.W.findIn K (.ref B) m=some (some (.ref f))/\PySem.W.isFn K (.ref f)=true ∧
  K.lookup f=some ⟨oc,od,.func (PySem.W.fnOf m q (defArgs st) (defBody st) (defScope st) .none kV doc pm an cdv ct),sl⟩/\PySem.W.codeIn K cdv q=true/\PySem.W.keepIn K (.ref f)=true
def Bd (x q:Str) (st:Stmt) (ps:List Str):Prop:=∀ (kV doc pm:Value) (an:Option Addr) (cdv ct:Value) (us:List Value),us.length=ps.length->bindArgs (PySem.W.fnOf x q (defArgs st) (defBody st) (defScope st) .none kV doc pm an cdv ct) ⟨us,[]⟩=pure (ps.zip us)
section
variable {P:Program} {w:World} {K:PySem.W.Frag} {mg:Str->Option Value} {base h:Heap} {C B:Addr}
theorem GFn.dfn {x:Str} {st:Stmt} {ps:List Str} {sp:Sp} {k:Nat} (g:GFn K x st) (X:K.In h) (G:h.Ns mainGlobals mg) (hb:Bd x x st ps) (H:∀ f fd,Fun K x x st f fd->FnOk P w K mg base (CXF P w C) k f fd ps sp):Dfn P w K mg base C k x ps sp:=by
  obtain ⟨f,oc,od,kV,doc,pm,an,cdv,ct,sl,a,l,c,kp⟩:=g
  have F:=fun_mk (st:=st) l c kp
  exact ⟨f,_,H f _ F,PySem.W.mg_of X G a,kp,F.binds hb⟩
theorem CFn.mth {m q:Str} {st:Stmt} {ps:List Str} {sp:Sp} {k:Nat} (g:CFn K B m q st) (c:Cls K B) (hb:Bd m q st ps) (H:∀ f fd,Fun K m q st f fd->FnOk P w K mg base (CXF P w C) k f fd ps sp):Mth P w K mg base C B k m ps sp:=by
  obtain ⟨f,oc,od,kV,doc,pm,an,cdv,ct,sl,a,i,l,cd,kp⟩:=g
  have F:=fun_mk (st:=st) l cd kp
  exact ⟨f,_,H f _ F,c,⟨a,i,kp⟩,F.binds hb⟩
theorem CFn.mke {x q:Str} {st:Stmt} {ps:List Str} {sp:Sp} {k:Nat} (g:CFn K B "__init__" q st) (hm:mg x=some (.ref B)) (mk:PySem.W.makesIn K B=true) (kc:PySem.W.keepIn K (.ref B)=true) (hb:Bd "__init__" q st ps)
    (H:∀ f fd,Fun K "__init__" q st f fd->FnOk P w K mg base (CXF P w C) k f fd ps sp):Mke P w K mg base C B k x ps sp:=by
  obtain ⟨f,oc,od,kV,doc,pm,an,cdv,ct,sl,a,i,l,cd,kp⟩:=g
  have F:=fun_mk (st:=st) l cd kp
  exact ⟨f,_,H f _ F,⟨mk,a,i,kc⟩,hm,F.binds hb⟩
def strKeys (es:Array DictEntry):Bool:=es.toList.all fun e=>match e.key with
  | .str _ _=>true
  | _=>false
theorem strKeys_of {K:PySem.W.Frag} {N:Addr} {on:Value} {odn:Option Addr} {es:Array DictEntry} {ep:Nat} {sln:Array (Option Value)} (l:K.lookup N=some ⟨on,odn,.dict es ep,sln⟩) (h:strKeys es=true):strKeysB K N=true:=by
  unfold strKeysB
  rw [l]
  exact h
def XIn (K:PySem.W.Frag) (C:Addr) (st:Stmt):Prop:=∃ (N fI:Addr) (nm q:Str) (bs:List Value) (sn:List Str) (sub:List Value) (ab:Bool) (col:Option Bool) (dd:Option Addr) (k0 k1 k2 k3 k5:Option Value) (oc:Value) (od:Option Addr) (kV doc pm:Value) (an:Option Addr) (cdv ct:Value) (sl:Array (Option Value)) (on:Value) (odn:Option Addr) (es:Array DictEntry) (ep:Nat) (sln:Array (Option Value)),
  K.lookup C=some (excClassObj nm q C N bs LX.bmE true sn sub ab col dd k0 k1 k2 k3 k5 "Exception.__new__")/\K.lookup N=some ⟨on,odn,.dict es ep,sln⟩/\strKeys es=true/\PySem.W.nsIn K N "__init__"=some (some (.ref fI))/\PySem.W.nsIn K N "place"=some none/\PySem.W.nsIn K N "__setattr__"=some none ∧
  PySem.W.nsIn K N "__getattribute__"=some none/\PySem.W.nsIn K N "__getattr__"=some none/\PySem.W.keepIn K (.ref C)=true/\PySem.W.isFn K (.ref fI)=true ∧
  K.lookup fI=some ⟨oc,od,.func (PySem.W.fnOf "__init__" "Fault.__init__" (defArgs st) (defBody st) (defScope st) .none kV doc pm an cdv ct),sl⟩/\PySem.W.codeIn K cdv "Fault.__init__"=true/\PySem.W.keepIn K (.ref fI)=true
theorem XIn.xt {st:Stmt} {p1 p2 p3 p4:Pos} (g:XIn K C st) (S:FnScope ["self","place"] ["self","place"] (defScope st)) (hbd:defBody st=[.Assign [.Attribute (.Name "self" p1) "place" p2] (.Name "place" p3) p4])
    (hl:(defScope st).names.lookup ("self":Str)=some .local/\(defScope st).names.lookup ("place":Str)=some .local) (hb:Bd "__init__" "Fault.__init__" st ["self","place"]):XTxt K C st:=by
  obtain ⟨N,fI,nm,q,bs,sn,sub,ab,col,dd,k0,k1,k2,k3,k5,oc,od,kV,doc,pm,an,cdv,ct,sl,on,odn,es,ep,sln,a1,b1,b2,a3,a4,a5,a6,a7,a8,a9,l,cd,kp⟩:=g
  have F:=fun_mk (st:=st) l cd kp
  exact ⟨N,fI,_,"Fault.__init__",p1,p2,p3,p4,⟨⟨nm,q,bs,sn,sub,ab,col,dd,k0,k1,k2,k3,k5,a1⟩,strKeys_of b1 b2,a3,a4,a5,a6,a7,a8,a9⟩,F,S,hbd,hl,F.binds hb⟩
def CI (K:PySem.W.Frag) (x:Str) (i:Int):Prop:=∃ t,PySem.W.nsIn K mainGlobals x=some (some (.int i t))
theorem CI.cst {x:Str} {i:Int} (c:CI K x i) (X:K.In h) (G:h.Ns mainGlobals mg):Cst mg x (.int i):=by
  obtain ⟨t,e⟩:=c
  exact ⟨_,PySem.W.mg_of X G e,t,rfl⟩
def CD (K:PySem.W.Frag) (x:Str) (kvs:List (Int × Int)):Prop:=∃ (a:Addr) (es:Array DictEntry) (n:Nat),PySem.W.nsIn K mainGlobals x=some (some (.ref a))/\K.lookup a=some ⟨.type "dict",none,.dict es n,#[]⟩/\KPairs es.toList kvs/\(a == sysModules)=false
theorem CD.at_ {x:Str} {kvs:List (Int × Int)} (c:CD K x kvs) (nd:(kvs.map (·.1)).Nodup) (X:K.In h) (G:h.Ns mainGlobals mg):∃ a,Cst mg x (.ref a)/\KDict K a kvs:=by
  obtain ⟨a,es,n,e,l,p,s⟩:=c
  exact ⟨a,⟨_,PySem.W.mg_of X G e,rfl⟩,⟨es,n,l,p⟩,nd,s⟩
inductive IntsB:List Value->List Int->Prop
  | nil:IntsB [] []
  | cons {i:Int} {t:Tok} {us:List Value} {ns:List Int}:IntsB us ns->IntsB (.int i t::us) (i::ns)
theorem IntsB.vals:∀ {us:List Value} {ns:List Int},IntsB us ns->Vals (ns.map V.int) us
  | _,_,.nil=>.nil
  | _,_,.cons r=>.cons ⟨_,rfl⟩ r.vals
def CT (K:PySem.W.Frag) (x:Str) (ns:List Int):Prop:=∃ (a:Addr) (o:Obj) (its:List Value) (n:Nat),PySem.W.nsIn K mainGlobals x=some (some (.ref a))/\K.lookup a=some o/\o.cls=.type "tuple"/\o.data=.seq its.toArray n/\IntsB its ns
theorem CT.at_ {x:Str} {ns:List Int} (c:CT K x ns) (hz:ns.length<=1000) (X:K.In h) (G:h.Ns mainGlobals mg):∃ a,Cst mg x (.ref a)/\∀ H,SqT K H a (ns.map V.int):=by
  obtain ⟨a,o,its,n,e,l,hc,hd,r⟩:=c
  refine ⟨a,⟨_,PySem.W.mg_of X G e,rfl⟩,fun H=>.inr ⟨o,its.toArray,n,l,hc,hd,?_,by simpa using r.vals⟩⟩
  have:=r.vals.length
  rw [List.length_map] at this
  rw [List.size_toArray,<- this]
  exact Nat.le_of_lt (small1000 hz)
def CS (K:PySem.W.Frag) (x:Str) (s:Str):Prop:=∃ t,PySem.W.nsIn K mainGlobals x=some (some (.str s t))
theorem CS.cst {x:Str} {s:Str} (c:CS K x s) (X:K.In h) (G:h.Ns mainGlobals mg):Cst mg x (.str s):=by
  obtain ⟨t,e⟩:=c
  exact ⟨_,PySem.W.mg_of X G e,t,rfl⟩
theorem GFn.dfn0 {x:Str} {st:Stmt} {ps:List Str} {sp:Sp} {k:Nat} (g:GFn K x st) (X:K.In h) (G:h.Ns mainGlobals mg) (hb:Bd x x st ps) (H:∀ f fd,Fun K x x st f fd->FnOk P w K mg base CX0 k f fd ps sp):Dfn0 P w K mg base k x ps sp:=by
  obtain ⟨f,oc,od,kV,doc,pm,an,cdv,ct,sl,a,l,c,kp⟩:=g
  have F:=fun_mk (st:=st) l c kp
  exact ⟨f,_,H f _ F,PySem.W.mg_of X G a,kp,F.binds hb⟩
def GFnT (K:PySem.W.Frag) (x:Str) (st:Stmt):Prop:=∃ (f:Addr) (oc:Value) (od:Option Addr) (kV doc pm:Value) (an:Option Addr) (c:Addr) (ct:Value) (sl:Array (Option Value)) (Pt:Addr),PySem.W.nsIn K mainGlobals x=some (some (.ref f)) ∧
  K.lookup f=some ⟨oc,od,.func (PySem.W.fnOf x x (defArgs st) (defBody st) (defScope st) .none kV doc pm an (.ref c) ct),sl⟩/\PySem.W.codeIn K (.ref c) x=true/\PySem.W.keepIn K (.ref f)=true/\PySem.W.codeHdIn K c Pt=true/\PySem.W.tabIn K x=some (c,Pt)
theorem funT_mk {x qual:Str} {st:Stmt} {f c Pt:Addr} {oc:Value} {od an:Option Addr} {osl:Array (Option Value)} {kV doc pm ct:Value} (l:K.lookup f=some ⟨oc,od,.func (PySem.W.fnOf x qual (defArgs st) (defBody st) (defScope st) .none kV doc pm an (.ref c) ct),osl⟩)
    (h:PySem.W.codeIn K (.ref c) qual=true) (k:PySem.W.keepIn K (.ref f)=true) (hd:PySem.W.codeHdIn K c Pt=true):FunT K x qual st f (PySem.W.fnOf x qual (defArgs st) (defBody st) (defScope st) .none kV doc pm an (.ref c) ct) c Pt:=⟨⟨oc,od,kV,doc,pm,an,ct,osl,rfl,l,h⟩,hd,k⟩
def codeHdB (vs:Array Value) (c Pt:Addr):Bool:=(match (vs[11]?:Option Value) with | some (.ref P')=>P' == Pt | _=>false) &&
  (match vs.getD 18 .none with | .str _ _=>true | _=>false) && (match vs.getD 7 .none with | .int _ _=>true | _=>false) &&
  (match vs.getD 9 .none with | .bool _=>true | _=>false) && (match vs.getD 10 .none with | .int _ _=>true | _=>false) && c != Pt
theorem hd_mk {c Pt:Addr} {od:Option Addr} {vs:Array Value} {sl:Array (Option Value)} (lc:K.lookup c=some ⟨.type "code",od,.fields vs,sl⟩) (h:codeHdB vs c Pt=true):PySem.W.codeHdIn K c Pt=true:=by
  unfold PySem.W.codeHdIn
  rw [lc]
  exact h
theorem tab_mk {x:Str} {f c Pt:Addr} {oc:Value} {od od2:Option Addr} {fd:FuncData} {sl sl2:Array (Option Value)} {vs:Array Value} (a:PySem.W.nsIn K mainGlobals x=some (some (.ref f))) (l:K.lookup f=some ⟨oc,od,.func fd,sl⟩) (lc:K.lookup c=some ⟨.type "code",od2,.fields vs,sl2⟩) (h11:vs[11]?=some (.ref Pt)) (hc:fd.code=.ref c:=by rfl):PySem.W.tabIn K x=some (c,Pt):=by
  unfold PySem.W.tabIn
  rw [a]
  dsimp only
  rw [l]
  dsimp only
  rw [hc]
  dsimp only
  rw [lc]
  dsimp only
  rw [h11]
end
end L2
namespace L2
open PySem PySem.Spec PyProof.Rows
section
variable {P:Program} {w:World} {K:PySem.W.Frag} {mg:Str->Option Value} {base h:Heap} {C B:Addr}
theorem CFn.mthR {m q:Str} {st:Stmt} {ps:List Str} {sp:Nat->Sp} (g:CFn K B m q st) (c:Cls K B) (hb:Bd m q st ps) (h0:∀ vs H Q E,¬ sp 0 vs H Q E) (H:∀ n f fd,Fun K m q st f fd->Mth P w K mg base C B n m ps (sp n)->FnOk P w K mg base (CXF P w C) (n+1) f fd ps (sp (n+1))):∀ n,Mth P w K mg base C B n m ps (sp n):=by
  obtain ⟨f,oc,od,kV,doc,pm,an,cdv,ct,sl,a,i,l,cd,kp⟩:=g
  have F:=fun_mk (st:=st) l cd kp
  have all:∀ n,FnOk P w K mg base (CXF P w C) n f _ ps (sp n):=fun n=>by
    induction n with
    | zero=>exact ⟨fun vs H Q E hs=>absurd hs (h0 _ _ _ _),fun A outer s H args us vs Q E _ _ _ _ hs=>absurd hs (h0 _ _ _ _)⟩
    | succ n ih=>exact H n f _ F ⟨f,_,ih,c,⟨a,i,kp⟩,F.binds hb⟩
  exact fun n=>⟨f,_,all n,c,⟨a,i,kp⟩,F.binds hb⟩
end
end L2
namespace Lu
open PySem PySem.Spec PyProof.Rows L2 Lute LuR LuW LuteSong
open PySem.W (Codec)
structure All (K:PySem.W.Frag) (B C B_Placings:Addr):Prop where
  nB:PySem.W.nsIn K mainGlobals "Cursor"=some (some (.ref B))
  nC:PySem.W.nsIn K mainGlobals "Fault"=some (some (.ref C))
  pg:PySem.W.plainGet K B Str.empty=true
  hd:PySem.W.hasDictIn K B=true
  po:PySem.W.plainOver K B=true
  sa:PySem.W.findIn K (.ref B) "__setattr__"=some (some (.builtin "object.__setattr__"))
  mkB:PySem.W.makesIn K B=true
  kc:PySem.W.keepIn K (.ref B)=true
  nT:PySem.W.findIn K (.ref B) "text"=some none
  nP:PySem.W.findIn K (.ref B) "place"=some none
  nE:PySem.W.findIn K (.ref B) "end"=some none
  x:XIn K C s_Fault_init
  nB_Placings:PySem.W.nsIn K mainGlobals "Placings"=some (some (.ref B_Placings))
  pg_Placings:PySem.W.plainGet K B_Placings Str.empty=true
  hd_Placings:PySem.W.hasDictIn K B_Placings=true
  po_Placings:PySem.W.plainOver K B_Placings=true
  sa_Placings:PySem.W.findIn K (.ref B_Placings) "__setattr__"=some (some (.builtin "object.__setattr__"))
  mk_Placings:PySem.W.makesIn K B_Placings=true
  kc_Placings:PySem.W.keepIn K (.ref B_Placings)=true
  nA_Placings_choices:PySem.W.findIn K (.ref B_Placings) "choices"=some none
  nA_Placings_whole:PySem.W.findIn K (.ref B_Placings) "whole"=some none
  nA_Placings_counted:PySem.W.findIn K (.ref B_Placings) "counted"=some none
  z_len:PySem.W.nsIn K mainGlobals "len"=some none
  z_abs:PySem.W.nsIn K mainGlobals "abs"=some none
  z_sum:PySem.W.nsIn K mainGlobals "sum"=some none
  z_zip:PySem.W.nsIn K mainGlobals "zip"=some none
  z_ord:PySem.W.nsIn K mainGlobals "ord"=some none
  z_tuple:PySem.W.nsIn K mainGlobals "tuple"=some none
  z_enumerate:PySem.W.nsIn K mainGlobals "enumerate"=some none
  m_Cursor_init:CFn K B "__init__" "Cursor.__init__" s_Cursor_init
  m_Cursor_byte:CFn K B "byte" "Cursor.byte" s_Cursor_byte
  m_Cursor_advance:CFn K B "advance" "Cursor.advance" s_Cursor_advance
  m_Cursor_take:CFn K B "take" "Cursor.take" s_Cursor_take
  m_Cursor_take_word:CFn K B "take_word" "Cursor.take_word" s_Cursor_take_word
  m_Placings_init:CFn K B_Placings "__init__" "Placings.__init__" s_Placings_init
  m_Placings_count_from:CFn K B_Placings "count_from" "Placings.count_from" s_Placings_count_from
  f_note_units:GFn K "note_units" s_note_units
  f_choices_on_course:GFn K "choices_on_course" s_choices_on_course
  f_count_placings:GFn K "count_placings" s_count_placings
  f_width:GFn K "width" s_width
  f_is_within_bounds:GFn K "is_within_bounds" s_is_within_bounds
  f_upon:GFn K "upon" s_upon
  f_common_factor_of_all:GFn K "common_factor_of_all" s_common_factor_of_all
  f_common_factor:GFn K "common_factor" s_common_factor
  f_read_interval:GFn K "read_interval" s_read_interval
  f_read_factors:GFn K "read_factors" s_read_factors
  f_read_digit_of_factor:GFn K "read_digit_of_factor" s_read_digit_of_factor
  f_read_power:GFn K "read_power" s_read_power
  f_read_signed_number:GFn K "read_signed_number" s_read_signed_number
  f_read_number:GFn K "read_number" s_read_number
  f_with_common_parts:GFn K "with_common_parts" s_with_common_parts
  f_read_instrument:GFn K "read_instrument" s_read_instrument
  f_read_string_length:GFn K "read_string_length" s_read_string_length
  f_read_fret:GFn K "read_fret" s_read_fret
  f_read_course:GFn K "read_course" s_read_course
  f_read_bass:GFn K "read_bass" s_read_bass
  f_begin_line:GFn K "begin_line" s_begin_line
  f_read_line_interval:GFn K "read_line_interval" s_read_line_interval
  f_read_lines:GFn K "read_lines" s_read_lines
  f_read_length:GFn K "read_length" s_read_length
  f_read_length_sign:GFn K "read_length_sign" s_read_length_sign
  f_read_song:GFn K "read_song" s_read_song
  f_read_notes:GFn K "read_notes" s_read_notes
  f_read_note:GFn K "read_note" s_read_note
  f_ways:GFnT K "ways" s_ways
  f_asked_of_song_and_instrument:GFn K "asked_of_song_and_instrument" s_asked_of_song_and_instrument
  f_asked_of_texts:GFn K "asked_of_texts" s_asked_of_texts
  f_read_or_none:GFn K "read_or_none" s_read_or_none
  f_moments_of:GFn K "moments_of" s_moments_of
  f_ways_of_moment:GFn K "ways_of_moment" s_ways_of_moment
  c_END:CI K "END" (-1)
  c_NEW_LINE:CI K "NEW_LINE" 10
  c_BLANK:CI K "BLANK" 32
  c_POINT:CI K "POINT" 46
  c_PART_BITS:CI K "PART_BITS" 4
  c_PART_MASK:CI K "PART_MASK" 15
  c_MINUS:CI K "MINUS" 45
  c_SLASH:CI K "SLASH" 47
  c_ZERO:CI K "ZERO" 48
  c_ONE:CI K "ONE" 49
  c_NINE:CI K "NINE" 57
  c_CARET:CI K "CARET" 94
  c_MOST_DIGITS:CI K "MOST_DIGITS" 4
  c_MOST_POWER:CI K "MOST_POWER" 99
  c_MOST_PARTS:CI K "MOST_PARTS" 24
  c_COMMON_PARTS:CI K "COMMON_PARTS" 5354228880
  c_LETTER_B:CI K "LETTER_B" 98
  c_LETTER_C:CI K "LETTER_C" 99
  c_LETTER_F:CI K "LETTER_F" 102
  c_LEAST_LENGTH:CI K "LEAST_LENGTH" 10000
  c_MOST_LENGTH:CI K "MOST_LENGTH" 200000
  c_MOST_LENGTH_DIGITS:CI K "MOST_LENGTH_DIGITS" 7
  c_MOST_FRETS:CI K "MOST_FRETS" 15
  c_MOST_COURSES:CI K "MOST_COURSES" 14
  c_STOPPED_COURSES:CI K "STOPPED_COURSES" 6
  c_BAR_SIGN:CI K "BAR_SIGN" 124
  c_MOST_LINES:CI K "MOST_LINES" 512
  c_COMMA:CI K "COMMA" 44
  c_MOST_NOTES:CI K "MOST_NOTES" 14
  c_TOO_LONG:CI K "TOO_LONG" (-2)
  c_NO_SUCH_LINE:CI K "NO_SUCH_LINE" (-4)
  c_NO_FIRST_TEXT:CI K "NO_FIRST_TEXT" (-6)
  c_NO_SECOND_TEXT:CI K "NO_SECOND_TEXT" (-8)
  c_MOST_BYTES:CI K "MOST_BYTES" 65536
  c_MOST_INSTRUMENT_BYTES:CI K "MOST_INSTRUMENT_BYTES" 4096
  c_FIRST_LINE:CS K "FIRST_LINE" "song"
  c_FACTORS:CD K "FACTORS" [(50,0),(51,1),(53,2),(55,3)]
  c_LENGTHS:CD K "LENGTHS" [(120,1),(116,2),(115,4),(101,8),(113,16),(104,32),(119,64)]
  c_LOGARITHMS:CT K "LOGARITHMS" [6931471805599453094172321214581765680755,10986122886681096913952452369225257046474,16094379124341003746007593332261876395256,19459101490553133051053527434431797296370]
  c_UNISON:CT K "UNISON" [0,0,0,0,1]
theorem bd_note_units:Bd "note_units" "note_units" s_note_units ["notes"]:=fun _ _ _ _ _ _ us hl=>match us,hl with | [_],_=>rfl
theorem bd_choices_on_course:Bd "choices_on_course" "choices_on_course" s_choices_on_course ["course","units"]:=fun _ _ _ _ _ _ us hl=>match us,hl with | [_,_],_=>rfl
theorem bd_count_placings:Bd "count_placings" "count_placings" s_count_placings ["courses","notes"]:=fun _ _ _ _ _ _ us hl=>match us,hl with | [_,_],_=>rfl
theorem bd_width:Bd "width" "width" s_width ["interval"]:=fun _ _ _ _ _ _ us hl=>match us,hl with | [_],_=>rfl
theorem bd_is_within_bounds:Bd "is_within_bounds" "is_within_bounds" s_is_within_bounds ["numbers"]:=fun _ _ _ _ _ _ us hl=>match us,hl with | [_],_=>rfl
theorem bd_upon:Bd "upon" "upon" s_upon ["x","y"]:=fun _ _ _ _ _ _ us hl=>match us,hl with | [_,_],_=>rfl
theorem bd_common_factor_of_all:Bd "common_factor_of_all" "common_factor_of_all" s_common_factor_of_all ["numbers"]:=fun _ _ _ _ _ _ us hl=>match us,hl with | [_],_=>rfl
theorem bd_common_factor:Bd "common_factor" "common_factor" s_common_factor ["a","b"]:=fun _ _ _ _ _ _ us hl=>match us,hl with | [_,_],_=>rfl
theorem bd_read_interval:Bd "read_interval" "read_interval" s_read_interval ["text","start","end"]:=fun _ _ _ _ _ _ us hl=>match us,hl with | [_,_,_],_=>rfl
theorem bd_read_factors:Bd "read_factors" "read_factors" s_read_factors ["cursor","powers"]:=fun _ _ _ _ _ _ us hl=>match us,hl with | [_,_],_=>rfl
theorem bd_read_digit_of_factor:Bd "read_digit_of_factor" "read_digit_of_factor" s_read_digit_of_factor ["cursor"]:=fun _ _ _ _ _ _ us hl=>match us,hl with | [_],_=>rfl
theorem bd_read_power:Bd "read_power" "read_power" s_read_power ["cursor","start"]:=fun _ _ _ _ _ _ us hl=>match us,hl with | [_,_],_=>rfl
theorem bd_read_signed_number:Bd "read_signed_number" "read_signed_number" s_read_signed_number ["cursor"]:=fun _ _ _ _ _ _ us hl=>match us,hl with | [_],_=>rfl
theorem bd_read_number:Bd "read_number" "read_number" s_read_number ["cursor"]:=fun _ _ _ _ _ _ us hl=>match us,hl with | [_],_=>rfl
theorem bd_with_common_parts:Bd "with_common_parts" "with_common_parts" s_with_common_parts ["powers"]:=fun _ _ _ _ _ _ us hl=>match us,hl with | [_],_=>rfl
theorem bd_read_instrument:Bd "read_instrument" "read_instrument" s_read_instrument ["text"]:=fun _ _ _ _ _ _ us hl=>match us,hl with | [_],_=>rfl
theorem bd_read_string_length:Bd "read_string_length" "read_string_length" s_read_string_length ["cursor"]:=fun _ _ _ _ _ _ us hl=>match us,hl with | [_],_=>rfl
theorem bd_read_fret:Bd "read_fret" "read_fret" s_read_fret ["cursor","frets"]:=fun _ _ _ _ _ _ us hl=>match us,hl with | [_,_],_=>rfl
theorem bd_read_course:Bd "read_course" "read_course" s_read_course ["cursor","frets","courses_before"]:=fun _ _ _ _ _ _ us hl=>match us,hl with | [_,_,_],_=>rfl
theorem bd_read_bass:Bd "read_bass" "read_bass" s_read_bass ["cursor","courses_before"]:=fun _ _ _ _ _ _ us hl=>match us,hl with | [_,_],_=>rfl
theorem bd_begin_line:Bd "begin_line" "begin_line" s_begin_line ["cursor","word","lines_before","most"]:=fun _ _ _ _ _ _ us hl=>match us,hl with | [_,_,_,_],_=>rfl
theorem bd_read_line_interval:Bd "read_line_interval" "read_line_interval" s_read_line_interval ["cursor"]:=fun _ _ _ _ _ _ us hl=>match us,hl with | [_],_=>rfl
theorem bd_read_lines:Bd "read_lines" "read_lines" s_read_lines ["cursor","read_content"]:=fun _ _ _ _ _ _ us hl=>match us,hl with | [_,_],_=>rfl
theorem bd_read_length:Bd "read_length" "read_length" s_read_length ["cursor","before"]:=fun _ _ _ _ _ _ us hl=>match us,hl with | [_,_],_=>rfl
theorem bd_read_length_sign:Bd "read_length_sign" "read_length_sign" s_read_length_sign ["cursor"]:=fun _ _ _ _ _ _ us hl=>match us,hl with | [_],_=>rfl
theorem bd_read_song:Bd "read_song" "read_song" s_read_song ["text"]:=fun _ _ _ _ _ _ us hl=>match us,hl with | [_],_=>rfl
theorem bd_read_notes:Bd "read_notes" "read_notes" s_read_notes ["cursor"]:=fun _ _ _ _ _ _ us hl=>match us,hl with | [_],_=>rfl
theorem bd_read_note:Bd "read_note" "read_note" s_read_note ["cursor"]:=fun _ _ _ _ _ _ us hl=>match us,hl with | [_],_=>rfl
theorem bd_ways:Bd "ways" "ways" s_ways ["k","s","i"]:=fun _ _ _ _ _ _ us hl=>match us,hl with | [_,_,_],_=>rfl
theorem bd_asked_of_song_and_instrument:Bd "asked_of_song_and_instrument" "asked_of_song_and_instrument" s_asked_of_song_and_instrument ["s","i","answer"]:=fun _ _ _ _ _ _ us hl=>match us,hl with | [_,_,_],_=>rfl
theorem bd_asked_of_texts:Bd "asked_of_texts" "asked_of_texts" s_asked_of_texts ["first","read_first","second","read_second","answer"]:=fun _ _ _ _ _ _ us hl=>match us,hl with | [_,_,_,_,_],_=>rfl
theorem bd_read_or_none:Bd "read_or_none" "read_or_none" s_read_or_none ["read","text"]:=fun _ _ _ _ _ _ us hl=>match us,hl with | [_,_],_=>rfl
theorem bd_moments_of:Bd "moments_of" "moments_of" s_moments_of ["lines"]:=fun _ _ _ _ _ _ us hl=>match us,hl with | [_],_=>rfl
theorem bd_ways_of_moment:Bd "ways_of_moment" "ways_of_moment" s_ways_of_moment ["lines","courses","k"]:=fun _ _ _ _ _ _ us hl=>match us,hl with | [_,_,_],_=>rfl
theorem bd_Fault_init:Bd "__init__" "Fault.__init__" s_Fault_init ["self","place"]:=fun _ _ _ _ _ _ us hl=>match us,hl with | [_,_],_=>rfl
theorem bd_Cursor_init:Bd "__init__" "Cursor.__init__" s_Cursor_init ["self","text","place","end"]:=fun _ _ _ _ _ _ us hl=>match us,hl with | [_,_,_,_],_=>rfl
theorem bd_Cursor_byte:Bd "byte" "Cursor.byte" s_Cursor_byte ["self"]:=fun _ _ _ _ _ _ us hl=>match us,hl with | [_],_=>rfl
theorem bd_Cursor_advance:Bd "advance" "Cursor.advance" s_Cursor_advance ["self"]:=fun _ _ _ _ _ _ us hl=>match us,hl with | [_],_=>rfl
theorem bd_Cursor_take:Bd "take" "Cursor.take" s_Cursor_take ["self","wanted"]:=fun _ _ _ _ _ _ us hl=>match us,hl with | [_,_],_=>rfl
theorem bd_Cursor_take_word:Bd "take_word" "Cursor.take_word" s_Cursor_take_word ["self","word"]:=fun _ _ _ _ _ _ us hl=>match us,hl with | [_,_],_=>rfl
theorem bd_Placings_init:Bd "__init__" "Placings.__init__" s_Placings_init ["self","courses","notes"]:=fun _ _ _ _ _ _ us hl=>match us,hl with | [_,_,_],_=>rfl
theorem bd_Placings_count_from:Bd "count_from" "Placings.count_from" s_Placings_count_from ["self","course","left"]:=fun _ _ _ _ _ _ us hl=>match us,hl with | [_,_,_],_=>rfl
theorem scFI:FnScope ["self","place"] ["self","place"] (defScope s_Fault_init):=⟨rfl,rfl,rfl,by decide +kernel,rfl,by decide +kernel,by decide +kernel⟩
section
variable {P:Program} {w:World} {K:PySem.W.Frag} {mg:Str->Option Value} {h:Heap} {B C B_Placings:Addr}
theorem All.txt (A:All K B C B_Placings) (X:K.In h) (G:h.Ns mainGlobals mg):Txt K mg B C where
  cl:=⟨A.pg,A.hd,A.po,A.sa⟩
  nT:=A.nT
  nP:=A.nP
  nE:=A.nE
  xt:=A.x.xt scFI rfl ⟨rfl,rfl⟩ bd_Fault_init
  mC:=PySem.W.mg_of X G A.nC
  len:=PySem.W.mg_none_of X G A.z_len
  abs:=PySem.W.mg_none_of X G A.z_abs
  sum:=PySem.W.mg_none_of X G A.z_sum
  zip:=PySem.W.mg_none_of X G A.z_zip
  ord:=PySem.W.mg_none_of X G A.z_ord
  cEND:=A.c_END.cst X G
  cMINUS:=A.c_MINUS.cst X G
  cSLASH:=A.c_SLASH.cst X G
  cZERO:=A.c_ZERO.cst X G
  cONE:=A.c_ONE.cst X G
  cNINE:=A.c_NINE.cst X G
  cCARET:=A.c_CARET.cst X G
  cMD:=A.c_MOST_DIGITS.cst X G
  cMP:=A.c_MOST_POWER.cst X G
  cMA:=A.c_MOST_PARTS.cst X G
  cCP:=A.c_COMMON_PARTS.cst X G
  cNL:=A.c_NEW_LINE.cst X G
  cCO:=A.c_COMMA.cst X G
  cPO:=A.c_POINT.cst X G
  cBS:=A.c_BAR_SIGN.cst X G
  cBI:=A.c_BLANK.cst X G
  cBT:=A.c_BLANK.cst X G
  cML:=A.c_MOST_LINES.cst X G
  cMN:=A.c_MOST_NOTES.cst X G
  fst:=A.c_FIRST_LINE.cst X G
  fac:=A.c_FACTORS.at_ (by decide) X G
  lgs:=A.c_LENGTHS.at_ (by decide) X G
  log:=A.c_LOGARITHMS.at_ (by decide) X G
theorem all_mk {fa:Addr} (X:K.In h) (G:h.Ns mainGlobals mg) (hfa:mg "ways"=some (.ref fa)) (A:All K B C B_Placings):
    ∃ fd:FuncData,(∀ (s:Shared) (us:List Value),us.length=(["k","s","i"]:List Str).length->BindsTo s fd ⟨us,[]⟩ ((["k","s","i"]:List Str).zip us))/\∀ base:Heap,K.In base->base.Ns mainGlobals mg->BMod base mg->FnOk P w K mg base CX0 43 fa fd ["k","s","i"] (spWays K):=by
  obtain ⟨f,oc,od,kV,doc,pm,an,c,ct,sl,Pt,a,l,c1,kp,hd,hT⟩:=A.f_ways
  have e:=hfa.symm.trans (PySem.W.mg_of X G a)
  cases e
  have F:=funT_mk (st:=s_ways) l c1 kp hd
  refine ⟨_,fun s us hu=>.of_eq (bd_ways kV doc pm an (.ref c) ct us hu),fun base _ _ BM=>?_⟩
  have T:=A.txt X G
  have M:Crs P w K mg base B C:=⟨A.m_Cursor_byte.mth T.cl bd_Cursor_byte fun f fd F=>ok_cbyte F T,A.m_Cursor_advance.mth T.cl bd_Cursor_advance fun f fd F=>ok_cadv F T⟩
  have MT:Mth P w K mg base C B 3 "take" ["self","wanted"] (spTake K B C):=A.m_Cursor_take.mth T.cl bd_Cursor_take fun f fd F=>ok_ctake F T M
  have MW:Mth P w K mg base C B 4 "take_word" ["self","word"] (spWord K B C):=A.m_Cursor_take_word.mth T.cl bd_Cursor_take_word fun f fd F=>ok_cword F T MT
  have DI:Mke P w K mg base C B 1 "Cursor" ["self","text","place","end"] (spInit B):=A.m_Cursor_init.mke (PySem.W.mg_of X G A.nB) A.mkB A.kc bd_Cursor_init fun f fd F=>ok_cinit F T
  have D_read_number:=A.f_read_number.dfn (P:=P) (w:=w) (base:=base) (C:=C) X G bd_read_number fun f fd F=>ok_number F T M
  have D_read_signed_number:=A.f_read_signed_number.dfn (P:=P) (w:=w) (base:=base) (C:=C) X G bd_read_signed_number fun f fd F=>ok_signed F T M D_read_number
  have D_common_factor:=A.f_common_factor.dfn (P:=P) (w:=w) (base:=base) (C:=C) X G bd_common_factor fun f fd F=>ok_gcd F T
  have D_read_digit_of_factor:=A.f_read_digit_of_factor.dfn (P:=P) (w:=w) (base:=base) (C:=C) X G bd_read_digit_of_factor fun f fd F=>ok_digit F T M
  have D_read_power:=A.f_read_power.dfn (P:=P) (w:=w) (base:=base) (C:=C) X G bd_read_power fun f fd F=>ok_power F T M D_read_number D_read_signed_number D_common_factor
  have D_read_factors:=A.f_read_factors.dfn (P:=P) (w:=w) (base:=base) (C:=C) X G bd_read_factors fun f fd F=>ok_factors F T M D_read_digit_of_factor D_read_power
  have D_with_common_parts:=A.f_with_common_parts.dfn (P:=P) (w:=w) (base:=base) (C:=C) X G bd_with_common_parts fun f fd F=>ok_common F T D_common_factor
  have D_is_within_bounds:=A.f_is_within_bounds.dfn (P:=P) (w:=w) (base:=base) (C:=C) X G bd_is_within_bounds fun f fd F=>ok_bounds F T
  have D_width:=A.f_width.dfn (P:=P) (w:=w) (base:=base) (C:=C) X G bd_width fun f fd F=>ok_width F T
  have D_read_interval:=A.f_read_interval.dfn (P:=P) (w:=w) (base:=base) (C:=C) X G bd_read_interval fun f fd F=>ok_interval F T M DI D_read_factors D_with_common_parts D_is_within_bounds
  have D_read_note:=A.f_read_note.dfn (P:=P) (w:=w) (base:=base) (C:=C) X G bd_read_note fun f fd F=>ok_note F T M D_read_interval
  have D_read_notes:=A.f_read_notes.dfn (P:=P) (w:=w) (base:=base) (C:=C) X G bd_read_notes fun f fd F=>ok_notes F T M MT D_read_note D_width
  have D_read_length_sign:=A.f_read_length_sign.dfn (P:=P) (w:=w) (base:=base) (C:=C) X G bd_read_length_sign fun f fd F=>ok_sign F T M
  have D_read_length:=A.f_read_length.dfn (P:=P) (w:=w) (base:=base) (C:=C) X G bd_read_length fun f fd F=>ok_length F T M MT D_read_length_sign
  have D_read_lines:=A.f_read_lines.dfn (P:=P) (w:=w) (base:=base) (C:=C) X G bd_read_lines fun f fd F=>ok_lines F T M MT D_read_length
  have D_read_song:=A.f_read_song.dfn (P:=P) (w:=w) (base:=base) (C:=C) X G bd_read_song fun f fd F=>ok_song F T MT MW DI D_read_lines D_read_notes
  have T2:Txt2 mg:=⟨A.c_TOO_LONG.cst X G,A.c_NO_FIRST_TEXT.cst X G,A.c_MOST_BYTES.cst X G⟩
  have T3:Txt3 mg:=⟨A.c_NO_SECOND_TEXT.cst X G,A.c_MOST_INSTRUMENT_BYTES.cst X G⟩
  have TI:TxI K mg:=⟨A.c_MOST_LENGTH_DIGITS.cst X G,A.c_LEAST_LENGTH.cst X G,A.c_MOST_LENGTH.cst X G,A.c_MOST_FRETS.cst X G,A.c_MOST_COURSES.cst X G,A.c_STOPPED_COURSES.cst X G,A.c_LETTER_B.cst X G,A.c_LETTER_C.cst X G,A.c_LETTER_F.cst X G,A.c_UNISON.at_ (by decide) X G⟩
  have D_gcdZ:=A.f_common_factor.dfn (P:=P) (w:=w) (base:=base) (C:=C) X G bd_common_factor fun f fd F=>ok_gcdZ F T
  have D_cfa:=A.f_common_factor_of_all.dfn (P:=P) (w:=w) (base:=base) (C:=C) X G bd_common_factor_of_all fun f fd F=>ok_cfa F D_gcdZ
  have D_upon:=A.f_upon.dfn (P:=P) (w:=w) (base:=base) (C:=C) X G bd_upon fun f fd F=>ok_upon F T (PySem.W.mg_none_of X G A.z_tuple) D_cfa
  have D_bl:=A.f_begin_line.dfn (P:=P) (w:=w) (base:=base) (C:=C) X G bd_begin_line fun f fd F=>ok_bl F T MT MW
  have D_lin:=A.f_read_line_interval.dfn (P:=P) (w:=w) (base:=base) (C:=C) X G bd_read_line_interval fun f fd F=>ok_lin F T M D_read_interval
  have D_sl:=A.f_read_string_length.dfn (P:=P) (w:=w) (base:=base) (C:=C) X G bd_read_string_length fun f fd F=>ok_sl F T TI M MT MW
  have D_fret:=A.f_read_fret.dfn (P:=P) (w:=w) (base:=base) (C:=C) X G bd_read_fret fun f fd F=>ok_fret F T TI MT D_bl D_lin D_width
  have D_course:=A.f_read_course.dfn (P:=P) (w:=w) (base:=base) (C:=C) X G bd_read_course fun f fd F=>ok_course F T TI MT D_bl D_lin D_upon D_is_within_bounds
  have D_bass:=A.f_read_bass.dfn (P:=P) (w:=w) (base:=base) (C:=C) X G bd_read_bass fun f fd F=>ok_bass F T TI MT D_bl D_lin
  have D_inst:=A.f_read_instrument.dfn (P:=P) (w:=w) (base:=base) (C:=C) X G bd_read_instrument fun f fd F=>ok_inst F T TI M DI D_sl D_fret D_course D_bass
  have D_ron:=A.f_read_or_none.dfn0 (P:=P) (w:=w) (base:=base) X G bd_read_or_none fun f fd F=>ok_ron (C:=C) F T
  have D_at:=A.f_asked_of_texts.dfn0 (P:=P) (w:=w) (base:=base) X G bd_asked_of_texts fun f fd F=>ok_askedT (C:=C) (k:=40) (by decide) F T2 T3 D_ron
  have D_asi:=A.f_asked_of_song_and_instrument.dfn0 (P:=P) (w:=w) (base:=base) X G bd_asked_of_song_and_instrument fun f fd F=>ok_askedSI (k:=40) (by decide) F T T2 T3 D_at D_read_song D_inst
  have TP:TxP mg:=⟨A.c_PART_BITS.cst X G,A.c_PART_MASK.cst X G,PySem.W.mg_none_of X G A.z_enumerate⟩
  have TQ:TxQ K B_Placings:=⟨⟨A.pg_Placings,A.hd_Placings,A.po_Placings,A.sa_Placings⟩,A.nA_Placings_choices,A.nA_Placings_whole,A.nA_Placings_counted⟩
  have D_nu:=A.f_note_units.dfn (P:=P) (w:=w) (base:=base) (C:=C) X G bd_note_units fun f fd F=>ok_nu F T.len TP
  have D_co:=A.f_choices_on_course.dfn (P:=P) (w:=w) (base:=base) (C:=C) X G bd_choices_on_course fun f fd F=>ok_co F TP
  have DP:Mke P w K mg base C B_Placings 2 "Placings" ["self","courses","notes"] (spPI B_Placings):=A.m_Placings_init.mke (PySem.W.mg_of X G A.nB_Placings) A.mk_Placings A.kc_Placings bd_Placings_init fun f fd F=>ok_pinit F TQ T.sum D_nu D_co
  have MC:=CFn.mthR (P:=P) (w:=w) (base:=base) (C:=C) (sp:=spCF B_Placings) A.m_Placings_count_from TQ.cl bd_Placings_count_from (fun _ _ _ _ h=>h) (fun n f fd F MR=>ok_cf n F TQ TP T.len MR) 15
  have D_cp:=A.f_count_placings.dfn (P:=P) (w:=w) (base:=base) (C:=C) X G bd_count_placings fun f fd F=>ok_cp F TQ DP MC
  have D_mo:=A.f_moments_of.dfn (P:=P) (w:=w) (base:=base) (C:=C) X G bd_moments_of fun f fd F=>ok_mo F
  have D_wm:=A.f_ways_of_moment.dfn (P:=P) (w:=w) (base:=base) (C:=C) X G bd_ways_of_moment fun f fd F=>ok_wm F T.len (A.c_NO_SUCH_LINE.cst X G) D_mo D_cp
  exact ok_ways (C:=C) F BM hT D_asi D_wm
end
end Lu
namespace L2
open PySem PySem.Spec PyProof.Rows
section
variable {K:PySem.W.Frag}
theorem GFn.mk {x:Str} {st:Stmt} {f:Addr} {oc:Value} {od an:Option Addr} {sl:Array (Option Value)} {kV doc pm cdv ct:Value} (a:PySem.W.nsIn K mainGlobals x=some (some (.ref f)))
    (l:K.lookup f=some ⟨oc,od,.func (PySem.W.fnOf x x (defArgs st) (defBody st) (defScope st) .none kV doc pm an cdv ct),sl⟩) (c:PySem.W.codeIn K cdv x=true) (k:PySem.W.keepIn K (.ref f)=true):GFn K x st:=⟨f,oc,od,kV,doc,pm,an,cdv,ct,sl,a,l,c,k⟩
theorem CFn.mk {B:Addr} {m q:Str} {st:Stmt} {f:Addr} {oc:Value} {od an:Option Addr} {sl:Array (Option Value)} {kV doc pm cdv ct:Value} (a:PySem.W.findIn K (.ref B) m=some (some (.ref f))) (i:PySem.W.isFn K (.ref f)=true)
    (l:K.lookup f=some ⟨oc,od,.func (PySem.W.fnOf m q (defArgs st) (defBody st) (defScope st) .none kV doc pm an cdv ct),sl⟩) (c:PySem.W.codeIn K cdv q=true) (k:PySem.W.keepIn K (.ref f)=true):CFn K B m q st:=⟨f,oc,od,kV,doc,pm,an,cdv,ct,sl,a,i,l,c,k⟩
theorem XIn.mk {C N fI:Addr} {st:Stmt} {nm q:Str} {bs:List Value} {sn:List Str} {sub:List Value} {ab:Bool} {col:Option Bool} {dd:Option Addr} {k0 k1 k2 k3 k5:Option Value} {oc on:Value} {od odn an:Option Addr} {sl sln:Array (Option Value)} {kV doc pm cdv ct:Value} {es:Array DictEntry} {ep:Nat}
    (a:K.lookup C=some (excClassObj nm q C N bs LX.bmE true sn sub ab col dd k0 k1 k2 k3 k5 "Exception.__new__")) (b:K.lookup N=some ⟨on,odn,.dict es ep,sln⟩) (c:strKeys es=true) (d:PySem.W.nsIn K N "__init__"=some (some (.ref fI))) (e:PySem.W.nsIn K N "place"=some none) (f:PySem.W.nsIn K N "__setattr__"=some none)
    (g:PySem.W.nsIn K N "__getattribute__"=some none) (h:PySem.W.nsIn K N "__getattr__"=some none) (i:PySem.W.keepIn K (.ref C)=true) (j:PySem.W.isFn K (.ref fI)=true)
    (l:K.lookup fI=some ⟨oc,od,.func (PySem.W.fnOf "__init__" "Fault.__init__" (defArgs st) (defBody st) (defScope st) .none kV doc pm an cdv ct),sl⟩) (m:PySem.W.codeIn K cdv "Fault.__init__"=true) (n:PySem.W.keepIn K (.ref fI)=true):XIn K C st:=
  ⟨N,fI,nm,q,bs,sn,sub,ab,col,dd,k0,k1,k2,k3,k5,oc,od,kV,doc,pm,an,cdv,ct,sl,on,odn,es,ep,sln,a,b,c,d,e,f,g,h,i,j,l,m,n⟩
theorem CI.mk {x:Str} {i:Int} {t:Tok} (a:PySem.W.nsIn K mainGlobals x=some (some (.int i t))):CI K x i:=⟨t,a⟩
theorem KPairs.put {k v:Int} {t u:Tok} {hs:_} {es:List DictEntry} {kvs:List (Int × Int)} (e:hs=hashInt k) (q:KPairs es kvs):KPairs (⟨hs,.int k t,.int v u⟩::es) ((k,v)::kvs):=by
  subst e
  exact .cons q
theorem CD.mk {x:Str} {kvs:List (Int × Int)} {p:Addr} {es:Array DictEntry} {n:Nat} (a:PySem.W.nsIn K mainGlobals x=some (some (.ref p))) (b:K.lookup p=some ⟨.type "dict",none,.dict es n,#[]⟩) (c:KPairs es.toList kvs) (d:(p == sysModules)=false):CD K x kvs:=⟨p,es,n,a,b,c,d⟩
theorem CT.mk {x:Str} {ns:List Int} {p:Addr} {od:Option Addr} {its:List Value} {n:Nat} {sl:Array (Option Value)} (a:PySem.W.nsIn K mainGlobals x=some (some (.ref p))) (b:K.lookup p=some ⟨.type "tuple",od,.seq its.toArray n,sl⟩) (c:IntsB its ns):CT K x ns:=⟨p,_,its,n,a,b,rfl,rfl,c⟩
theorem CS.mk {x:Str} {s:Str} {t:Tok} (a:PySem.W.nsIn K mainGlobals x=some (some (.str s t))):CS K x s:=⟨t,a⟩
theorem GFnT.mk {x:Str} {st:Stmt} {f c Pt:Addr} {oc:Value} {od an od2:Option Addr} {sl sl2:Array (Option Value)} {kV doc pm ct:Value} {vs:Array Value} (a:PySem.W.nsIn K mainGlobals x=some (some (.ref f)))
    (l:K.lookup f=some ⟨oc,od,.func (PySem.W.fnOf x x (defArgs st) (defBody st) (defScope st) .none kV doc pm an (.ref c) ct),sl⟩) (h:PySem.W.codeIn K (.ref c) x=true) (k:PySem.W.keepIn K (.ref f)=true)
    (lc:K.lookup c=some ⟨.type "code",od2,.fields vs,sl2⟩) (h11:vs[11]?=some (.ref Pt)) (hh:codeHdB vs c Pt=true):GFnT K x st:=
  ⟨f,oc,od,kV,doc,pm,an,c,ct,sl,Pt,a,l,h,k,hd_mk lc hh,tab_mk a l lc h11⟩
end
end L2
def PySem.W.Fast.tw4949181287787876205:Unit:=()
def PySem.W.Fast.tw10068712230735885741:Unit:=()
def PySem.W.Fast.tw16770847060255540069:Unit:=()
def PySem.W.Fast.tw11128413418377964436:Unit:=()
def PySem.W.Fast.tw4235861565270909285:Unit:=()
def PySem.W.Fast.tw16141264535495696196:Unit:=()
def PySem.W.Fast.tw11177416287637481190:Unit:=()
def PySem.W.Fast.tw8336909180440014845:Unit:=()
def PySem.W.Fast.tw10361931962696098847:Unit:=()
def PySem.W.Fast.tw3118153052836343527:Unit:=()
def PySem.W.Fast.tw14447872166721216591:Unit:=()
def PySem.W.Fast.tw15316314294783670628:Unit:=()
def PySem.W.Fast.tw4473836859959587088:Unit:=()
def PySem.W.Fast.tw9374277250334021305:Unit:=()
def PySem.W.Fast.tw12422923777860339279:Unit:=()
def PySem.W.Fast.tw11607411455683172785:Unit:=()
def PySem.W.Fast.tw13702417003488512283:Unit:=()
def PySem.W.Fast.tw4252252130041855112:Unit:=()
def PySem.W.Fast.tw7811806515291188366:Unit:=()
def PySem.W.Fast.tw15844301817714548734:Unit:=()
def PySem.W.Fast.tw3434067733578497573:Unit:=()
def PySem.W.Fast.tw11914240203065134262:Unit:=()
def PySem.W.Fast.tw4225927404486146368:Unit:=()
open PySem PySem.W PyProof.Rows
set_option maxRecDepth 100000 in
set_option maxHeartbeats 0 in
theorem PySem.Challenge.cw_lutesettings_s06_ways_holds : PySem.Challenge.rw_lutesettings_s06_ways.Holds := by
  w_on;k_headS;(case hw=>exact ⟨[.int 0,.list [],.list []],by decide +kernel,by decide +kernel⟩)
  k_fillS
  refine L2.walk_specT (r:=PySem.Challenge.rw_lutesettings_s06_ways) (k:=43) (CX:=L2.CX0) (ps:=["k","s","i"]) (sp:=Lu.spWays) (["ways"]) (by decide +kernel) rfl rfl ⟨rfl,by decide,by decide⟩ (fun w h Y=>PySem.W.kIn_of Y) (fun _=>by kernel_rfl) (by decide +kernel) ?F ?S (fun _ _ _ _ z=>z)
  case F=>
    intro w mg fa h Y KX G hmg
    refine' Lu.all_mk KX G hmg ⟨?nB,?nC,?pg,?hd,?po,?sa,?mkB,?kc,?nT,?nP,?nE,?x,?nB_Placings,?pg_Placings,?hd_Placings,?po_Placings,?sa_Placings,?mk_Placings,?kc_Placings,?nA_Placings_choices,?nA_Placings_whole,?nA_Placings_counted,?z_len,?z_abs,?z_sum,?z_zip,?z_ord,?z_tuple,?z_enumerate,?m_Cursor_init,?m_Cursor_byte,?m_Cursor_advance,?m_Cursor_take,?m_Cursor_take_word,?m_Placings_init,?m_Placings_count_from,?f_note_units,?f_choices_on_course,?f_count_placings,?f_width,?f_is_within_bounds,?f_upon,?f_common_factor_of_all,?f_common_factor,?f_read_interval,?f_read_factors,?f_read_digit_of_factor,?f_read_power,?f_read_signed_number,?f_read_number,?f_with_common_parts,?f_read_instrument,?f_read_string_length,?f_read_fret,?f_read_course,?f_read_bass,?f_begin_line,?f_read_line_interval,?f_read_lines,?f_read_length,?f_read_length_sign,?f_read_song,?f_read_notes,?f_read_note,?f_ways,?f_asked_of_song_and_instrument,?f_asked_of_texts,?f_read_or_none,?f_moments_of,?f_ways_of_moment,?c_END,?c_NEW_LINE,?c_BLANK,?c_POINT,?c_PART_BITS,?c_PART_MASK,?c_MINUS,?c_SLASH,?c_ZERO,?c_ONE,?c_NINE,?c_CARET,?c_MOST_DIGITS,?c_MOST_POWER,?c_MOST_PARTS,?c_COMMON_PARTS,?c_LETTER_B,?c_LETTER_C,?c_LETTER_F,?c_LEAST_LENGTH,?c_MOST_LENGTH,?c_MOST_LENGTH_DIGITS,?c_MOST_FRETS,?c_MOST_COURSES,?c_STOPPED_COURSES,?c_BAR_SIGN,?c_MOST_LINES,?c_COMMA,?c_MOST_NOTES,?c_TOO_LONG,?c_NO_SUCH_LINE,?c_NO_FIRST_TEXT,?c_NO_SECOND_TEXT,?c_MOST_BYTES,?c_MOST_INSTRUMENT_BYTES,?c_FIRST_LINE,?c_FACTORS,?c_LENGTHS,?c_LOGARITHMS,?c_UNISON⟩
    (case nB=>k_is)
    (case nC=>k_is)
    (case pg=>k_is)
    (case hd=>k_is)
    (case po=>k_is)
    (case sa=>k_is)
    (case mkB=>k_is)
    (case kc=>k_is)
    (case nT=>k_is)
    (case nP=>k_is)
    (case nE=>k_is)
    (case x=>refine' L2.XIn.mk ?a ?b ?c ?d ?e ?f ?g ?h ?i ?j ?l ?m ?n;(case a=>k_is);(case b=>k_is);(case c=>rfl);(case d=>k_is);(case e=>k_is);(case f=>k_is);(case g=>k_is);(case h=>k_is);(case i=>k_is);(case j=>k_is);(case l=>k_is);(case m=>k_is);(case n=>k_is))
    (case nB_Placings=>k_is)
    (case pg_Placings=>k_is)
    (case hd_Placings=>k_is)
    (case po_Placings=>k_is)
    (case sa_Placings=>k_is)
    (case mk_Placings=>k_is)
    (case kc_Placings=>k_is)
    (case nA_Placings_choices=>k_is)
    (case nA_Placings_whole=>k_is)
    (case nA_Placings_counted=>k_is)
    (case z_len=>k_is)
    (case z_abs=>k_is)
    (case z_sum=>k_is)
    (case z_zip=>k_is)
    (case z_ord=>k_is)
    (case z_tuple=>k_is)
    (case z_enumerate=>k_is)
    (case m_Cursor_init=>refine' L2.CFn.mk ?a ?i ?l ?c ?k;(case a=>k_is);(case i=>k_is);(case l=>k_is);(case c=>k_is);(case k=>k_is))
    (case m_Cursor_byte=>refine' L2.CFn.mk ?a ?i ?l ?c ?k;(case a=>k_is);(case i=>k_is);(case l=>k_is);(case c=>k_is);(case k=>k_is))
    (case m_Cursor_advance=>refine' L2.CFn.mk ?a ?i ?l ?c ?k;(case a=>k_is);(case i=>k_is);(case l=>k_is);(case c=>k_is);(case k=>k_is))
    (case m_Cursor_take=>refine' L2.CFn.mk ?a ?i ?l ?c ?k;(case a=>k_is);(case i=>k_is);(case l=>k_is);(case c=>k_is);(case k=>k_is))
    (case m_Cursor_take_word=>refine' L2.CFn.mk ?a ?i ?l ?c ?k;(case a=>k_is);(case i=>k_is);(case l=>k_is);(case c=>k_is);(case k=>k_is))
    (case m_Placings_init=>refine' L2.CFn.mk ?a ?i ?l ?c ?k;(case a=>k_is);(case i=>k_is);(case l=>k_is);(case c=>k_is);(case k=>k_is))
    (case m_Placings_count_from=>refine' L2.CFn.mk ?a ?i ?l ?c ?k;(case a=>k_is);(case i=>k_is);(case l=>k_is);(case c=>k_is);(case k=>k_is))
    (case f_note_units=>refine' L2.GFn.mk ?a ?l ?c ?k;(case a=>k_is);(case l=>k_is);(case c=>k_is);(case k=>k_is))
    (case f_choices_on_course=>refine' L2.GFn.mk ?a ?l ?c ?k;(case a=>k_is);(case l=>k_is);(case c=>k_is);(case k=>k_is))
    (case f_count_placings=>refine' L2.GFn.mk ?a ?l ?c ?k;(case a=>k_is);(case l=>k_is);(case c=>k_is);(case k=>k_is))
    (case f_width=>refine' L2.GFn.mk ?a ?l ?c ?k;(case a=>k_is);(case l=>k_is);(case c=>k_is);(case k=>k_is))
    (case f_is_within_bounds=>refine' L2.GFn.mk ?a ?l ?c ?k;(case a=>k_is);(case l=>k_is);(case c=>k_is);(case k=>k_is))
    (case f_upon=>refine' L2.GFn.mk ?a ?l ?c ?k;(case a=>k_is);(case l=>k_is);(case c=>k_is);(case k=>k_is))
    (case f_common_factor_of_all=>refine' L2.GFn.mk ?a ?l ?c ?k;(case a=>k_is);(case l=>k_is);(case c=>k_is);(case k=>k_is))
    (case f_common_factor=>refine' L2.GFn.mk ?a ?l ?c ?k;(case a=>k_is);(case l=>k_is);(case c=>k_is);(case k=>k_is))
    (case f_read_interval=>refine' L2.GFn.mk ?a ?l ?c ?k;(case a=>k_is);(case l=>k_is);(case c=>k_is);(case k=>k_is))
    (case f_read_factors=>refine' L2.GFn.mk ?a ?l ?c ?k;(case a=>k_is);(case l=>k_is);(case c=>k_is);(case k=>k_is))
    (case f_read_digit_of_factor=>refine' L2.GFn.mk ?a ?l ?c ?k;(case a=>k_is);(case l=>k_is);(case c=>k_is);(case k=>k_is))
    (case f_read_power=>refine' L2.GFn.mk ?a ?l ?c ?k;(case a=>k_is);(case l=>k_is);(case c=>k_is);(case k=>k_is))
    (case f_read_signed_number=>refine' L2.GFn.mk ?a ?l ?c ?k;(case a=>k_is);(case l=>k_is);(case c=>k_is);(case k=>k_is))
    (case f_read_number=>refine' L2.GFn.mk ?a ?l ?c ?k;(case a=>k_is);(case l=>k_is);(case c=>k_is);(case k=>k_is))
    (case f_with_common_parts=>refine' L2.GFn.mk ?a ?l ?c ?k;(case a=>k_is);(case l=>k_is);(case c=>k_is);(case k=>k_is))
    (case f_read_instrument=>refine' L2.GFn.mk ?a ?l ?c ?k;(case a=>k_is);(case l=>k_is);(case c=>k_is);(case k=>k_is))
    (case f_read_string_length=>refine' L2.GFn.mk ?a ?l ?c ?k;(case a=>k_is);(case l=>k_is);(case c=>k_is);(case k=>k_is))
    (case f_read_fret=>refine' L2.GFn.mk ?a ?l ?c ?k;(case a=>k_is);(case l=>k_is);(case c=>k_is);(case k=>k_is))
    (case f_read_course=>refine' L2.GFn.mk ?a ?l ?c ?k;(case a=>k_is);(case l=>k_is);(case c=>k_is);(case k=>k_is))
    (case f_read_bass=>refine' L2.GFn.mk ?a ?l ?c ?k;(case a=>k_is);(case l=>k_is);(case c=>k_is);(case k=>k_is))
    (case f_begin_line=>refine' L2.GFn.mk ?a ?l ?c ?k;(case a=>k_is);(case l=>k_is);(case c=>k_is);(case k=>k_is))
    (case f_read_line_interval=>refine' L2.GFn.mk ?a ?l ?c ?k;(case a=>k_is);(case l=>k_is);(case c=>k_is);(case k=>k_is))
    (case f_read_lines=>refine' L2.GFn.mk ?a ?l ?c ?k;(case a=>k_is);(case l=>k_is);(case c=>k_is);(case k=>k_is))
    (case f_read_length=>refine' L2.GFn.mk ?a ?l ?c ?k;(case a=>k_is);(case l=>k_is);(case c=>k_is);(case k=>k_is))
    (case f_read_length_sign=>refine' L2.GFn.mk ?a ?l ?c ?k;(case a=>k_is);(case l=>k_is);(case c=>k_is);(case k=>k_is))
    (case f_read_song=>refine' L2.GFn.mk ?a ?l ?c ?k;(case a=>k_is);(case l=>k_is);(case c=>k_is);(case k=>k_is))
    (case f_read_notes=>refine' L2.GFn.mk ?a ?l ?c ?k;(case a=>k_is);(case l=>k_is);(case c=>k_is);(case k=>k_is))
    (case f_read_note=>refine' L2.GFn.mk ?a ?l ?c ?k;(case a=>k_is);(case l=>k_is);(case c=>k_is);(case k=>k_is))
    (case f_ways=>refine' L2.GFnT.mk ?a ?l ?c ?k ?lc ?h11 ?hh;(case a=>k_is);(case l=>k_is);(case c=>k_is);(case k=>k_is);(case lc=>k_is);(case h11=>rfl);(case hh=>rfl))
    (case f_asked_of_song_and_instrument=>refine' L2.GFn.mk ?a ?l ?c ?k;(case a=>k_is);(case l=>k_is);(case c=>k_is);(case k=>k_is))
    (case f_asked_of_texts=>refine' L2.GFn.mk ?a ?l ?c ?k;(case a=>k_is);(case l=>k_is);(case c=>k_is);(case k=>k_is))
    (case f_read_or_none=>refine' L2.GFn.mk ?a ?l ?c ?k;(case a=>k_is);(case l=>k_is);(case c=>k_is);(case k=>k_is))
    (case f_moments_of=>refine' L2.GFn.mk ?a ?l ?c ?k;(case a=>k_is);(case l=>k_is);(case c=>k_is);(case k=>k_is))
    (case f_ways_of_moment=>refine' L2.GFn.mk ?a ?l ?c ?k;(case a=>k_is);(case l=>k_is);(case c=>k_is);(case k=>k_is))
    (case c_END=>refine' L2.CI.mk ?a;(case a=>k_is))
    (case c_NEW_LINE=>refine' L2.CI.mk ?a;(case a=>k_is))
    (case c_BLANK=>refine' L2.CI.mk ?a;(case a=>k_is))
    (case c_POINT=>refine' L2.CI.mk ?a;(case a=>k_is))
    (case c_PART_BITS=>refine' L2.CI.mk ?a;(case a=>k_is))
    (case c_PART_MASK=>refine' L2.CI.mk ?a;(case a=>k_is))
    (case c_MINUS=>refine' L2.CI.mk ?a;(case a=>k_is))
    (case c_SLASH=>refine' L2.CI.mk ?a;(case a=>k_is))
    (case c_ZERO=>refine' L2.CI.mk ?a;(case a=>k_is))
    (case c_ONE=>refine' L2.CI.mk ?a;(case a=>k_is))
    (case c_NINE=>refine' L2.CI.mk ?a;(case a=>k_is))
    (case c_CARET=>refine' L2.CI.mk ?a;(case a=>k_is))
    (case c_MOST_DIGITS=>refine' L2.CI.mk ?a;(case a=>k_is))
    (case c_MOST_POWER=>refine' L2.CI.mk ?a;(case a=>k_is))
    (case c_MOST_PARTS=>refine' L2.CI.mk ?a;(case a=>k_is))
    (case c_COMMON_PARTS=>refine' L2.CI.mk ?a;(case a=>k_is))
    (case c_LETTER_B=>refine' L2.CI.mk ?a;(case a=>k_is))
    (case c_LETTER_C=>refine' L2.CI.mk ?a;(case a=>k_is))
    (case c_LETTER_F=>refine' L2.CI.mk ?a;(case a=>k_is))
    (case c_LEAST_LENGTH=>refine' L2.CI.mk ?a;(case a=>k_is))
    (case c_MOST_LENGTH=>refine' L2.CI.mk ?a;(case a=>k_is))
    (case c_MOST_LENGTH_DIGITS=>refine' L2.CI.mk ?a;(case a=>k_is))
    (case c_MOST_FRETS=>refine' L2.CI.mk ?a;(case a=>k_is))
    (case c_MOST_COURSES=>refine' L2.CI.mk ?a;(case a=>k_is))
    (case c_STOPPED_COURSES=>refine' L2.CI.mk ?a;(case a=>k_is))
    (case c_BAR_SIGN=>refine' L2.CI.mk ?a;(case a=>k_is))
    (case c_MOST_LINES=>refine' L2.CI.mk ?a;(case a=>k_is))
    (case c_COMMA=>refine' L2.CI.mk ?a;(case a=>k_is))
    (case c_MOST_NOTES=>refine' L2.CI.mk ?a;(case a=>k_is))
    (case c_TOO_LONG=>refine' L2.CI.mk ?a;(case a=>k_is))
    (case c_NO_SUCH_LINE=>refine' L2.CI.mk ?a;(case a=>k_is))
    (case c_NO_FIRST_TEXT=>refine' L2.CI.mk ?a;(case a=>k_is))
    (case c_NO_SECOND_TEXT=>refine' L2.CI.mk ?a;(case a=>k_is))
    (case c_MOST_BYTES=>refine' L2.CI.mk ?a;(case a=>k_is))
    (case c_MOST_INSTRUMENT_BYTES=>refine' L2.CI.mk ?a;(case a=>k_is))
    (case c_FIRST_LINE=>refine' L2.CS.mk ?a;(case a=>k_is))
    (case c_FACTORS=>refine' L2.CD.mk ?a ?b ?c ?d;(case a=>k_is);(case b=>k_is);(case c=>exact .put (by decide +kernel) (.put (by decide +kernel) (.put (by decide +kernel) (.put (by decide +kernel) (.nil)))));(case d=>rfl))
    (case c_LENGTHS=>refine' L2.CD.mk ?a ?b ?c ?d;(case a=>k_is);(case b=>k_is);(case c=>exact .put (by decide +kernel) (.put (by decide +kernel) (.put (by decide +kernel) (.put (by decide +kernel) (.put (by decide +kernel) (.put (by decide +kernel) (.put (by decide +kernel) (.nil))))))));(case d=>rfl))
    (case c_LOGARITHMS=>refine' L2.CT.mk ?a ?b ?c;(case a=>k_is);(case b=>k_is);(case c=>repeat constructor))
    (case c_UNISON=>refine' L2.CT.mk ?a ?b ?c;(case a=>k_is);(case b=>k_is);(case c=>repeat constructor))
  case S=>
    intro K H xs a hT hwi hask hx
    cases hx with
    | cons h1 h2=>
      cases h2 with
      | cons h2 h3=>
        cases h3 with
        | cons h3 h4=>
          cases h4
          cases h1
          cases h2 with
          | lst hs ha=>
            cases h3 with
            | lst hs3 ha3=>
              have e:=L2.ints_dw a.2.1 _ ha
              subst e
              have e3:=L2.ints_dw a.2.2.1 _ ha3
              subst e3
              have q:(Codec.inInt 0 2147483647 a.1 && ((Codec.inLen 0 110000 a.2.1 && a.2.1.all (Codec.inInt 0 255)) && ((Codec.inLen 0 8192 a.2.2.1 && a.2.2.1.all (Codec.inInt 0 255)) && true)))=true:=hwi
              rw [Bool.and_eq_true,Bool.and_eq_true,Bool.and_eq_true,Bool.and_eq_true,Bool.and_eq_true] at q
              exact ⟨_,_,a.2.1,a.2.2.1,a.1,rfl,(Codec.inInt_iff.mp q.1).1,fun c Pt h=>hT "ways" c Pt (List.mem_singleton.mpr rfl) h,hs,fun z hz=>Codec.inInt_iff.mp (List.all_eq_true.mp q.2.1.2 z hz),hs3,fun z hz=>Codec.inInt_iff.mp (List.all_eq_true.mp q.2.2.1.2 z hz),fun H' p hp=>.lst (L2.SqL.of hp) (L2.dw_ints _)⟩

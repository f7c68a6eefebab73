import PyProof.Rows.All
import Wide.All
import OpenK.AllK
import Wide.FinOn
import PyProof.EqAt
import PyProof.EqKinds
import PyProof.TupleCall
import KE.BitLaws
import KE.KTryMore
import KE.KTryOn
import KE.OsGo
import KE.KLam
import KE.OsArgs
import PyProof.ListRange
import PyProof.Rows.SortShellAny
import KE.KSortKeyAny
import KE.KSortTupG
import KE.KSortAsk
import PyProof.NeKinds
import PySx32
import PySem.Challenge.RW_tablegroups_s04_gw_table
set_option Elab.async false
set_option linter.all false
set_option maxRecDepth 100000
namespace L2
open PySem PySem.Spec PyProof.Rows
abbrev Key:=Sum Int Str
def keyIs:Key->Value->Bool
 | .inl k,v=>Value.isInt k v
 | .inr x,v=>Value.isStrOf x v
def keyH (w:World):Key->Int
 | .inl k=>hashInt k
 | .inr x=>hashStr w x
theorem keyIs_shape:∀ {k:Key} {v:Value},keyIs k v=true->(∃ i t,k=Sum.inl i/\v=Value.int i t)\/(∃ x t,k=Sum.inr x/\v=Value.str x t)
 | .inl i,v,h=>by
  obtain ⟨t,e⟩:=Value.isInt_shape (k:=i) (v:=v) h
  exact .inl ⟨i,t,rfl,e⟩
 | .inr x,v,h=>by
  obtain ⟨t,e⟩:=Value.isStrOf_shape (x:=x) (v:=v) h
  exact .inr ⟨x,t,rfl,e⟩
theorem keyIs_int (i:Int) (t:Tok):keyIs (.inl i) (.int i t)=true:=by simp [keyIs,Value.isInt]
theorem keyIs_str (x:Str) (t:Tok):keyIs (.inr x) (.str x t)=true:=by simp [keyIs,Value.isStrOf]
theorem key_ll (a b:Int):decide ((Sum.inl a:Key)=Sum.inl b)=(a==b):=by
 by_cases e:a=b
 ·subst e;simp
 ·have h:¬ (Sum.inl a:Key)=Sum.inl b:=fun q=>e (Sum.inl.inj q)
  rw [decide_eq_false h]
  exact (beq_eq_false_iff_ne.mpr e).symm
theorem key_rr (a b:Str):decide ((Sum.inr a:Key)=Sum.inr b)=decide (a=b):=by
 by_cases e:a=b
 ·subst e;simp
 ·have h:¬ (Sum.inr a:Key)=Sum.inr b:=fun q=>e (Sum.inr.inj q)
  rw [decide_eq_false h,decide_eq_false e]
theorem key_lr (a:Int) (b:Str):decide ((Sum.inl a:Key)=Sum.inr b)=false:=decide_eq_false (fun q=>nomatch q)
theorem key_rl (a:Str) (b:Int):decide ((Sum.inr a:Key)=Sum.inl b)=false:=decide_eq_false (fun q=>nomatch q)
def mixKind (prog:Program) (w:World):PySem.KeyKind prog w Key where
 is:=keyIs
 hash:=keyH w
 inj:=fun v a b ha hb=>by
  rcases keyIs_shape ha with ⟨i,t,rfl,rfl⟩ | ⟨x,t,rfl,rfl⟩
  ·rcases keyIs_shape hb with ⟨j,u,rfl,e⟩ | ⟨y,u,rfl,e⟩
   ·injection e with e1 _;rw [e1]
   ·exact nomatch e
  ·rcases keyIs_shape hb with ⟨j,u,rfl,e⟩ | ⟨y,u,rfl,e⟩
   ·exact nomatch e
   ·injection e with e1 _;rw [e1]
 byValue:=fun k v h=>by
  rcases keyIs_shape h with ⟨i,t,rfl,rfl⟩ | ⟨x,t,rfl,rfl⟩<;>rfl
 pyHash:=fun hv h=>by
  rcases keyIs_shape hv with ⟨i,t,rfl,rfl⟩ | ⟨x,t,rfl,rfl⟩
  ·exact wpAny_pyHash_int h
  ·exact wpAny_pyHash_str h
 eqBool:=fun hu hv h=>by
  rcases keyIs_shape hu with ⟨i,t,rfl,rfl⟩ | ⟨x,t,rfl,rfl⟩
  ·rcases keyIs_shape hv with ⟨j,u,rfl,rfl⟩ | ⟨y,u,rfl,rfl⟩
   ·rw [key_ll] at h;exact wpAny_eqBool_int h
   ·rw [key_lr] at h;exact SeqAt.EqAt.int_str i t y u _ _ _ _ h
  ·rcases keyIs_shape hv with ⟨j,u,rfl,rfl⟩ | ⟨y,u,rfl,rfl⟩
   ·rw [key_rl] at h;exact SeqAt.EqAt.str_int x t j u _ _ _ _ h
   ·rw [key_rr] at h;exact wpAny_eqBool_str h
 «strs»:=fun k x t v h=>by
  rcases keyIs_shape h with ⟨i,u,rfl,e⟩ | ⟨y,u,rfl,e⟩
  ·exact nomatch e
  ·injection e with e1 _
   subst e1
   cases v<;>rfl
theorem mixKind_int (prog:Program) (w:World) (i:Int) (t:Tok):(mixKind prog w).is (.inl i) (.int i t)=true:=keyIs_int i t
theorem mixKind_str (prog:Program) (w:World) (x:Str) (t:Tok):(mixKind prog w).is (.inr x) (.str x t)=true:=keyIs_str x t
end L2
namespace L2
open PySem PySem.Spec PyProof.Rows
inductive V where
 | non | bl (b:Bool) | int (i:Int) | str (x:Str) | byt (b:Array UInt8) | flt (b:UInt64) | ref (a:Addr) | ty (n:String)
 deriving DecidableEq
def RelV:V->Value->Prop
 | .non,u=>u=Value.none
 | .bl b,u=>u=Value.bool b
 | .int i,u=>∃ t,u=Value.int i t
 | .str x,u=>∃ t,u=Value.str x t
 | .byt b,u=>∃ t,u=Value.bytes b t
 | .flt b,u=>∃ t,u=Value.float b t
 | .ref a,u=>u=Value.ref a
 | .ty n,u=>u=Value.type n
abbrev Vals:List V->List Value->Prop:=Paired RelV
theorem Vals.length {xs:List V} {us:List Value} (r:Vals xs us):xs.length=us.length:=Paired.length r
theorem Vals.get:∀ {xs:List V} {us:List Value} {i:Nat} {x:V},Vals xs us->xs[i]?=some x->∃ u,us[i]?=some u/\RelV x u
 | _,_,_,_,.nil,e=>by simp at e
 | _,_,0,_,.cons r _,e=>by simp at e;subst e;exact ⟨_,rfl,r⟩
 | _,_,i+1,x,.cons _ t,e=>by
  obtain ⟨u,h1,h2⟩:=Vals.get (i:=i) (x:=x) t (by simpa using e)
  exact ⟨u,by simpa using h1,h2⟩
theorem Vals.set {x:V} {u:Value} (r:RelV x u):∀ {xs:List V} {us:List Value} (i:Nat),Vals xs us->Vals (xs.set i x) (us.set i u)
 | _,_,_,.nil=>.nil
 | _,_,0,.cons _ t=>.cons r t
 | _,_,i+1,.cons q t=>.cons q (Vals.set r i t)
theorem Vals.append:∀ {xs ys:List V} {us ws:List Value},Vals xs us->Vals ys ws->Vals (xs++ys) (us++ws)
 | _,_,_,_,.nil,s=>s
 | _,_,_,_,.cons r t,s=>.cons r (Vals.append t s)
theorem Vals.take:∀ {xs:List V} {us:List Value} (n:Nat),Vals xs us->Vals (xs.take n) (us.take n)
 | _,_,0,_=>.nil
 | _,_,_+1,.nil=>.nil
 | _,_,n+1,.cons r t=>.cons r (Vals.take n t)
theorem Vals.drop:∀ {xs:List V} {us:List Value} (n:Nat),Vals xs us->Vals (xs.drop n) (us.drop n)
 | _,_,0,r=>r
 | _,_,_+1,.nil=>.nil
 | _,_,n+1,.cons _ t=>Vals.drop n t
def RelO:Option V->Option Value->Prop
 | some v,some u=>RelV v u
 | none,none=>True
 | _,_=>False
def KV {κ:Type}:List (κ × V)->List (κ × Value)->Prop:=Paired fun (p:κ × V) (q:κ × Value)=>p.1=q.1/\RelV p.2 q.2
def kV:Key->V
 | .inl i=>.int i
 | .inr x=>.str x
inductive HO where
 | lst (xs:List V)
 | tup (xs:List V)
 | dK (kvs:List (Key × V)) | dT (kvs:List (List Key × V))
 | set (S:Int->Bool) (n:Nat)
 | ins (C dx:Addr) (fs:List (Str × V))
 | own (x:Addr)
 | xd (fs:List (Str × V))
 | met (f x:Addr)
 | rng (lo hi:Int)
 | frz (o:Obj) (u:HO)
 | tbl (ps:Array Value)
 | ext (φ:Heap->Prop)
abbrev Hp:=Addr->Option HO
def upd (H:Hp) (a:Addr) (o:HO):Hp:=fun b=>if b=a then some o else H b
theorem upd_same {H:Hp} {a:Addr} {o:HO}:upd H a o a=some o:=by unfold upd;rw [if_pos rfl]
theorem upd_ne {H:Hp} {a b:Addr} {o:HO} (h:b≠a):upd H a o b=H b:=by unfold upd;rw [if_neg h]
theorem upd_upd {H:Hp} {a:Addr} {o u:HO}:upd (upd H a o) a u=upd H a u:=by
 funext b;unfold upd;split<;>rfl
theorem ne_of {H:Hp} {a b:Addr} {o u:HO} (h:H a=some o) (h':H b=some u) (d:o≠u):a≠b:=by
 intro e;subst e;rw [h] at h';exact d (Option.some.inj h')
theorem ne_of_none {H:Hp} {a b:Addr} {o:HO} (h:H a=some o) (h':H b=none):a≠b:=by
 intro e;subst e;rw [h] at h';cases h'
section
variable (P:Program) (w:World)
def ObjOk (H:Hp) (h:Heap) (a:Addr):HO->Prop
 | .lst xs=>xs.length<=sizeLine/\∃ (its:List Value) (n:Nat),Vals xs its/\h.get? a=some {cls:=.type "list",data:=.seq its.toArray n}
 | .tup xs=>xs.length<=sizeLine/\∃ its:List Value,Vals xs its/\IsTup h a its.toArray
 | .dK kvs=>kvs.length<=sizeLine/\(a==sysModules)=false/\∃ vs,KV kvs vs/\h.DictOf (mixKind P w) a vs
 | .dT kvs=>kvs.length<=sizeLine/\(a==sysModules)=false/\∃ xs:List (List Key × Addr × Value),
   Paired (fun (p:List Key × V) (q:List Key × Addr × Value)=>p.1=q.1/\H q.2.1=some (.tup (p.1.map kV))/\RelV p.2 q.2.2) kvs xs /\
   ∃ o es ep,h.get? a=some o/\o.ExactDict/\o.data=.dict es ep/\es.toList=xs.map (entryOfKey (tupleKind (mixKind P w)))/\(xs.map (·.1)).Nodup
 | .set S n=>h.SetOf (intKind P w) a S n
 | .ins C dx fs=>H dx=some (.own a)/\fs.length<=1000/\dx≠a/\h.get? a=some (PySem.W.instObj C dx) /\
   ∃ mA,h.Ns1 dx mA/\(∀ f,RelO (fs.lookup f) (mA f))/\PySem.Within mA (fs.map (·.1))
 | .own _=>∃ o,h.get? a=some o
 | .xd fs=>∃ mA,h.Ns1 a mA/\∀ f,RelO (fs.lookup f) (mA f)
 | .rng lo hi=>∃ t u v,h.get? a=some {cls:=.type "range",data:=.fields #[.int lo t,.int hi u,.int 1 v]}
 | .frz o u=>h.get? a=some o/\ObjOk H h a u
 | .tbl ps=>h.get? a=some {cls:=.none,data:=.fields ps}
 | .met f x=>h.get? a=some (PySem.W.methodObj (.ref f) (.ref x))
 | .ext φ=>φ h/\(∃ o,h.get? a=some o)/\∀ h1 h2:Heap,φ h1->(∀ o,h1.get? a=some o->h2.get? a=some o)->φ h2
def HOk (H:Hp) (h:Heap):Prop:=∀ a o,H a=some o->ObjOk P w H h a o
end
section
variable {P:Program} {w:World} {H H':Hp} {h h':Heap} {a:Addr} {o:HO}
theorem ObjOk.lt (x:ObjOk P w H h a o):a<h.objs.size:=by
 cases o with
 | lst xs=>obtain ⟨_,_,_,_,e⟩:=x;exact Heap.lt_size e
 | tup xs=>obtain ⟨_,_,_,p⟩:=x;exact p.lt
 | dK kvs=>obtain ⟨_,_,_,_,o,_,_,e,_⟩:=x;exact Heap.lt_size e
 | dT kvs=>obtain ⟨_,_,_,_,o,_,_,e,_⟩:=x;exact Heap.lt_size e
 | set S n=>obtain ⟨o,_,_,_,e,_⟩:=x;exact Heap.lt_size e
 | ins C dx fs=>obtain ⟨_,_,_,e,_⟩:=x;exact Heap.lt_size e
 | own y=>obtain ⟨_,e⟩:=x;exact Heap.lt_size e
 | xd fs=>obtain ⟨_,⟨_,_,_,e,_⟩,_⟩:=x;exact Heap.lt_size e
 | rng lo hi=>obtain ⟨_,_,_,e⟩:=x;exact Heap.lt_size e
 | frz ob u=>obtain ⟨e,_⟩:=x;exact Heap.lt_size e
 | tbl ps=>exact Heap.lt_size (show h.get? a=some _ from x)
 | met f y=>exact Heap.lt_size (show h.get? a=some _ from x)
 | ext φ=>obtain ⟨_,⟨_,e⟩,_⟩:=x;exact Heap.lt_size e
theorem Paired.mapP {α β:Type} {F G:α->β->Prop}:∀ {l₁:List α} {l₂:List β},Paired F l₁ l₂->(∀ a b,F a b->G a b)->Paired G l₁ l₂
 | _,_,.nil,_=>.nil
 | _,_,.cons r t,f=>.cons (f _ _ r) (Paired.mapP t f)
theorem ObjOk.stay (x:ObjOk P w H h a o) (k:∀ b u,(b=a\/H b=some (.own a))->h.get? b=some u->h'.get? b=some u)
  (ho:∀ b,H b=some (.own a)->H' b=some (.own a)) (ht:∀ b xs,H b=some (.tup xs)->H' b=some (.tup xs)):ObjOk P w H' h' a o:=by
 induction o with
 | lst xs=>obtain ⟨z,its,n,r,e⟩:=x;exact ⟨z,its,n,r,k _ _ (.inl rfl) e⟩
 | tup xs=>obtain ⟨z,its,r,ob,e,c⟩:=x;exact ⟨z,its,r,ob,k _ _ (.inl rfl) e,c⟩
 | dK kvs=>obtain ⟨z,y,vs,r,ob,es,ep,e,c⟩:=x;exact ⟨z,y,vs,r,ob,es,ep,k _ _ (.inl rfl) e,c⟩
 | dT kvs=>
  obtain ⟨z,y,xs,r,ob,es,ep,e,c⟩:=x
  exact ⟨z,y,xs,Paired.mapP r fun p q z=>⟨z.1,ht _ _ z.2.1,z.2.2⟩,ob,es,ep,k _ _ (.inl rfl) e,c⟩
 | set S n=>obtain ⟨ob,es,ep,t,e,c⟩:=x;exact ⟨ob,es,ep,t,k _ _ (.inl rfl) e,c⟩
 | ins C dx fs=>
  obtain ⟨d,z,ne,e,mA,⟨od,es,ep,e2,c⟩,r⟩:=x
  exact ⟨ho _ d,z,ne,k _ _ (.inl rfl) e,mA,⟨od,es,ep,k _ _ (.inr d) e2,c⟩,r⟩
 | own y=>obtain ⟨ob,e⟩:=x;exact ⟨ob,k _ _ (.inl rfl) e⟩
 | xd fs=>obtain ⟨mA,⟨od,es,ep,e,c⟩,r⟩:=x;exact ⟨mA,⟨od,es,ep,k _ _ (.inl rfl) e,c⟩,r⟩
 | rng lo hi=>obtain ⟨t,u,v,e⟩:=x;exact ⟨t,u,v,k _ _ (.inl rfl) e⟩
 | frz ob u ih=>obtain ⟨e,q⟩:=x;exact ⟨k _ _ (.inl rfl) e,ih q⟩
 | tbl ps=>
  have e:h.get? a=some {cls:=.none,data:=.fields ps}:=x
  show h'.get? a=some {cls:=.none,data:=.fields ps}
  exact k a _ (.inl rfl) e
 | met f y=>
  have e:h.get? a=some (PySem.W.methodObj (.ref f) (.ref y)):=x
  show h'.get? a=some (PySem.W.methodObj (.ref f) (.ref y))
  exact k a _ (.inl rfl) e
 | ext φ=>obtain ⟨p,⟨o,e⟩,st⟩:=x;exact ⟨st _ _ p fun o q=>k _ _ (.inl rfl) q,⟨o,k _ _ (.inl rfl) e⟩,st⟩
theorem HOk.lt (x:HOk P w H h) (e:H a=some o):a<h.objs.size:=(x a o e).lt
theorem HOk.fresh (x:HOk P w H h) (e:h.objs.size<=a):H a=none:=by
 cases q:H a with
 | none=>rfl
 | some u=>exact absurd (Nat.lt_of_lt_of_le (x.lt q) e) (Nat.lt_irrefl _)
theorem HOk.kept (x:HOk P w H h) (k:∀ b u,h.get? b=some u->h'.get? b=some u):HOk P w H h':=fun a o e=>
 (x a o e).stay (fun b u _ q=>k b u q) (fun _ q=>q) fun _ _ q=>q
theorem HOk.laid (x:HOk P w H h) (k:∀ b u,h.get? b=some u->h'.get? b=some u) (hp:h.objs.size<=a) (new:ObjOk P w (upd H a o) h' a o):HOk P w (upd H a o) h':=fun b u e=>by
 have hn:=x.fresh hp
 by_cases hb:b=a
 ·subst hb;rw [upd_same] at e;cases e;exact new
 ·rw [upd_ne hb] at e
  exact (x b u e).stay (fun c v _ q=>k c v q) (fun c q=>by rw [upd_ne (ne_of_none q hn)];exact q) fun c xs q=>by rw [upd_ne (ne_of_none q hn)];exact q
end
def Rd (H:Hp) (a:Addr) (u:HO):Prop:=H a=some u\/∃ o,H a=some (.frz o u)
theorem Rd.ok {P:Program} {w:World} {H:Hp} {h:Heap} {a:Addr} {u:HO} (r:Rd H a u) (x:HOk P w H h):ObjOk P w H h a u:=by
 rcases r with r | ⟨o,r⟩
 ·exact x a u r
 ·obtain ⟨_,q⟩:=x a _ r
  exact q
def Mut:Option HO->Prop
 | some (.lst _)=>True
 | some (.dK _)=>True
 | some (.dT _)=>True
 | some (.set _ _)=>True
 | some (.ins _ _ _)=>True
 | some (.ext _)=>True
 | _=>False
section
variable {P:Program} {w:World} {H:Hp} {h h':Heap} {x e:Addr} {o':HO}
theorem HOk.write (ok:HOk P w H h) (mu:Mut (H x)) (he:e=x\/H e=some (.own x)) (k:∀ b u,b≠e->h.get? b=some u->h'.get? b=some u) (heo:∃ u,h'.get? e=some u)
  (new:ObjOk P w (upd H x o') h' x o'):HOk P w (upd H x o') h':=fun b u q=>by
 have nown:∀ c y,H c=some (.own y)->c≠x:=fun c y r z=>by subst z;rw [r] at mu;exact mu
 have ntup:∀ c xs,H c=some (.tup xs)->c≠x:=fun c xs r z=>by subst z;rw [r] at mu;exact mu
 by_cases hb:b=x
 ·subst hb;rw [upd_same] at q;cases q;exact new
 ·rw [upd_ne hb] at q
  by_cases hbe:b=e
  ·have q':H b=some (.own x):=by
    rcases he with z | z
    ·exact absurd (hbe.trans z) hb
    ·rw [hbe];exact z
   rw [q] at q';cases q'
   obtain ⟨v,hv⟩:=heo
   exact ⟨v,by rw [hbe];exact hv⟩
  ·refine (ok b u q).stay (fun c v hc r=>k c v ?_ r) (fun c r=>by rw [upd_ne (nown c b r)];exact r) fun c xs r=>by rw [upd_ne (ntup c xs r)];exact r
   rcases hc with rfl | hc
   ·exact hbe
   ·rintro rfl
    rcases he with z | z
    ·exact nown c b hc z
    ·rw [hc] at z;cases z;exact hb rfl
end
structure Un (fs ex:List Addr) (H H':Hp) (h h':Heap):Prop where
 keep:∀ b o,h.get? b=some o->H b=none->b∉fs->b∉ex->h'.get? b=some o
 slot:∀ b o,h.get? b=some o->H b=none->b∈fs->b∉ex->∃ sl,h'.get? b=some {o with slots:=sl}
 free:∀ b o,h.get? b=some o->H b=none->b∉ex->H' b=none
 there:∀ b o,h.get? b=some o->b∉ex->∃ o',h'.get? b=some o'
 tups:∀ b xs,H b=some (.tup xs)->H' b=some (.tup xs)
 frzs:∀ b o u,H b=some (.frz o u)->H' b=some (.frz o u)
 tbls:∀ b ps,H b=some (.tbl ps)->∃ more,H' b=some (.tbl (ps++more))
section
variable {fs fs' ex ex':List Addr} {H H1 H2:Hp} {h h1 h2 h':Heap} {a x e:Addr} {o:HO}
theorem Un.any (u:Un fs ex H H1 h h1) {b:Addr} {ob:Obj} (q:h.get? b=some ob) (n:H b=none) (hx:b∉ex):∃ sl,h1.get? b=some {ob with slots:=sl}:=by
 by_cases hb:b∈fs
 ·exact u.slot b ob q n hb hx
 ·exact ⟨ob.slots,u.keep b ob q n hb hx⟩
theorem Un.kept (k:∀ b u,h.get? b=some u->h'.get? b=some u):Un fs ex H H h h':=
 ⟨fun b ob q _ _ _=>k b ob q,fun b ob q _ _ _=>⟨ob.slots,k b ob q⟩,fun _ _ _ n _=>n,fun b ob q _=>⟨ob,k b ob q⟩,fun _ _ q=>q,fun _ _ _ q=>q,fun _ ps q=>⟨#[],by rw [q];simp⟩⟩
theorem Un.refl:Un fs ex H H h h:=Un.kept fun _ _ q=>q
theorem Un.laid (k:∀ b u,h.get? b=some u->h'.get? b=some u) (hp:h.objs.size<=a) (hn:H a=none):Un fs ex H (upd H a o) h h' where
 keep:=fun b u q _ _ _=>k b u q
 slot:=fun b u q _ _ _=>⟨u.slots,k b u q⟩
 free:=fun b u q n _=>by rw [upd_ne (Nat.ne_of_lt (Nat.lt_of_lt_of_le (Heap.lt_size q) hp))];exact n
 there:=fun b u q _=>⟨u,k b u q⟩
 tups:=fun b xs q=>by rw [upd_ne (ne_of_none q hn)];exact q
 frzs:=fun b u xs q=>by rw [upd_ne (ne_of_none q hn)];exact q
 tbls:=fun b ps q=>⟨#[],by rw [upd_ne (ne_of_none q hn),q];simp⟩
theorem Un.write (mu:Mut (H x)) (he:e=x\/H e=some (.own x)) (k:∀ b u,b≠e->h.get? b=some u->h'.get? b=some u) (heo:∃ u,h'.get? e=some u):Un fs ex H (upd H x o) h h':=by
 have hx:∀ b,H b=none->b≠x:=fun b n z=>by subst z;rw [n] at mu;exact mu
 have hb:∀ b,H b=none->b≠e:=fun b n z=>by
  subst z
  rcases he with r | r
  ·exact hx b n r
  ·rw [n] at r;cases r
 have hm:∀ b u,H b=some u->¬ Mut (some u)->b≠x:=fun b u q nm z=>by subst z;rw [q] at mu;exact nm mu
 refine ⟨fun b u q n _ _=>k b u (hb b n) q,fun b u q n _ _=>⟨u.slots,k b u (hb b n) q⟩,fun b u q n _=>by rw [upd_ne (hx b n)];exact n,fun b u q _=>?_,
  fun b xs q=>by rw [upd_ne (hm b _ q fun z=>z)];exact q,fun b u xs q=>by rw [upd_ne (hm b _ q fun z=>z)];exact q,fun b ps q=>⟨#[],by rw [upd_ne (hm b _ q fun z=>z),q];simp⟩⟩
 by_cases hbe:b=e
 ·subst hbe;exact heo
 ·exact ⟨u,k b u hbe q⟩
end
def trk (h:Heap) (H:Hp):List Addr:=(List.range h.objs.size).filter fun a=>(H a).isSome
def hidT (h:Heap) (H:Hp):Heap:=PySem.W.hideAll h (trk h H)
theorem hidT_size (h:Heap) (H:Hp):(hidT h H).objs.size=h.objs.size:=PySem.W.hideAll_size _ _
theorem hidT_get {h:Heap} {H:Hp} {b:Addr} {o:Obj} (e:h.get? b=some o) (n:H b=none):(hidT h H).get? b=some o:=
 PySem.W.hideAll_get _ e fun hm=>by
  have q:(H b).isSome=true:=(List.mem_filter.mp hm).2
  rw [n] at q;simp at q
theorem of_hidT {h:Heap} {H:Hp} {b:Addr} {o:Obj} (e:(hidT h H).get? b=some o):h.get? b=some o/\H b=none:=by
 have e':h.get? b=some o:=PySem.W.of_hideAll (trk h H) e
 refine ⟨e',?_⟩
 cases q:H b with
 | none=>rfl
 | some x=>
  have hm:b∈trk h H:=List.mem_filter.mpr ⟨List.mem_range.mpr (Heap.lt_size e'),by simp [q]⟩
  have z:(hidT h H).get? b=none:=PySem.W.hideAll_none (trk h H) hm
  rw [z] at e;cases e
end L2
namespace L2
open PySem PySem.Spec PyProof.Rows
structure Mod (K:PySem.W.Frag) (mg:Str->Option Value) (base:Heap):Prop where
 kin:K.In base
 glob:base.Ns mainGlobals mg
 blt:∃ mb,base.Ns builtinsNs mb/\∀ x:Str,x ≠ "__name__"->mb x=bootBuiltins x
 nolimit:base.NoLimit
structure Cx where
 prog:Program
 w:World
 K:PySem.W.Frag
 mg:Str->Option Value
 base:Heap
 A:Around
 N:List Str
 s_0:Shared
 H_0:Hp
 env:Env
 outer:List Env
 stack:List Env
 ex:List Addr
 fn:Str->Bool
 calm:Bool
 pn:List (Addr × Obj)
 xe:Value->Shared->Prop
def frs (l:List Env):List Addr:=l.filterMap (·.frame)
abbrev Cx.fs (X:Cx):List Addr:=frs X.outer
def Vis (sc:Scope) (x:Str):Prop:=sc.names.lookup x=some .local\/sc.names.lookup x=some .cell\/sc.names.lookup x=some .free
def Loc (sc:Scope) (x:Str):Prop:=sc.names.lookup x=some .local\/sc.names.lookup x=some .cell
def Look (env:Env) (h:Heap) (m:Str->Option Value) (x:Str) (u:Value):Prop:=
 (env.kindOf x=some .local/\m x=some u)\/((env.kindOf x=some .cell\/env.kindOf x=some .free)/\∃ c,env.cells.lookup x=some c/\h.IsCell c (some u))
structure Cx.Ok (X:Cx):Prop where
 mod:Mod X.K X.mg X.base
 kind:X.env.scope.kind=.function
 glob:X.env.globals=mainGlobals
 blt:X.env.builtins=builtinsNs
 above:X.s_0.heap.objs.size<=X.env.locals
 inj:∀ x y c,X.env.cells.lookup x=some c->X.env.cells.lookup y=some c->x=y
 has:∀ x,(X.env.kindOf x=some .cell\/X.env.kindOf x=some .free)->∃ c,X.env.cells.lookup x=some c
 cab:∀ x c,X.fn x=true->X.env.cells.lookup x=some c->X.s_0.heap.objs.size<=c
 hd:X.calm=true->X.A.handled=none
 frames:X.A.frames=some X.stack
 stk:X.stack=X.outer\/(X.stack=X.env :: X.outer/\X.env.frame=some X.env.locals)
 exf:∀ b∈X.ex,b≠X.env.locals/\∀ x c,X.env.cells.lookup x=some c->c≠b
 bs:∀ b o,X.base.get? b=some o->X.s_0.heap.get? b=some o/\X.H_0 b=none
 bsz:X.base.objs.size<=X.s_0.heap.objs.size
 noex:∀ b o,X.base.get? b=some o->b∉X.ex
 exfs:∀ b∈X.ex,b∉X.fs
 funs:X.s_0.heap.FunFrames X.base X.outer
 frf:∀ b∈X.fs,X.H_0 b=none
structure Inv (X:Cx) (pins:List (Addr × Obj)) (σ:List (Option V)) (H:Hp) (s:Shared):Prop where
 ok:X.Ok
 os:s.os=X.s_0.os
 bare:AllBare s.gens
 base:Un X.fs X.ex X.H_0 H X.s_0.heap s.heap
 loc:∃ m,s.heap.Ns X.env.locals m/\∀ (i:Nat) (x:Str) (v:V),X.N[i]?=some x->σ[i]?=some (some v)->Vis X.env.scope x->∃ u,RelV v u/\Look X.env s.heap m x u
 cell:∀ x c,X.env.cells.lookup x=some c->∃ v,s.heap.IsCell c v
 free:H X.env.locals=none
 freeC:∀ x c,X.env.cells.lookup x=some c->H c=none
 pin:∀ p∈X.pn++pins,s.heap.get? p.1=some p.2/\H p.1=none/\p.1≠X.env.locals/\p.1∉X.fs/\∀ v,p.2.data≠.cell v
 hok:HOk X.prog X.w H s.heap
 len:σ.length=X.N.length
section
variable {X:Cx} {pins:List (Addr × Obj)} {σ:List (Option V)} {H H':Hp} {s:Shared} {h':Heap}
theorem Cx.Ok.nofr (ok:X.Ok) {b:Addr} {o:Obj} (e:X.base.get? b=some o):b∉X.fs:=fun hb=>by
 have:=(ok.funs.mem hb).1
 rw [e] at this;cases this
theorem Inv.bs (I:Inv X pins σ H s):∀ b o,X.base.get? b=some o->s.heap.get? b=some o/\H b=none:=fun b o e=>
 ⟨I.base.keep b o (I.ok.bs b o e).1 (I.ok.bs b o e).2 (I.ok.nofr e) (I.ok.noex b o e),I.base.free b o (I.ok.bs b o e).1 (I.ok.bs b o e).2 (I.ok.noex b o e)⟩
theorem Inv.bk (I:Inv X pins σ H s):∀ b o,X.base.get? b=some o->s.heap.get? b=some o:=fun b o e=>(I.bs b o e).1
theorem Inv.mod (I:Inv X pins σ H s):Mod X.K X.mg X.base:=I.ok.mod
theorem Inv.kIn (I:Inv X pins σ H s):X.K.In s.heap:=I.ok.mod.kin.keeps I.bk
theorem Inv.lt (I:Inv X pins σ H s):X.env.locals<s.heap.objs.size:=let ⟨_,hn,_⟩:=I.loc;hn.lt
theorem Inv.sz (I:Inv X pins σ H s):X.s_0.heap.objs.size<=s.heap.objs.size:=Nat.le_trans I.ok.above (Nat.le_of_lt I.lt)
theorem Inv.nofs (I:Inv X pins σ H s) {a:Addr} (h:s.heap.objs.size<=a):a∉X.fs:=fun hb=>by
 obtain ⟨_,o,ho,_⟩:=I.ok.funs.mem hb
 exact absurd (Nat.lt_of_lt_of_le (Heap.lt_size ho) (Nat.le_trans I.sz h)) (Nat.lt_irrefl _)
theorem Inv.cne (I:Inv X pins σ H s):∀ x c,X.env.cells.lookup x=some c->c≠X.env.locals:=fun x c e z=>by
 obtain ⟨v,o,ho,hd⟩:=I.cell x c e
 obtain ⟨m,⟨o',es,ep,ho',hd',_⟩,_⟩:=I.loc
 rw [z,ho'] at ho;cases ho;rw [hd'] at hd;cases hd
theorem Inv.funs (I:Inv X pins σ H s):s.heap.FunFrames X.base X.outer:=by
 have all:∀ (l:List Env),(∀ b∈frs l,b∈X.fs)->X.s_0.heap.FunFrames X.base l->s.heap.FunFrames X.base l:=by
  intro l
  induction l with
  | nil=>intro _ _;trivial
  | cons env r ih=>
   intro hs hl
   obtain ⟨hk,⟨L,o,hf,hn,ho,hd⟩,hr⟩:=hl
   have hL:L∈X.fs:=hs L (by unfold frs;rw [List.filterMap_cons,hf];exact List.mem_cons_self)
   obtain ⟨sl,e⟩:=I.base.slot L o ho (I.ok.frf L hL) hL fun z=>I.ok.exfs L z hL
   exact ⟨hk,⟨L,_,hf,hn,e,hd⟩,ih (fun b hb=>hs b (by unfold frs;rw [List.filterMap_cons,hf];exact List.mem_cons_of_mem _ hb)) hr⟩
 exact all X.outer (fun _ hb=>hb) I.ok.funs
theorem Inv.stack (I:Inv X pins σ H s):s.heap.FunFrames X.base X.stack:=by
 rcases I.ok.stk with e | ⟨e,hf⟩
 ·rw [e];exact I.funs
 ·rw [e]
  obtain ⟨m,hn,_⟩:=I.loc
  refine .cons (by rw [I.ok.kind];decide) hf hn ?_ I.funs
  exact Heap.get?_none_of_le (Nat.le_trans I.ok.bsz I.ok.above)
theorem Inv.stkSub (I:Inv X pins σ H s):∀ b∈frs X.stack,b∈X.env.locals :: X.fs:=fun b hb=>by
 rcases I.ok.stk with e | ⟨e,hf⟩
 ·rw [e] at hb;exact List.mem_cons_of_mem _ hb
 ·rw [e] at hb
  unfold frs at hb
  rw [List.filterMap_cons,hf] at hb
  exact hb
theorem Inv.stkFree (I:Inv X pins σ H s):∀ b∈frs X.stack,H b=none:=fun b hb=>by
 rcases List.mem_cons.mp (I.stkSub b hb) with e | hb
 ·rw [e];exact I.free
 ·obtain ⟨_,o,ho,_⟩:=I.ok.funs.mem hb
  exact I.base.free b o ho (I.ok.frf b hb) fun z=>I.ok.exfs b z hb
theorem Inv.step {g':Array GenState} {t':Nat} {d':Drawn} {ch:List Addr} (I:Inv X pins σ H s)
  (hch:∀ b∈ch,(b∈X.ex\/X.s_0.heap.objs.size<=b)/\b≠X.env.locals/\(∀ x c,X.env.cells.lookup x=some c->c≠b)/\∀ p∈X.pn++pins,p.1≠b)
  (keep:∀ b o,b≠X.env.locals->b∉X.fs->b∉ch->s.heap.get? b=some o->H b=none->h'.get? b=some o)
  (slot:∀ b o,b≠X.env.locals->b∈X.fs->b∉ch->s.heap.get? b=some o->H b=none->∃ sl,h'.get? b=some {o with slots:=sl}) (free:∀ b o,b∉ch->s.heap.get? b=some o->H b=none->H' b=none)
  (there:∀ b o,b∉ch->s.heap.get? b=some o->∃ o',h'.get? b=some o')
  (tups:∀ b xs,H b=some (.tup xs)->H' b=some (.tup xs)) (frzs:∀ b o u,H b=some (.frz o u)->H' b=some (.frz o u)) (tbls:∀ b ps,H b=some (.tbl ps)->∃ more,H' b=some (.tbl (ps++more)))
  (ns:∀ m,s.heap.Ns X.env.locals m->h'.Ns X.env.locals m) (hok:HOk X.prog X.w H' h') (hg:AllBare g') :
  Inv X pins σ H' {s with heap:=h',gens:=g',drawn:=d',toks:=t'}:=by
 have neL:∀ b o,X.s_0.heap.get? b=some o->b≠X.env.locals:=fun b o e=>Nat.ne_of_lt (Nat.lt_of_lt_of_le (Heap.lt_size e) I.ok.above)
 have neC:∀ b o,X.s_0.heap.get? b=some o->b∉X.ex->b∉ch:=fun b o e hx hb=>by
  rcases (hch b hb).1 with z | z
  ·exact hx z
  ·exact absurd (Nat.lt_of_lt_of_le (Heap.lt_size e) z) (Nat.lt_irrefl _)
 have cellK:∀ x c,X.env.cells.lookup x=some c->∀ v,s.heap.IsCell c v->h'.IsCell c v:=fun x c e v ⟨o,ho,hd⟩=>by
  have nch:c∉ch:=fun z=>(hch c z).2.2.1 x c e rfl
  by_cases hc:c∈X.fs
  ·obtain ⟨sl,q⟩:=slot c o (I.cne x c e) hc nch ho (I.freeC x c e)
   exact ⟨_,q,hd⟩
  ·exact ⟨o,keep c o (I.cne x c e) hc nch ho (I.freeC x c e),hd⟩
 refine ⟨I.ok,I.os,hg,⟨fun b o e n hb hx=>?_,fun b o e n hb hx=>?_,fun b o e n hx=>?_,fun b o e hx=>?_,fun b xs e=>tups b xs (I.base.tups b xs e),fun b o xs e=>frzs b o xs (I.base.frzs b o xs e),fun b ps e=>?_⟩,?_,fun x c e=>?_,?_,fun x c e=>?_,fun p hp=>?_,hok,I.len⟩
 ·exact keep b o (neL b o e) hb (neC b o e hx) (I.base.keep b o e n hb hx) (I.base.free b o e n hx)
 ·obtain ⟨sl,e1⟩:=I.base.slot b o e n hb hx
  obtain ⟨sl',e2⟩:=slot b _ (neL b o e) hb (neC b o e hx) e1 (I.base.free b o e n hx)
  exact ⟨sl',e2⟩
 ·obtain ⟨o',e1⟩:=I.base.there b o e hx
  exact free b o' (neC b o e hx) e1 (I.base.free b o e n hx)
 ·obtain ⟨o',e1⟩:=I.base.there b o e hx
  exact there b o' (neC b o e hx) e1
 ·obtain ⟨m1,e1⟩:=I.base.tbls b ps e
  obtain ⟨m2,e2⟩:=tbls b _ e1
  exact ⟨m1++m2,by rw [e2,Array.append_assoc]⟩
 ·obtain ⟨m,hn,hl⟩:=I.loc
  refine ⟨m,ns m hn,fun i x v e1 e2 e3=>?_⟩
  obtain ⟨u,r,l⟩:=hl i x v e1 e2 e3
  refine ⟨u,r,?_⟩
  rcases l with l | ⟨k,c,e,z⟩
  ·exact .inl l
  ·exact .inr ⟨k,c,e,cellK x c e _ z⟩
 ·obtain ⟨v,z⟩:=I.cell x c e
  exact ⟨v,cellK x c e v z⟩
 ·obtain ⟨m,⟨o,_,_,ho,_⟩,_⟩:=I.loc
  exact free _ o (fun z=>(hch _ z).2.1 rfl) ho I.free
 ·obtain ⟨v,o,ho,hd⟩:=I.cell x c e
  exact free c o (fun z=>(hch c z).2.2.1 x c e rfl) ho (I.freeC x c e)
 ·obtain ⟨e,n,ne,nf,d⟩:=I.pin p hp
  have nch:p.1∉ch:=fun z=>(hch p.1 z).2.2.2 p hp rfl
  exact ⟨keep p.1 p.2 ne nf nch e n,free p.1 p.2 nch e n,ne,nf,d⟩
theorem Inv.un {t':Nat} (I:Inv X pins σ H s) (u:Un X.fs [] H H' s.heap h') (hok:HOk X.prog X.w H' h'):Inv X pins σ H' {s with heap:=h',toks:=t'}:=by
 obtain ⟨m,⟨o,es,ep,ho,r⟩,_⟩:=id I.loc
 obtain ⟨sl,hL⟩:=u.any ho I.free (by simp)
 exact I.step (g':=s.gens) (d':=s.drawn) (ch:=[]) (fun _ z=>nomatch z) (fun b o _ hb _ e n=>u.keep b o e n hb (by simp)) (fun b o _ hb _ e n=>u.slot b o e n hb (by simp)) (fun b o _ e n=>u.free b o e n (by simp)) (fun b o _ e=>u.there b o e (by simp)) u.tups u.frzs u.tbls (fun m' hm=>by
  obtain ⟨o',es',ep',ho',r'⟩:=hm
  rw [ho] at ho';cases ho'
  exact ⟨_,es',ep',hL,r'⟩) hok I.bare
theorem Inv.call {g':Array GenState} {t':Nat} {d':Drawn} {ch:List Addr} (I:Inv X pins σ H s) (u:Un (frs X.stack) ch H H' s.heap h') (hok:HOk X.prog X.w H' h') (hg:AllBare g')
  (hch:∀ b∈ch,(b∈X.ex\/X.s_0.heap.objs.size<=b)/\b≠X.env.locals/\(∀ x c,X.env.cells.lookup x=some c->c≠b)/\∀ p∈X.pn++pins,p.1≠b) :
  Inv X pins σ H' {s with heap:=h',gens:=g',drawn:=d',toks:=t'}:=by
 obtain ⟨m,⟨o,es,ep,ho,r⟩,_⟩:=id I.loc
 obtain ⟨sl,hL⟩:=u.any ho I.free fun z=>(hch _ z).2.1 rfl
 exact I.step (ch:=ch) hch (fun b o hL hb hc e n=>u.keep b o e n (fun z=>(List.mem_cons.mp (I.stkSub b z)).elim hL hb) hc) (fun b o _ _ hc e n=>u.any e n hc) (fun b o hc e n=>u.free b o e n hc) (fun b o hc e=>u.there b o e hc) u.tups u.frzs u.tbls (fun m' hm=>by
  obtain ⟨o',es',ep',ho',r'⟩:=hm
  rw [ho] at ho';cases ho'
  exact ⟨_,es',ep',hL,r'⟩) hok hg
theorem Inv.turned {t':Nat} {it:Addr} (I:Inv X pins σ H s) (k:∀ b o,b≠it->s.heap.get? b=some o->h'.get? b=some o) (hn:H it=none) (hL:it≠X.env.locals)
  (h1:it∈X.ex\/X.s_0.heap.objs.size<=it) (h2:∀ x c,X.env.cells.lookup x=some c->c≠it) (h3:∀ p∈X.pn++pins,p.1≠it):Inv X pins σ H {s with heap:=h',toks:=t'}:=by
 have nit:∀ b u,H b=some u->b≠it:=fun b u e z=>by rw [z,hn] at e;cases e
 refine I.step (g':=s.gens) (d':=s.drawn) (ch:=[it]) (fun b hb=>?_) (fun b o _ _ hc e _=>k b o (fun z=>hc (by simp [z])) e) (fun b o _ _ hc e _=>⟨o.slots,k b o (fun z=>hc (by simp [z])) e⟩) (fun _ _ _ _ n=>n)
  (fun b o hc e=>⟨o,k b o (fun z=>hc (by simp [z])) e⟩) (fun _ _ e=>e) (fun _ _ _ e=>e) (fun b ps e=>⟨#[],by rw [e];simp⟩) (fun m hm=>?_) (fun b u e=>?_) I.bare
 ·have e:b=it:=by simpa using hb
  subst e
  exact ⟨h1,hL,h2,h3⟩
 ·obtain ⟨o,es,ep,ho,r⟩:=hm
  exact ⟨o,es,ep,k _ o (Ne.symm hL) ho,r⟩
 ·refine (I.hok b u e).stay (fun c v hc q=>k c v ?_ q) (fun _ q=>q) fun _ _ q=>q
  rcases hc with z | z
  ·rw [z];exact nit b u e
  ·exact nit c _ z
theorem Inv.tok (I:Inv X pins σ H s) (t:Nat):Inv X pins σ H {s with toks:=t}:=I.un (h':=s.heap) (t':=t) Un.refl I.hok
theorem Inv.kept {t':Nat} (I:Inv X pins σ H s) (k:∀ b u,s.heap.get? b=some u->h'.get? b=some u):Inv X pins σ H {s with heap:=h',toks:=t'}:=I.un (Un.kept k) (I.hok.kept k)
theorem Inv.laid {a:Addr} {o:HO} {t':Nat} (I:Inv X pins σ H s) (k:∀ b u,s.heap.get? b=some u->h'.get? b=some u) (hp:s.heap.objs.size<=a) (new:ObjOk X.prog X.w (upd H a o) h' a o) :
  Inv X pins σ (upd H a o) {s with heap:=h',toks:=t'}:=I.un (Un.laid k hp (I.hok.fresh hp)) (I.hok.laid k hp new)
theorem Inv.write {x e:Addr} {o:HO} {t':Nat} (I:Inv X pins σ H s) (mu:Mut (H x)) (he:e=x\/H e=some (.own x)) (k:∀ b u,b≠e->s.heap.get? b=some u->h'.get? b=some u) (heo:∃ u,h'.get? e=some u)
  (new:ObjOk X.prog X.w (upd H x o) h' x o):Inv X pins σ (upd H x o) {s with heap:=h',toks:=t'}:=I.un (Un.write mu he k heo) (I.hok.write mu he k heo new)
theorem Inv.weak {σ':List (Option V)} (I:Inv X pins σ H s) (hl:σ'.length=σ.length) (w:∀ (i:Nat) v,σ'[i]?=some (some v)->σ[i]?=some (some v)):Inv X pins σ' H s:=
 ⟨I.ok,I.os,I.bare,I.base,let ⟨m,hn,hl'⟩:=I.loc;⟨m,hn,fun i x v e1 e2 e3=>hl' i x v e1 (w i v e2) e3⟩,I.cell,I.free,I.freeC,I.pin,I.hok,hl.trans I.len⟩
theorem Inv.pins_of {pins':List (Addr × Obj)} (I:Inv X pins σ H s) (h:∀ p∈pins',s.heap.get? p.1=some p.2/\H p.1=none/\p.1≠X.env.locals/\p.1∉X.fs/\∀ v,p.2.data≠.cell v):Inv X pins' σ H s:=
 ⟨I.ok,I.os,I.bare,I.base,I.loc,I.cell,I.free,I.freeC,fun p hp=>(List.mem_append.mp hp).elim (fun z=>I.pin p (List.mem_append_left _ z)) (h p),I.hok,I.len⟩
theorem nodup_ix {N:List Str} (hN:N.Nodup) {i j:Nat} {x:Str} (a:N[i]?=some x) (b:N[j]?=some x):i=j:=by
 obtain ⟨h1,e1⟩:=List.getElem?_eq_some_iff.mp a
 obtain ⟨h2,e2⟩:=List.getElem?_eq_some_iff.mp b
 exact (List.getElem_inj hN).mp (e1.trans e2.symm)
theorem store_ok2 {M:Model} {A:Around} {E:Value->Shared->Prop} {i:Nat} {x:Str} {v:V} {u:Value} {Q:Unit->Shared->Prop} (I:Inv X pins σ H s) (hN:X.N.Nodup) (hi:X.N[i]?=some x) (hx:Loc X.env.scope x) (r:RelV v u)
  (h:∀ s',Inv X pins (σ.set i (some v)) H s'->(∃ a,Heap.SameBut a s.heap s'.heap/\(a=X.env.locals\/X.env.cells.lookup x=some a))->Q () s') (hf:X.fn x=true\/X.env.scope.names.lookup x=some .local:=by first | exact .inl rfl | exact .inr rfl | assumption):wpAny M A (storeName X.env x u) Q E s:=by
 obtain ⟨m,hn,hl⟩:=id I.loc
 have hcls:(X.env.scope.kind==.class||(X.env.scope.kind==.module&&X.env.locals != X.env.globals))=false:=by rw [I.ok.kind];rfl
 have hiσ:i<σ.length:=by rw [I.len];exact (List.getElem?_eq_some_iff.mp hi).1
 have cne:=I.cne
 have tracked:∀ {a:Addr} {h':Heap},(∃ o,s.heap.get? a=some o/\H a=none)->Heap.SameBut a s.heap h'->HOk X.prog X.w H h':=fun {a h'} ha hs b ob e=>by
  obtain ⟨_,_,hfree⟩:=ha
  refine (I.hok b ob e).stay (fun c w' hc q=>(hs.2 c ?_).trans q) (fun _ q=>q) fun _ _ q=>q
  rintro rfl
  rcases hc with rfl | hc
  ·rw [hfree] at e;cases e
  ·rw [hfree] at hc;cases hc
 rcases hx with hk | hk
 ·refine wpAny_storeName_local hk hn (fun h' hn' hs=>?_) hcls
  obtain ⟨oL,_,_,hoL,_⟩:=id hn
  refine h _ ⟨I.ok,I.os,I.bare,⟨fun b o e n hb hx=>?_,fun b o e n hb hx=>?_,I.base.free,fun b o e hx=>?_,I.base.tups,I.base.frzs,I.base.tbls⟩,⟨_,hn',fun j y v' e1 e2 e3=>?_⟩,fun y c e=>?_,I.free,I.freeC,fun p hp=>?_,tracked ⟨oL,hoL,I.free⟩ hs,by simpa using I.len⟩ ⟨_,hs,.inl rfl⟩
  ·exact (hs.2 b (Nat.ne_of_lt (Nat.lt_of_lt_of_le (Heap.lt_size e) I.ok.above))).trans (I.base.keep b o e n hb hx)
  ·obtain ⟨sl,e1⟩:=I.base.slot b o e n hb hx
   exact ⟨sl,(hs.2 b (Nat.ne_of_lt (Nat.lt_of_lt_of_le (Heap.lt_size e) I.ok.above))).trans e1⟩
  ·obtain ⟨o',e1⟩:=I.base.there b o e hx
   exact ⟨o',(hs.2 b (Nat.ne_of_lt (Nat.lt_of_lt_of_le (Heap.lt_size e) I.ok.above))).trans e1⟩
  ·by_cases hj:j=i
   ·subst hj
    rw [hi] at e1;cases e1
    rw [List.getElem?_set_self hiσ] at e2
    cases e2
    exact ⟨u,r,.inl ⟨hk,by simp⟩⟩
   ·rw [List.getElem?_set_ne (Ne.symm hj)] at e2
    obtain ⟨u',r',q⟩:=hl j y v' e1 e2 e3
    refine ⟨u',r',?_⟩
    rcases q with ⟨k,e⟩ | ⟨k,c,e,z⟩
    ·refine .inl ⟨k,?_⟩
     have:y≠x:=fun e=>hj (nodup_ix hN e1 (e ▸ hi))
     simp [this,e]
    ·exact .inr ⟨k,c,e,z.sameBut hs (cne y c e)⟩
  ·obtain ⟨w',z⟩:=I.cell y c e
   exact ⟨w',z.sameBut hs (cne y c e)⟩
  ·obtain ⟨e,n,ne,nf,d⟩:=I.pin p hp
   exact ⟨(hs.2 p.1 ne).trans e,n,ne,nf,d⟩
 ·have hfn:X.fn x=true:=by
   rcases hf with z | z
   ·exact z
   ·rw [z] at hk;cases hk
  obtain ⟨c,hc⟩:=I.ok.has x (.inl hk)
  obtain ⟨w',z⟩:=I.cell x c hc
  refine wpAny_storeName_cell I.ok.kind hk hc z (fun h' hc' hs=>?_)
  obtain ⟨oc,hoc,hocd⟩:=id z
  refine h {s with heap:=h'} ⟨I.ok,I.os,I.bare,⟨fun b o e n hb hx=>?_,fun b o e n hb hx=>?_,I.base.free,fun b o e hx=>?_,I.base.tups,I.base.frzs,I.base.tbls⟩,⟨m,hn.sameBut hs (Ne.symm (cne x c hc)),fun j y v' e1 e2 e3=>?_⟩,fun y c' e=>?_,I.free,I.freeC,fun p hp=>?_,tracked ⟨oc,hoc,I.freeC x c hc⟩ hs,by simpa using I.len⟩ ⟨c,hs,.inr hc⟩
  ·exact (hs.2 b (Nat.ne_of_lt (Nat.lt_of_lt_of_le (Heap.lt_size e) (I.ok.cab x c hfn hc)))).trans (I.base.keep b o e n hb hx)
  ·obtain ⟨sl,e1⟩:=I.base.slot b o e n hb hx
   exact ⟨sl,(hs.2 b (Nat.ne_of_lt (Nat.lt_of_lt_of_le (Heap.lt_size e) (I.ok.cab x c hfn hc)))).trans e1⟩
  ·obtain ⟨o',e1⟩:=I.base.there b o e hx
   exact ⟨o',(hs.2 b (Nat.ne_of_lt (Nat.lt_of_lt_of_le (Heap.lt_size e) (I.ok.cab x c hfn hc)))).trans e1⟩
  ·by_cases hj:j=i
   ·subst hj
    rw [hi] at e1;cases e1
    rw [List.getElem?_set_self hiσ] at e2
    cases e2
    exact ⟨u,r,.inr ⟨.inl hk,c,hc,hc'⟩⟩
   ·rw [List.getElem?_set_ne (Ne.symm hj)] at e2
    obtain ⟨u',r',q⟩:=hl j y v' e1 e2 e3
    refine ⟨u',r',?_⟩
    rcases q with q | ⟨k,c',e,z'⟩
    ·exact .inl q
    ·refine .inr ⟨k,c',e,z'.sameBut hs ?_⟩
     rintro rfl
     exact hj (nodup_ix hN e1 (I.ok.inj _ _ _ e hc ▸ hi))
  ·by_cases hcc:c'=c
   ·subst hcc;exact ⟨_,hc'⟩
   ·obtain ⟨w2,z2⟩:=I.cell y c' e
    exact ⟨w2,z2.sameBut hs hcc⟩
  ·obtain ⟨e,n,ne,nf,d⟩:=I.pin p hp
   refine ⟨(hs.2 p.1 ?_).trans e,n,ne,nf,d⟩
   intro q
   rw [q,hoc] at e
   have q':oc=p.2:=Option.some.inj e
   exact d w' (by rw [<-q'];exact hocd)
theorem store_ok {M:Model} {A:Around} {E:Value->Shared->Prop} {i:Nat} {x:Str} {v:V} {u:Value} {Q:Unit->Shared->Prop} (I:Inv X pins σ H s) (hN:X.N.Nodup) (hi:X.N[i]?=some x) (hx:Loc X.env.scope x) (r:RelV v u)
  (h:∀ s',Inv X pins (σ.set i (some v)) H s'->Q () s') (hf:X.fn x=true\/X.env.scope.names.lookup x=some .local:=by first | exact .inl rfl | exact .inr rfl | assumption):wpAny M A (storeName X.env x u) Q E s:=
 store_ok2 I hN hi hx r (fun s' I' _=>h s' I') hf
theorem Inv.call' {s':Shared} {ch:List Addr} (I:Inv X pins σ H s) (ho:s'.os=s.os) (u:Un (frs X.stack) ch H H' s.heap s'.heap) (hok:HOk X.prog X.w H' s'.heap) (hg:AllBare s'.gens)
  (hch:∀ b∈ch,(b∈X.ex\/X.s_0.heap.objs.size<=b)/\b≠X.env.locals/\(∀ x c,X.env.cells.lookup x=some c->c≠b)/\∀ p∈X.pn++pins,p.1≠b):Inv X pins σ H' s':=by
 obtain ⟨h',g',d',t',o'⟩:=s'
 have e:o'=s.os:=ho
 subst e
 exact I.call (g':=g') (t':=t') (d':=d') u hok hg hch
end
abbrev XK:=Value->Option Addr->Hp->Prop
abbrev St:=List (Option V)
abbrev VK:=V->Hp->Prop
abbrev TE:=St->Hp->VK->Prop
abbrev TT:=St->Hp->(Bool->Hp->Prop)->Prop
abbrev TA:=St->Hp->(List V->Hp->Prop)->Prop
structure Ends where
 nx:St->Hp->Prop
 rt:VK
 bk:St->Hp->Prop:=fun _ _=>False
 ct:St->Hp->Prop:=fun _ _=>False
abbrev TS:=Ends->St->Hp->Prop
def EP (X:Cx) (pins:List (Addr × Obj)) (σ:St) (Q:VK) (u:Value) (s':Shared):Prop:=∃ v H',Inv X pins σ H' s'/\RelV v u/\Q v H'
def TP (X:Cx) (pins:List (Addr × Obj)) (σ:St) (Q:Bool->Hp->Prop) (b:Bool) (s':Shared):Prop:=∃ H',Inv X pins σ H' s'/\Q b H'
def AP (X:Cx) (pins:List (Addr × Obj)) (σ:St) (Q:List V->Hp->Prop) (us:List Value) (s':Shared):Prop:=∃ vs H',Inv X pins σ H' s'/\Vals vs us/\Q vs H'
def SP (X:Cx) (pins:List (Addr × Obj)) (D:Ends) (f:Flow) (s':Shared):Prop:=
 match f with
 | .next=>∃ σ' H',Inv X pins σ' H' s'/\D.nx σ' H'
 | .brk=>∃ σ' H',Inv X pins σ' H' s'/\D.bk σ' H'
 | .cont=>∃ σ' H',Inv X pins σ' H' s'/\D.ct σ' H'
 | .ret u=>∃ v σ' H',Inv X pins σ' H' s'/\RelV v u/\D.rt v H'
def PE (X:Cx) (e:Expr) (t:TE):Prop:=
 ∀ (pins:List (Addr × Obj)) (s:Shared) (σ:St) (H:Hp) (Q:VK),Inv X pins σ H s->t σ H Q->wpAny (model X.prog X.w) X.A (eval e X.env) (EP X pins σ Q) X.xe s
def PT (X:Cx) (e:Expr) (t:TT):Prop:=
 ∀ (pins:List (Addr × Obj)) (s:Shared) (σ:St) (H:Hp) (Q:Bool->Hp->Prop),Inv X pins σ H s->t σ H Q->wpAny (model X.prog X.w) X.A (isTrue e X.env (eval e X.env)) (TP X pins σ Q) X.xe s
def PW (X:Cx) (e:Expr) (t:TT):Prop:=
 ∀ (whole:Sem Value) (pins:List (Addr × Obj)) (s:Shared) (σ:St) (H:Hp) (Q:Bool->Hp->Prop),Inv X pins σ H s->t σ H Q->wpAny (model X.prog X.w) X.A (isTrue e X.env whole) (TP X pins σ Q) X.xe s
theorem PW.pt {X:Cx} {e:Expr} {t:TT} (h:PW X e t):PT X e t:=h _
def PA (X:Cx) (es:List Expr) (t:TA):Prop:=
 ∀ (pos:Pos) (pins:List (Addr × Obj)) (s:Shared) (σ:St) (H:Hp) (Q:List V->Hp->Prop),Inv X pins σ H s->t σ H Q->wpAny (model X.prog X.w) X.A (spliced (backTo pos (starEach es X.env))) (AP X pins σ Q) X.xe s
def PS (X:Cx) (st:Stmt) (t:TS):Prop:=
 ∀ (pins:List (Addr × Obj)) (s:Shared) (σ:St) (H:Hp) (D:Ends),Inv X pins σ H s->t D σ H->wpAny (model X.prog X.w) X.A (exec st X.env) (SP X pins D) X.xe s
def PSs (X:Cx) (st:List Stmt) (t:TS):Prop:=
 ∀ (pins:List (Addr × Obj)) (s:Shared) (σ:St) (H:Hp) (D:Ends),Inv X pins σ H s->t D σ H->wpAny (model X.prog X.w) X.A (execs st X.env) (SP X pins D) X.xe s
theorem thn {α:Type} {t:Sem α} {Q Q':α->Shared->Prop} {M:Model} {A:Around} {E:Value->Shared->Prop} {s:Shared} (h:wpAny M A t Q E s) (hQ:∀ a s,Q a s->Q' a s):wpAny M A t Q' E s:=wpAny_mono h hQ fun _ _ x=>x
end L2
namespace L2
open PySem PySem.Spec PyProof.Rows
section
variable {X:Cx}
theorem bin {a b:Expr} {ta tb:TE} (ha:PE X a ta) (hb:PE X b tb) {pins:List (Addr × Obj)} {s:Shared} {σ:St} {H:Hp} {R:V->V->Hp->Prop} (I:Inv X pins σ H s) (h:ta σ H fun x H1=>tb σ H1 fun y H2=>R x y H2)
  {α:Type} {Q:α->Shared->Prop} {f:Value->Value->Sem α}
  (hf:∀ v u s2 x y H2,Inv X pins σ H2 s2->RelV x v->RelV y u->R x y H2->wpAny (model X.prog X.w) X.A (f v u) Q X.xe s2) :
  wpAny (model X.prog X.w) X.A (eval a X.env) (fun v s₁=>wpAny (model X.prog X.w) X.A (eval b X.env) (fun u s₂=>wpAny (model X.prog X.w) X.A (f v u) Q X.xe s₂) X.xe s₁) X.xe s:=by
 refine thn (ha pins s σ H _ I h) fun v s1 ⟨x,H1,I1,r1,q1⟩=>?_
 refine thn (hb pins s1 σ H1 _ I1 q1) fun u s2 ⟨y,H2,I2,r2,q2⟩=>?_
 exact hf v u s2 x y H2 I2 r1 r2 q2
def tVar (i:Nat):TE:=fun σ H Q=>∃ v,σ[i]?=some (some v)/\Q v H
def tC (v:V):TE:=fun _ H Q=>Q v H
theorem pe_var {i:Nat} {x:Str} {pos:Pos} (hN:X.N[i]?=some x) (hv:Vis X.env.scope x) (hd:(x==("__debug__" : Str))=false:=by decide) (hcd:(x==("__classdict__" : Str))=false:=by decide):PE X (.Name x pos) (tVar i):=by
 intro pins s σ H Q I h
 obtain ⟨v,e,h⟩:=h
 obtain ⟨m,hn,hl⟩:=I.loc
 obtain ⟨u,r,l⟩:=hl i x v hN e hv
 have fin:EP X pins σ Q u s:=⟨v,H,I,r,h⟩
 rcases l with ⟨hk,hm⟩ | ⟨hk,c,hc,hcell⟩
 ·exact wpAny_Name (wpAny_loadName_local I.ok.kind hk hn hm fin) hd
 ·rcases hk with hk | hk
  ·exact wpAny_Name (wpAny_loadName_cell I.ok.kind hk hc hcell fin) hd
  ·exact wpAny_Name (wpAny_loadName_free I.ok.kind hk hc hcell fin hcd) hd
theorem pe_int {i j pos}:PE X (.Constant (.int i) j pos) (tC (.int i)):=fun _ _ _ H _ I h=>wpAny_Constant_int ⟨.int i,H,I.tok _,⟨_,rfl⟩,h⟩
theorem pe_bl {b j pos}:PE X (.Constant (.bool b) j pos) (tC (.bl b)):=fun _ _ _ H _ I h=>Constant_bool ⟨.bl b,H,I,rfl,h⟩
theorem pe_non {j pos}:PE X (.Constant .none j pos) (tC .non):=fun _ _ _ H _ I h=>Constant_none ⟨.non,H,I,rfl,h⟩
def Gl (X:Cx) (x:Str):Prop:=X.env.kindOf x=some .globalImplicit
theorem ld_glob {E:Value->Shared->Prop} {pins:List (Addr × Obj)} {s:Shared} {σ:St} {H:Hp} {x:Str} {u:Value} {pos:Pos} {Q:Value->Shared->Prop} (I:Inv X pins σ H s) (hg:Gl X x) (hm:X.mg x=some u) (h:Q u s)
  (hd:(x==("__debug__" : Str))=false:=by decide):wpAny (model X.prog X.w) X.A (eval (.Name x pos) X.env) Q E s:=
 Calls.Name_function_global I.ok.kind hg (Calls.loadGlobal_global (by rw [I.ok.glob];exact I.mod.glob.keeps I.bk) hm h) hd
theorem ld_blt {E:Value->Shared->Prop} {pins:List (Addr × Obj)} {s:Shared} {σ:St} {H:Hp} {x:Str} {u:Value} {pos:Pos} {Q:Value->Shared->Prop} (I:Inv X pins σ H s) (hg:Gl X x) (hm:X.mg x=none) (hv:bootBuiltins x=some u) (h:Q u s)
  (hn:x ≠ "__name__":=by decide) (hd:(x==("__debug__" : Str))=false:=by decide):wpAny (model X.prog X.w) X.A (eval (.Name x pos) X.env) Q E s:=by
 obtain ⟨mb,h1,h2⟩:=I.mod.blt
 exact Calls.Name_function_global I.ok.kind hg (Calls.loadGlobal_builtin (by rw [I.ok.glob];exact I.mod.glob.keeps I.bk) hm (by rw [I.ok.blt];exact h1.keeps I.bk) ((h2 x hn).trans hv) h) hd
theorem pe_glob {x:Str} {v:V} {u:Value} {pos:Pos} (hg:Gl X x) (hm:X.mg x=some u) (r:RelV v u) (hd:(x==("__debug__" : Str))=false:=by decide):PE X (.Name x pos) (tC v):=
 fun _ _ _ H _ I h=>ld_glob I hg hm ⟨v,H,I,r,h⟩ hd
variable {a b:Expr} {ta tb:TE} {pos:Pos}
def PC (X:Cx) (op:CmpOp) (a b:Expr) (t:TE):Prop:=
 ∀ (pins:List (Addr × Obj)) (s:Shared) (σ:St) (H:Hp) (Q:VK),Inv X pins σ H s->t σ H Q ->
  wpAny (model X.prog X.w) X.A (eval a X.env) (fun v s₁=>wpAny (model X.prog X.w) X.A (eval b X.env) (fun u s₂=>wpAny (model X.prog X.w) X.A (compareOp op v u) (EP X pins σ Q) X.xe s₂) X.xe s₁) X.xe s
def tB (t:TE):TT:=fun σ H Q=>t σ H fun x H1=>∃ c,x=.bl c/\Q c H1
theorem pt_cmp {op:CmpOp} {t:TE} (h:PC X op a b t) (h1:behindInMarks op b=false:=by first | exact nobehind _ (by decide) (by decide) | rfl):PT X (.Compare a [op] [b] pos) (tB t):=by
 intro pins s σ H Q I hw
 refine wpAny_isTrue_Compare1 (thn (h pins s σ H _ I hw) fun v s1 h1=>thn h1 fun u s2 h2=>thn h2 fun c s3 ⟨x,H1,I1,r1,q1⟩=>?_) h1
 obtain ⟨d,rfl,q⟩:=q1
 cases r1
 exact wpAny_truthy_bool ⟨H1,I1,q⟩
theorem pt_val {e:Expr} {t:TE} (h:PE X e t) (he:∀ whole,isTrue e X.env whole=(do let v <-whole;standAt e.pos;holding [v] (truthy v)):=by intro _;rfl):PT X e (tB t):=by
 intro pins s σ H Q I hw
 refine isTrue_plain (thn (h pins s σ H _ I hw) fun v s1 ⟨x,H1,I1,r1,q1⟩=>?_) (he _)
 obtain ⟨d,rfl,q⟩:=q1
 cases r1
 exact wpAny_truthy_bool ⟨H1,I1,q⟩
variable {tA tB':TT} {rest:List Expr}
def tAnd (t u:TT):TT:=fun σ H Q=>t σ H fun c H1=>if c=true then u σ H1 Q else Q false H1
def tOr (t u:TT):TT:=fun σ H Q=>t σ H fun c H1=>if c=true then Q true H1 else u σ H1 Q
def tNot (t:TT):TT:=fun σ H Q=>t σ H fun c H1=>Q (!c) H1
theorem pw_and1 (ha:PT X a tA):PW X (.BoolOp .And [a] pos) tA:=by
 intro wh pins s σ H Q I h
 refine isTrue_and (thn (ha pins s σ H Q I h) fun c s1 e=>?_)
 cases c with
 | true=>exact isTrue_and_nil e
 | false=>exact e
theorem pw_or1 (ha:PT X a tA):PW X (.BoolOp .Or [a] pos) tA:=by
 intro wh pins s σ H Q I h
 refine isTrue_or (thn (ha pins s σ H Q I h) fun c s1 e=>?_)
 cases c with
 | false=>exact isTrue_or_nil e
 | true=>exact e
theorem pw_and (ha:PT X a tA) (hb:PW X (.BoolOp .And (b :: rest) pos) tB'):PW X (.BoolOp .And (a :: b :: rest) pos) (tAnd tA tB'):=by
 intro wh pins s σ H Q I h
 refine isTrue_and (thn (ha pins s σ H _ I h) fun c s1 ⟨H1,I1,q1⟩=>?_)
 cases c with
 | true=>exact hb wh pins s1 σ H1 Q I1 q1
 | false=>exact ⟨H1,I1,q1⟩
theorem pw_or (ha:PT X a tA) (hb:PW X (.BoolOp .Or (b :: rest) pos) tB'):PW X (.BoolOp .Or (a :: b :: rest) pos) (tOr tA tB'):=by
 intro wh pins s σ H Q I h
 refine isTrue_or (thn (ha pins s σ H _ I h) fun c s1 ⟨H1,I1,q1⟩=>?_)
 cases c with
 | true=>exact ⟨H1,I1,q1⟩
 | false=>exact hb wh pins s1 σ H1 Q I1 q1
theorem pt_not (ha:PT X a tA):PT X (.UnaryOp .Not a pos) (tNot tA):=by
 intro pins s σ H Q I h
 exact isTrue_not (ha pins s σ H (fun c H1=>Q (!c) H1) I h)
def tIf (t:TT) (ta tb:TE):TE:=fun σ H Q=>t σ H fun c H1=>if c=true then ta σ H1 Q else tb σ H1 Q
theorem pe_ifExp {c:Expr} (hc:PT X c tA) (ha:PE X a ta) (hb:PE X b tb):PE X (.IfExp c a b pos) (tIf tA ta tb):=by
 intro pins s σ H Q I h
 refine wpAny_IfExp (thn (hc pins s σ H _ I h) fun d s1 ⟨H1,I1,q1⟩=>?_)
 cases d with
 | true=>exact ha pins s1 σ H1 Q I1 q1
 | false=>exact hb pins s1 σ H1 Q I1 q1
end
end L2
namespace L2
open PySem PySem.Spec PyProof.Rows
def SqL (K:PySem.W.Frag) (H:Hp) (a:Addr) (xs:List V):Prop:=
 Rd H a (.lst xs) \/
  ∃ (o:Obj) (its:Array Value) (n:Nat),K.lookup a=some o/\o.cls=.type "list"/\o.dict=none/\o.data=.seq its n/\its.size<=sizeLine/\Vals xs its.toList
def SqT (K:PySem.W.Frag) (H:Hp) (a:Addr) (xs:List V):Prop:=
 Rd H a (.tup xs) \/
  ∃ (o:Obj) (its:Array Value) (n:Nat),K.lookup a=some o/\o.cls=.type "tuple"/\o.data=.seq its n/\its.size<=sizeLine/\Vals xs its.toList
def absV:Value->Option V
 | .none=>some .non
 | .bool b=>some (.bl b)
 | .int i _=>some (.int i)
 | .str x _=>some (.str x)
 | .bytes b _=>some (.byt b)
 | .float b _=>some (.flt b)
 | .ref a=>some (.ref a)
 | .type n=>some (.ty n)
 | _=>none
theorem RelV.abs {x:V} {u:Value} (r:RelV x u):absV u=some x:=by
 cases x with
 | non=>cases r;rfl
 | bl _=>cases r;rfl
 | int _=>obtain ⟨t,rfl⟩:=r;rfl
 | str _=>obtain ⟨t,rfl⟩:=r;rfl
 | byt _=>obtain ⟨t,rfl⟩:=r;rfl
 | flt _=>obtain ⟨t,rfl⟩:=r;rfl
 | ref _=>cases r;rfl
 | ty _=>cases r;rfl
theorem RelV.inj {x y:V} {u:Value} (r:RelV x u) (q:RelV y u):x=y:=Option.some.inj (r.abs.symm.trans q.abs)
theorem Vals.inj:∀ {xs ys:List V} {us:List Value},Vals xs us->Vals ys us->xs=ys
 | _,_,_,.nil,.nil=>rfl
 | _,_,_,.cons r t,.cons r' t'=>by rw [r.inj r',Vals.inj t t']
section
variable {X:Cx} {pins:List (Addr × Obj)} {σ:St} {H:Hp} {s:Shared} {a:Addr} {xs ys:List V}
theorem SqL.of {K:PySem.W.Frag} (h:H a=some (.lst xs)):SqL K H a xs:=.inl (.inl h)
theorem SqT.of {K:PySem.W.Frag} (h:H a=some (.tup xs)):SqT K H a xs:=.inl (.inl h)
theorem Inv.list (I:Inv X pins σ H s) (h:SqL X.K H a xs):∃ its:List Value,Vals xs its/\PlainL s.heap a its.toArray/\xs.length<=sizeLine:=by
 rcases h with h | ⟨o,its,n,hk,hc,hd,hs,hz,r⟩
 ·obtain ⟨z,its,n,r,e⟩:=h.ok I.hok
  exact ⟨its,r,⟨_,n,e,rfl,rfl,rfl⟩,z⟩
 ·refine ⟨its.toList,r,⟨o,n,I.kIn a o hk,hc,hd,by simpa using hs⟩,?_⟩
  have e:=r.length
  simp only [Array.length_toList] at e
  omega
theorem Inv.tuple (I:Inv X pins σ H s) (h:SqT X.K H a xs):∃ its:List Value,Vals xs its/\IsTup s.heap a its.toArray/\xs.length<=sizeLine:=by
 rcases h with h | ⟨o,its,n,hk,hc,hs,hz,r⟩
 ·obtain ⟨z,its,r,p⟩:=h.ok I.hok
  exact ⟨its,r,p,z⟩
 ·refine ⟨its.toList,r,⟨o,I.kIn a o hk,hc,n,by simpa using hs⟩,?_⟩
  have e:=r.length
  simp only [Array.length_toList] at e
  omega
theorem Inv.list_inj (I:Inv X pins σ H s) (h:SqL X.K H a xs) (h':SqL X.K H a ys):xs=ys:=by
 obtain ⟨its,r,⟨o,n,e,_,_,d⟩,_⟩:=I.list h
 obtain ⟨its',r',⟨o',n',e',_,_,d'⟩,_⟩:=I.list h'
 rw [e] at e';cases e'
 rw [d] at d'
 injection d' with d1 _
 have:its=its':=by simpa using congrArg Array.toList d1
 subst this
 exact r.inj r'
theorem Inv.tuple_inj (I:Inv X pins σ H s) (h:SqT X.K H a xs) (h':SqT X.K H a ys):xs=ys:=by
 obtain ⟨its,r,⟨o,e,_,n,d⟩,_⟩:=I.tuple h
 obtain ⟨its',r',⟨o',e',_,n',d'⟩,_⟩:=I.tuple h'
 rw [e] at e';cases e'
 rw [d] at d'
 injection d' with d1 _
 have:its=its':=by simpa using congrArg Array.toList d1
 subst this
 exact r.inj r'
end
section
variable {X:Cx} {st:Stmt} {rest:List Stmt} {t u:TS} {e:Expr} {te:TE} {pos:Pos}
def tNext:TS:=fun D σ H=>D.nx σ H
def tSeq (t u:TS):TS:=fun D σ H=>t {D with nx:=u D} σ H
theorem pss_nil:PSs X [] tNext:=fun _ _ σ H _ I h=>wpAny_execs_nil ⟨σ,H,I,h⟩
theorem pss_cons (h1:PS X st t) (h2:PSs X rest u):PSs X (st :: rest) (tSeq t u):=by
 intro pins s σ H D I h
 refine wpAny_execs_cons (thn (h1 pins s σ H {D with nx:=u D} I h) fun f s1 q=>?_)
 cases f with
 | next=>
  obtain ⟨σ',H',I',q⟩:=q
  exact h2 pins s1 σ' H' D I' q
 | ret v=>exact q
 | brk=>exact q
 | cont=>exact q
theorem pss_one (h1:PS X st t):PSs X [st] t:=by
 intro pins s σ H D I h
 refine wpAny_execs_cons (thn (h1 pins s σ H D I h) fun f s1 q=>?_)
 cases f with
 | next=>exact wpAny_execs_nil q
 | ret v=>exact q
 | brk=>exact q
 | cont=>exact q
theorem Inv.quiet {pins:List (Addr × Obj)} {σ:St} {H:Hp} {s:Shared} (I:Inv X pins σ H s):interactive X.env=false:=by simp [interactive,I.ok.kind]
def tDrop (te:TE):TS:=fun D σ H=>te σ H fun _ H1=>D.nx σ H1
theorem ps_expr (he:PE X e te) (hs:swapsWith e none pos.line X.env=pure false:=by rfl):PS X (.Expr e pos) (tDrop te):=by
 intro pins s σ H D I h
 exact wpAny_Expr_any (thn (he pins s σ H _ I h) fun v s1 ⟨x,H1,I1,r1,q1⟩=>⟨σ,H1,I1,q1⟩) I.quiet hs
def tRet (te:TE):TS:=fun D σ H=>te σ H D.rt
theorem ps_ret (he:PE X e te):PS X (.Return (some e) pos) (tRet te):=by
 intro pins s σ H D I h
 exact wpAny_Return_some (thn (he pins s σ H _ I h) fun v s1 ⟨x,H1,I1,r1,q1⟩=>⟨x,σ,H1,I1,r1,q1⟩)
def tIfS (c:TT) (t u:TS):TS:=fun D σ H=>c σ H fun b H1=>if b=true then t D σ H1 else u D σ H1
theorem ps_if {c:Expr} {a b:List Stmt} {tc:TT} (hc:PT X c tc) (ha:PSs X a t) (hb:PSs X b u):PS X (.If c a b pos) (tIfS tc t u):=by
 intro pins s σ H D I h
 refine wpAny_If (thn (hc pins s σ H _ I h) fun d s1 ⟨H1,I1,q1⟩=>?_)
 cases d with
 | true=>exact ha pins s1 σ H1 D I1 q1
 | false=>exact hb pins s1 σ H1 D I1 q1
end
abbrev TG:=V->St->Hp->(St->Hp->Prop)->Prop
abbrev TGs:=List V->St->Hp->(St->Hp->Prop)->Prop
def PG (X:Cx) (target:Expr) (t:TG):Prop:=
 ∀ (pins:List (Addr × Obj)) (s:Shared) (σ:St) (H:Hp) (v:V) (u:Value) (Q:St->Hp->Prop),Inv X pins σ H s->RelV v u->t v σ H Q ->
  wpAny (model X.prog X.w) X.A (assign target X.env u) (fun _ s'=>∃ σ' H',Inv X pins σ' H' s'/\Q σ' H') X.xe s
def PGs (X:Cx) (ts:List Expr) (t:TGs):Prop:=
 ∀ (pins:List (Addr × Obj)) (s:Shared) (σ:St) (H:Hp) (vs:List V) (us:List Value) (Q:St->Hp->Prop),Inv X pins σ H s->Vals vs us->t vs σ H Q ->
  wpAny (model X.prog X.w) X.A (assignInOrder ((assignEach ts X.env).map (·.2)) us) (fun _ s'=>∃ σ' H',Inv X pins σ' H' s'/\Q σ' H') X.xe s
abbrev TSet:=V->V->V->Hp->(Hp->Prop)->Prop
def PSet (X:Cx) (t:TSet):Prop:=
 ∀ (pins:List (Addr × Obj)) (s:Shared) (σ:St) (H:Hp) (o i v:V) (ov iv u:Value) (Q:Hp->Prop),Inv X pins σ H s->RelV o ov->RelV i iv->RelV v u->t o i v H Q ->
  wpAny (model X.prog X.w) X.A (setItem ov iv u) (fun _ s'=>∃ H',Inv X pins σ H' s'/\Q H') X.xe s
section
variable {X:Cx} {pos:Pos}
def gName (i:Nat):TG:=fun v σ H Q=>Q (σ.set i (some v)) H
theorem pg_name {i:Nat} {x:Str} (hN:X.N.Nodup) (hi:X.N[i]?=some x) (hx:Loc X.env.scope x) (hf:X.fn x=true\/X.env.scope.names.lookup x=some .local:=by first | exact .inl rfl | exact .inr rfl | assumption):PG X (.Name x pos) (gName i):=by
 intro pins s σ H v u Q I r h
 exact wpAny_assign_Name (store_ok I hN hi hx r (fun s' I'=>⟨_,H,I',h⟩) hf)
def gNil:TGs:=fun vs σ H Q=>vs=[]/\Q σ H
def gCons (t:TG) (u:TGs):TGs:=fun vs σ H Q=>∃ v r,vs=v :: r/\t v σ H fun σ' H'=>u r σ' H' Q
theorem pgs_nil:PGs X [] gNil:=by
 intro pins s σ H vs us Q I r h
 obtain ⟨e,h⟩:=h
 subst e
 cases r
 exact assignInOrder_nil ⟨σ,H,I,h⟩
theorem pgs_cons {e:Expr} {es:List Expr} {t:TG} {u:TGs} (h1:PG X e t) (h2:PGs X es u)
  (hs:(assignEach (e :: es) X.env).map (·.2)=assign e X.env :: (assignEach es X.env).map (·.2):=by rfl):PGs X (e :: es) (gCons t u):=by
 intro pins s σ H vs us Q I r h
 obtain ⟨v,vr,e1,h⟩:=h
 subst e1
 cases r with
 | cons r rr=>
  rw [hs]
  refine assignInOrder_cons (thn (h1 pins s σ H _ _ _ I r h) fun _ s1 ⟨σ1,H1,I1,q1⟩=>?_)
  exact h2 pins s1 σ1 H1 _ _ Q I1 rr q1
def gTup (K:PySem.W.Frag) (n:Nat) (t:TGs):TG:=fun v σ H Q=>∃ a xs,v=.ref a/\SqT K H a xs/\xs.length=n/\t xs σ H Q
theorem pg_tup {es:List Expr} {k:Nat} {t:TGs} {n:Nat} (hc:X.calm=true) (h:PGs X es t)
  (hn:(assignEach es X.env).length=n:=by rfl) (hst:(assignEach es X.env).findIdx? (·.1)=none:=by rfl):PG X (.Tuple es k pos) (gTup X.K n t):=by
 intro pins s σ H v u Q I r hw
 obtain ⟨a,xs,e1,hq,hl,hw⟩:=hw
 subst e1
 cases r
 obtain ⟨its,rv,ht,hz⟩:=I.tuple hq
 refine assign_Tuple_tuple (I.ok.hd hc) ht (by simp [hn,<-hl,rv.length]) hst fun h' hx=>?_
 have I1:Inv X pins σ H {s with heap:=h'}:=I.kept (t':=s.toks) fun b o e=>hx b o (Nat.ne_of_lt (Heap.lt_size e)) e
 exact h pins _ σ H xs _ Q I1 (by simpa using rv) hw
def gSub (to ti:TE) (t:TSet):TG:=fun v σ H Q=>to σ H fun o H1=>ti σ H1 fun i H2=>t o i v H2 fun H3=>Q σ H3
theorem pg_sub {o i:Expr} {to ti:TE} {t:TSet} (ho:PE X o to) (hi:PE X i ti) (hs:PSet X t)
  (ha:∀ v,assign (.Subscript o i pos) X.env v=(do
   let ov <-holding [v] (eval o X.env)
   let iv <-holding [v,ov] (eval i X.env)
   standAt pos
   holding [v,ov,iv] (setItem ov iv v)
   release [v,ov,iv] []):=by intro _;rfl):PG X (.Subscript o i pos) (gSub to ti t):=by
 intro pins s σ H v u Q I r h
 rw [ha]
 refine wpAny_bind (wpAny_holding (thn (ho pins s σ H _ I h) fun ov s1 ⟨x,H1,I1,r1,q1⟩=>?_))
 refine wpAny_bind (wpAny_holding (thn (hi pins s1 σ H1 _ I1 q1) fun iv s2 ⟨y,H2,I2,r2,q2⟩=>?_))
 refine wpAny_bind (wpAny_standAt (wpAny_bind (wpAny_holding (thn (hs pins s2 σ H2 x y v ov iv u _ I2 r1 r2 r q2) fun _ s3 ⟨H3,I3,q3⟩=>?_))))
 exact wpAny_release ⟨σ,H3,I3,q3⟩
def tAsg (te:TE) (g:TG):TS:=fun D σ H=>te σ H fun x H1=>g x σ H1 D.nx
theorem ps_asg {tg e:Expr} {te:TE} {g:TG} (he:PE X e te) (hg:PG X tg g) (hs:swapsWithSole [tg] e pos.line X.env=pure false:=by rfl) (hw:swappedStores [tg] e X.env=pure none:=by rfl)
  (h1:(assignEach [tg] X.env).map (·.2)=[assign tg X.env]:=by rfl):PS X (.Assign [tg] e pos) (tAsg te g):=by
 intro pins s σ H D I h
 refine wpAny_Assign_stores (thn (he pins s σ H _ I h) fun v s1 ⟨x,H1,I1,r1,q1⟩=>?_) hs hw
 rw [h1]
 exact thn (hg pins s1 σ H1 x v _ I1 r1 q1) fun _ s2 q=>q
theorem ps_set {i:Nat} {x:Str} {e:Expr} {te:TE} {pos':Pos} (hN:X.N.Nodup) (hi:X.N[i]?=some x) (hx:Loc X.env.scope x) (he:PE X e te) (hs:swapsWith e (some (.Name x pos')) pos.line X.env=pure false:=by rfl) (hf:X.fn x=true\/X.env.scope.names.lookup x=some .local:=by first | exact .inl rfl | exact .inr rfl | assumption) :
  PS X (.Assign [.Name x pos'] e pos) (tAsg te (gName i)):=by
 intro pins s σ H D I h
 refine wpAny_Assign_Name (thn (he pins s σ H _ I h) fun v s1 ⟨y,H1,I1,r1,q1⟩=>?_) hs
 exact store_ok I1 hN hi hx r1 (fun s2 I2=>⟨_,H1,I2,q1⟩) hf
end
section
variable {X:Cx} {pos:Pos}
def tWhile (c:TT) (tb:TS):TS:=fun D σ H=>∃ W:Nat->St->Hp->Prop,(∃ m,W m σ H)/\∀ m σ H,W m σ H ->
 c σ H fun b H1=>if b=true then ∃ N:St->Hp->Prop,(∀ σ' H',N σ' H'->∃ m',m'<m/\W m' σ' H')/\tb {D with nx:=N,ct:=N,bk:=D.nx} σ H1 else D.nx σ H1
theorem ps_while {c:Expr} {body:List Stmt} {tc:TT} {tb:TS} (hp:PassesOwn (model X.prog X.w) X.A X.env X.xe) (hc:PT X c tc) (hb:PSs X body tb):PS X (.While c body [] pos) (tWhile tc tb):=by
 intro pins s σ H D I h
 obtain ⟨W,⟨m0,w0⟩,turn⟩:=h
 refine wpAny_While (codeAny_whileLoop (fun n s'=>∃ σ' H',Inv X pins σ' H' s'/\W n σ' H') ?_ m0 ⟨σ,H,I,w0⟩)
 rintro n s1 ⟨σ1,H1,I1,w1⟩
 refine wpAny_passesOwn hp (thn (hc pins s1 σ1 H1 _ I1 (turn n σ1 H1 w1)) fun b s2 ⟨H2,I2,q2⟩=>?_)
 cases b with
 | true=>
  obtain ⟨N,hN,q2⟩:=q2
  rw [if_pos rfl]
  refine wpAny_passesOwn hp (thn (hb pins s2 σ1 H2 _ I2 q2) fun f s3 q3=>?_)
  cases f with
  | next=>
   obtain ⟨σ3,H3,I3,n3⟩:=q3
   obtain ⟨m',hm,w3⟩:=hN σ3 H3 n3
   exact ⟨m',hm,σ3,H3,I3,w3⟩
  | cont=>
   obtain ⟨σ3,H3,I3,n3⟩:=q3
   obtain ⟨m',hm,w3⟩:=hN σ3 H3 n3
   exact ⟨m',hm,σ3,H3,I3,w3⟩
  | brk=>exact q3
  | ret v=>exact q3
 | false=>
  rw [if_neg Bool.false_ne_true]
  exact wpAny_execs_nil ⟨σ1,H2,I2,q2⟩
end
structure It where
 go:Nat->Hp->Prop
 yld:Nat->Hp->V->Hp->Prop
 stop:Nat->Hp->Prop
def FpOk (X:Cx) (pins:List (Addr × Obj)) (H:Hp) (b:Addr):Prop:=
 H b=none/\b≠X.env.locals/\b∉X.fs/\(b∈X.ex\/X.s_0.heap.objs.size<=b)/\(∀ x c,X.env.cells.lookup x=some c->c≠b)/\∀ p∈X.pn++pins,p.1≠b
theorem Inv.fpOk {X:Cx} {pins:List (Addr × Obj)} {σ:St} {H H':Hp} {s:Shared} {b:Addr} (I:Inv X pins σ H s) (hb:s.heap.objs.size<=b) (hn:H' b=none):FpOk X pins H' b:=by
 refine ⟨hn,Nat.ne_of_gt (Nat.lt_of_lt_of_le I.lt hb),I.nofs hb,.inr (Nat.le_trans I.sz hb),fun x c e z=>?_,fun p hp z=>?_⟩
 ·obtain ⟨v,q⟩:=I.cell x c e
  exact absurd (Nat.lt_of_lt_of_le q.lt (by rw [z];exact hb)) (Nat.lt_irrefl _)
 ·exact absurd (Nat.lt_of_lt_of_le (Heap.lt_size (I.pin p hp).1) (by rw [z];exact hb)) (Nat.lt_irrefl _)
structure Turn (P:Program) (w:World) (K:PySem.W.Frag) (tg:Expr) (J:It) (fp:List Addr) (it:Addr) (tn:Nat->Heap->Prop):Prop where
 mem:it∈fp
 obj:∀ i h,tn i h->∀ b∈fp,∃ o,h.get? b=some o/\∀ v,o.data≠.cell v
 keep:∀ i h h',tn i h->(∀ b∈fp,∀ o,h.get? b=some o->h'.get? b=some o)->tn i h'
 item:∀ (X:Cx),X.prog=P->X.w=w->X.K=K->X.calm=true->∀ (i:Nat) (pins:List (Addr × Obj)) (s:Shared) (σ:St) (H:Hp) (E:Value->Shared->Prop),Inv X pins σ H s->(∀ b∈fp,FpOk X pins H b)->tn i s.heap->J.go i H ->
  wpAny (model P w) X.A (pyNext (.ref it)) (fun r s1=>∃ u,r=some u /\
   wpAny (model P w) X.A (letOwnedTupleGo tg (.ref it) u) (fun _ s2=>∃ x H',Inv X pins σ H' s2/\RelV x u/\J.yld i H x H'/\tn (i+1) s2.heap/\∀ b∈fp,H' b=none) E s1) E s
 done:∀ (X:Cx),X.prog=P->X.w=w->X.K=K->X.calm=true->∀ (i:Nat) (pins:List (Addr × Obj)) (s:Shared) (σ:St) (H:Hp) (E:Value->Shared->Prop),Inv X pins σ H s->(∀ b∈fp,FpOk X pins H b)->tn i s.heap->J.stop i H ->
  wpAny (model P w) X.A (pyNext (.ref it)) (fun r s1=>r=none/\Inv X pins σ H s1) E s
 self:∀ (A:Around) (i:Nat) (s:Shared) (Q:Value->Shared->Prop) (E:Value->Shared->Prop),tn i s.heap->Q (.ref it) s->wpAny (model P w) A (pyIter (.ref it)) Q E s
abbrev TI:=St->Hp->(It->Hp->Prop)->Prop
def PIE (X:Cx) (pins:List (Addr × Obj)) (σ:St) (tg:Expr) (R:It->Hp->Prop) (itv:Value) (s2:Shared):Prop:=
 ∃ (it:Addr) (fp:List Addr) (tn:Nat->Heap->Prop) (J:It) (H':Hp),itv=.ref it/\Inv X pins σ H' s2/\Turn X.prog X.w X.K tg J fp it tn/\tn 0 s2.heap/\(∀ b∈fp,FpOk X pins H' b)/\R J H'
def PI (X:Cx) (tg iter:Expr) (wi:TI):Prop:=
 ∀ (pins:List (Addr × Obj)) (s:Shared) (σ:St) (H:Hp) (R:It->Hp->Prop),Inv X pins σ H s->wi σ H R ->
  wpAny (model X.prog X.w) X.A (eval iter X.env) (fun v s1=>wpAny (model X.prog X.w) X.A (pyIter v) (PIE X pins σ tg R) X.xe s1) X.xe s
theorem go_of {M : Model} {A : Around} {E : Value -> Shared -> Prop} {s : Shared} {tg : Expr} {it : Addr} {u : Value} {o : Obj} {n : String} {vs : Array Value} {Q : Unit -> Shared -> Prop} (ho : s.heap.get? it = some o) (hc : o.cls = .type n) (hd : o.data = .fields vs)
    (hn : ["enumerate", "zip", "dict_itemiterator", "dict_reverseitemiterator", "odict_iterator", "itertools.zip_longest", "itertools.pairwise"].contains n = false) (hQ : Q () s) : wpAny M A (letOwnedTupleGo tg (.ref it) u) Q E s := by
  unfold letOwnedTupleGo
  cases tg <;> first
    | exact wpAny_pure hQ
    | (cases u <;> first
        | exact wpAny_pure hQ
        | (refine wpAny_bind (wpAny_load ho ?_)
           rw [hc, hd]
           show wpAny M A (if (["enumerate", "zip", "dict_itemiterator", "dict_reverseitemiterator", "odict_iterator", "itertools.zip_longest", "itertools.pairwise"].contains n && vs[0]? == some (rawInt _)) = true then _ else _) Q E s
           rw [if_neg (by intro h; rw [hn, Bool.false_and] at h; cases h)]
           exact wpAny_pure hQ))
def Itl (K:PySem.W.Frag) (a:Addr):It:=
 ⟨fun i H=>∃ xs x,SqL K H a xs/\xs[i]?=some x,fun i H x H'=>H'=H/\∀ xs,SqL K H a xs->xs[i]?=some x,fun i H=>∃ xs,SqL K H a xs/\xs.length<=i⟩
def Itt (K:PySem.W.Frag) (a:Addr):It:=
 ⟨fun i H=>∃ xs x,SqT K H a xs/\xs[i]?=some x,fun i H x H'=>H'=H/\∀ xs,SqT K H a xs->xs[i]?=some x,fun i H=>∃ xs,SqT K H a xs/\xs.length<=i⟩
def Itr (lo:Int) (n:Nat):It:=⟨fun i _=>i<n,fun i H x H'=>H'=H/\x=.int (lo+i),fun i _=>n<=i⟩
theorem turn_list {P:Program} {w:World} {K:PySem.W.Frag} {tg:Expr} (a it:Addr):Turn P w K tg (Itl K a) [it] it (fun i h=>h.IsListIter it a i) where
 mem:=by simp
 obj:=fun i h st b hb=>by
  have e:b=it:=by simpa using hb
  subst e
  obtain ⟨o,e,c,d⟩:=st
  exact ⟨o,e,fun v z=>by rw [d] at z;cases z⟩
 keep:=fun i h h' st k=>st.at fun o e=>k it (by simp) o e
 item:=by
  intro X hP hw hK hc i pins s σ H E I hf st hg
  subst hP hw hK
  obtain ⟨xs,x,hq,hx⟩:=hg
  obtain ⟨its,rv,p,hz⟩:=I.list hq
  obtain ⟨u,hu,ru⟩:=rv.get hx
  obtain ⟨f0,f1,f2,f3,f4,f5⟩:=hf it (by simp)
  refine wpAny_pyNext_list_item st p.isList (x:=u) (by simpa using hu) fun h' st' sb=>?_
  have I1:Inv X pins σ H {s with heap:=h'}:=I.turned (t':=s.toks) (fun b o hb e=>(sb.2 b hb).trans e) f0 f1 f3 f4 f5
  obtain ⟨o,e,c,d⟩:=id st'
  exact ⟨u,rfl,go_of (s:={s with heap:=h'}) e c d (by decide) ⟨x,H,I1,ru,⟨rfl,fun ys hy=>by rw [I.list_inj hy hq];exact hx⟩,st',fun b hb=>(hf b hb).1⟩⟩
 done:=by
  intro X hP hw hK hc i pins s σ H E I hf st hg
  subst hP hw hK
  obtain ⟨xs,hq,hx⟩:=hg
  obtain ⟨its,rv,p,hz⟩:=I.list hq
  obtain ⟨f0,f1,f2,f3,f4,f5⟩:=hf it (by simp)
  have hl:=rv.length
  exact wpAny_pyNext_list_end (I.ok.hd hc) st p.isList (by simp;omega) fun h' eb=>⟨rfl,I.turned (t':=s.toks) (fun b o hb e=>eb b o hb e) f0 f1 f3 f4 f5⟩
 self:=fun _ _ _ _ _ st h=>wpAny_pyIter_listiter st h
theorem turn_tuple {P:Program} {w:World} {K:PySem.W.Frag} {tg:Expr} (a it:Addr):Turn P w K tg (Itt K a) [it] it (fun i h=>h.IsTupleIter it a i) where
 mem:=by simp
 obj:=fun i h st b hb=>by
  have e:b=it:=by simpa using hb
  subst e
  obtain ⟨o,e,c,d⟩:=st
  exact ⟨o,e,fun v z=>by rw [d] at z;cases z⟩
 keep:=fun i h h' st k=>st.at fun o e=>k it (by simp) o e
 item:=by
  intro X hP hw hK hc i pins s σ H E I hf st hg
  subst hP hw hK
  obtain ⟨xs,x,hq,hx⟩:=hg
  obtain ⟨its,rv,p,hz⟩:=I.tuple hq
  obtain ⟨u,hu,ru⟩:=rv.get hx
  obtain ⟨f0,f1,f2,f3,f4,f5⟩:=hf it (by simp)
  refine wpAny_pyNext_tuple_item st (show s.heap.IsTuple a its.toArray from p) (x:=u) (by simpa using hu) fun h' st' sb=>?_
  have I1:Inv X pins σ H {s with heap:=h'}:=I.turned (t':=s.toks) (fun b o hb e=>(sb.2 b hb).trans e) f0 f1 f3 f4 f5
  obtain ⟨o,e,c,d⟩:=id st'
  exact ⟨u,rfl,go_of (s:={s with heap:=h'}) e c d (by decide) ⟨x,H,I1,ru,⟨rfl,fun ys hy=>by rw [I.tuple_inj hy hq];exact hx⟩,st',fun b hb=>(hf b hb).1⟩⟩
 done:=by
  intro X hP hw hK hc i pins s σ H E I hf st hg
  subst hP hw hK
  obtain ⟨xs,hq,hx⟩:=hg
  obtain ⟨its,rv,p,hz⟩:=I.tuple hq
  obtain ⟨f0,f1,f2,f3,f4,f5⟩:=hf it (by simp)
  have hl:=rv.length
  exact wpAny_pyNext_tuple_end (I.ok.hd hc) st (show s.heap.IsTuple a its.toArray from p) (by simp;omega) fun h' eb=>⟨rfl,I.turned (t':=s.toks) (fun b o hb e=>eb b o hb e) f0 f1 f3 f4 f5⟩
 self:=fun _ _ _ _ _ st h=>wpAny_pyIter_tupleiter st h
theorem turn_range {P:Program} {w:World} {K:PySem.W.Frag} {tg:Expr} (it:Addr) (lo:Int) (n:Nat):Turn P w K tg (Itr lo n) [it] it (fun i h=>IsRangeIter h it (lo+(i:Nat)*1) ((n:Int)-(i:Nat)) 1) where
 mem:=by simp
 obj:=fun i h st b hb=>by
  have e:b=it:=by simpa using hb
  subst e
  exact ⟨_,st,fun v z=>by
   have z':Data.fields _=Data.cell v:=z
   cases z'⟩
 keep:=fun i h h' st k=>k it (by simp) _ st
 item:=by
  intro X hP hw hK hc i pins s σ H E I hf st hg
  subst hP hw hK
  obtain ⟨f0,f1,f2,f3,f4,f5⟩:=hf it (by simp)
  have W:=Walks.range (prog:=X.prog) (w:=X.w) (I.ok.hd hc) it lo 1 n
  refine W.item i s _ _ hg st fun v h' tk hv st' kk=>?_
  obtain ⟨t,rfl⟩:=hv
  have I1:Inv X pins σ H {s with heap:=h',toks:=tk}:=I.turned (fun b o hb e=>kk b o (by simpa using hb) e) f0 f1 f3 f4 f5
  refine ⟨_,rfl,go_of (s:={s with heap:=h',toks:=tk}) (n:="range_iterator") st' rfl rfl (by decide) ⟨.int (lo+i),H,I1,⟨t,?_⟩,⟨rfl,rfl⟩,st',fun b hb=>(hf b hb).1⟩⟩
  rw [Int.mul_one]
 done:=by
  intro X hP hw hK hc i pins s σ H E I hf st hg
  subst hP hw hK
  obtain ⟨f0,f1,f2,f3,f4,f5⟩:=hf it (by simp)
  exact wpAny_pyNext_range_end (I.ok.hd hc) st (by have:n<=i:=hg;omega) fun h' eb=>⟨rfl,I.turned (t':=s.toks) (fun b o hb e=>eb b o hb e) f0 f1 f3 f4 f5⟩
 self:=fun _ _ _ _ _ st h=>wpAny_pyIter_rangeiter st h
end L2
namespace L2
open PySem PySem.Spec PyProof.Rows
section
variable {X:Cx} {tg:Expr}
def iList (K:PySem.W.Frag) (tl:TE):TI:=fun σ H R=>tl σ H fun x H1=>∃ a,x=.ref a/\(∃ xs,SqL K H1 a xs)/\R (Itl K a) H1
theorem pi_list {l:Expr} {tl:TE} (hl:PE X l tl):PI X tg l (iList X.K tl):=by
 intro pins s σ H R I h
 refine thn (hl pins s σ H _ I h) fun v s1 ⟨x,H1,I1,r1,q1⟩=>?_
 obtain ⟨a,e,⟨xs,hq⟩,q⟩:=q1
 subst e
 cases r1
 obtain ⟨its,rv,p,hz⟩:=I1.list hq
 refine wpAny_pyIter_list p.isList ?_
 refine ⟨s1.heap.objs.size,[s1.heap.objs.size],_,_,H1,rfl,I1.kept (t':=s1.toks) fun b o e=>Heap.get?_push_of_some _ e,turn_list a _,⟨_,Heap.get?_push_size _ rfl,rfl,rfl⟩,fun b hb=>?_,q⟩
 have e:b=s1.heap.objs.size:=by simpa using hb
 subst e
 exact I1.fpOk (Nat.le_refl _) (I1.hok.fresh (Nat.le_refl _))
theorem range_it {pins:List (Addr × Obj)} {σ:St} {H:Hp} {s:Shared} {R:It->Hp->Prop} {E:Value->Shared->Prop} {lo hi:Int} {t u v:Tok} {tk:Nat} (I:Inv X pins σ H s) (h1 : -(2 ^ 62)<=lo) (h2:lo<2 ^ 62) (h3 : -(2 ^ 62)<=hi) (h4:hi<2 ^ 62)
  (q:R (Itr lo (hi-lo).toNat) H):wpAny (model X.prog X.w) X.A (pyIter (.ref s.heap.objs.size)) (PIE X pins σ tg R) E {s with heap:=s.heap.push {cls:=.type "range",data:=.fields #[.int lo t,.int hi u,.int 1 v]},toks:=tk}:=by
 refine wpAny_pyIter_range (IsRange.new ..) (small_one h1 h2 h3 h4) ?_
 have I1:Inv X pins σ H {s with heap:=s.heap.push {cls:=.type "range",data:=.fields #[.int lo t,.int hi u,.int 1 v]},toks:=tk}:=I.kept fun b o e=>Heap.get?_push_of_some _ e
 refine ⟨(s.heap.push {cls:=.type "range",data:=.fields #[.int lo t,.int hi u,.int 1 v]}).objs.size,[(s.heap.push {cls:=.type "range",data:=.fields #[.int lo t,.int hi u,.int 1 v]}).objs.size],_,_,H,rfl,
  I1.kept (t':=tk) fun b o e=>Heap.get?_push_of_some _ e,turn_range _ lo (hi-lo).toNat,?_,fun b hb=>?_,q⟩
 ·have e1:lo+((0:Nat):Int)*1=lo:=by simp
  have e2:(((hi-lo).toNat:Nat):Int)-((0:Nat):Int)=Builtin.Range.rangeSize lo hi 1:=by rw [rangeSize_one];split<;>omega
  show IsRangeIter _ _ (lo+((0:Nat):Int)*1) ((((hi-lo).toNat:Nat):Int)-((0:Nat):Int)) 1
  rw [e1,e2]
  exact Heap.get?_push_size _ rfl
 ·have e:b=(s.heap.push {cls:=.type "range",data:=.fields #[.int lo t,.int hi u,.int 1 v]}).objs.size:=by simpa using hb
  subst e
  exact I1.fpOk (Nat.le_refl _) (I1.hok.fresh (Nat.le_refl _))
def iRng1 (ta:TA):TI:=fun σ H R=>ta σ H fun vs H1=>∃ j:Int,vs=[.int j]/\-(2 ^ 62)<=j/\j<2 ^ 62/\R (Itr 0 j.toNat) H1
def iRng2 (ta:TA):TI:=fun σ H R=>ta σ H fun vs H1=>∃ i j:Int,vs=[.int i,.int j]/\(-(2 ^ 62)<=i/\i<2 ^ 62/\-(2 ^ 62)<=j/\j<2 ^ 62)/\R (Itr i (j-i).toNat) H1
theorem pi_range1 {a:Expr} {ta:TA} {p pos:Pos} (hg:Gl X "range") (hm:X.mg "range" = none) (ha:PA X [a] ta) (hs:starEach [a] X.env=[(false,eval a X.env)]:=by rfl):PI X tg (.Call (.Name "range" p) [a] [] pos) (iRng1 ta):=by
 intro pins s σ H R I h
 refine Call_ (ld_blt I hg hm boot_range (PyProof.Rows.callWith_type1 (thn (ha pos pins s σ H _ I h) fun us s1 ⟨vs,H1,I1,r1,q1⟩=>?_) hs rfl))
 obtain ⟨j,e,q1,q2,q⟩:=q1
 subst e
 cases r1 with
 | cons r rr=>
  cases rr
  obtain ⟨t,rfl⟩:=r
  exact call_range_1 (range_it I1 (by omega) (by omega) q1 q2 (by simpa using q))
theorem pi_range2 {a b:Expr} {ta:TA} {p pos:Pos} (hg:Gl X "range") (hm:X.mg "range" = none) (ha:PA X [a,b] ta) (hs:starEach [a,b] X.env=[(false,eval a X.env),(false,eval b X.env)]:=by rfl) (hs2:starEach [b] X.env=[(false,eval b X.env)]:=by rfl) :
  PI X tg (.Call (.Name "range" p) [a,b] [] pos) (iRng2 ta):=by
 intro pins s σ H R I h
 refine Call_ (ld_blt I hg hm boot_range (PyProof.Rows.callWith_type1 (thn (ha pos pins s σ H _ I h) fun us s1 ⟨vs,H1,I1,r1,q1⟩=>?_) (by rw [hs,hs2]) (by rw [hs2];rfl)))
 obtain ⟨i,j,e,⟨q1,q2,q3,q4⟩,q⟩:=q1
 subst e
 cases r1 with
 | cons r rr=>
  cases rr with
  | cons r' rr=>
   cases rr
   obtain ⟨t,rfl⟩:=r
   obtain ⟨t',rfl⟩:=r'
   exact call_range_2 (range_it I1 q1 q2 q3 q4 q)
def tFor (wi:TI) (g:TG) (tb:TS):TS:=fun D σ H=>wi σ H fun J H1=>∃ W:Nat->Nat->St->Hp->Prop,(∃ m,W 0 m σ H1)/\∀ i m σ H,W i m σ H ->
 (J.stop i H/\D.nx σ H)\/(J.go i H/\∃ N:St->Hp->Prop,(∀ σ' H',N σ' H'->∃ m',m'<m/\W (i+1) m' σ' H')/\∀ x H',J.yld i H x H'->g x σ H' fun σ2 H2=>tb {D with nx:=N,ct:=N,bk:=D.nx} σ2 H2)
def pinsAt (fp:List Addr) (h:Heap):List (Addr × Obj):=fp.filterMap fun b=>(h.get? b).map fun o=>(b,o)
theorem mem_pinsAt {fp:List Addr} {h:Heap} {b:Addr} {o:Obj} (hb:b∈fp) (e:h.get? b=some o):(b,o)∈pinsAt fp h:=List.mem_filterMap.mpr ⟨b,hb,by rw [e];rfl⟩
theorem of_pinsAt {fp:List Addr} {h:Heap} {p:Addr × Obj} (hp:p∈pinsAt fp h):p.1∈fp/\h.get? p.1=some p.2:=by
 obtain ⟨b,hb,e⟩:=List.mem_filterMap.mp hp
 cases q:h.get? b with
 | none=>rw [q] at e;cases e
 | some o=>
  rw [q] at e
  have e':(b,o)=p:=Option.some.inj e
  subst e'
  exact ⟨hb,q⟩
theorem Inv.pinned {pins:List (Addr × Obj)} {σ:St} {H:Hp} {s:Shared} {fp:List Addr} (I:Inv X pins σ H s) (hf:∀ b∈fp,FpOk X pins H b) (ho:∀ b∈fp,∃ o,s.heap.get? b=some o/\∀ v,o.data≠.cell v):Inv X (pins++pinsAt fp s.heap) σ H s:=
 I.pins_of fun p hp=>(List.mem_append.mp hp).elim (fun z=>I.pin p (List.mem_append_right _ z)) fun z=>by
  obtain ⟨hb,e⟩:=of_pinsAt z
  obtain ⟨f0,f1,f2,_⟩:=hf p.1 hb
  obtain ⟨o,e',d⟩:=ho p.1 hb
  rw [e] at e';cases e'
  exact ⟨e,f0,f1,f2,d⟩
theorem Inv.unpinned {pins pl:List (Addr × Obj)} {σ:St} {H:Hp} {s:Shared} (I:Inv X (pins++pl) σ H s):Inv X pins σ H s:=I.pins_of fun p hp=>I.pin p (List.mem_append_right _ (List.mem_append_left _ hp))
theorem ps_for {iter:Expr} {body:List Stmt} {wi:TI} {g:TG} {tb:TS} {pos:Pos} (hp:PassesOwn (model X.prog X.w) X.A X.env X.xe) (hc:X.calm=true) (hi:PI X tg iter wi) (hg:PG X tg g) (hb:PSs X body tb)
  (hs:∀ x,foldedSetIterable iter X.env x=pure x:=by intro _;rfl):PS X (.For tg iter body [] pos) (tFor wi g tb):=by
 intro pins s σ H D I h
 refine wpAny_For (thn (hi pins s σ H _ I h) fun v s1 h1=>thn h1 fun itv s2 h2=>?_) hs
 obtain ⟨it,fp,tn,J,H2,e,I2,T,st2,f2,W,⟨m0,w0⟩,turn⟩:=h2
 subst e
 have stat:∀ {H':Hp},(∀ b∈fp,H' b=none)->∀ b∈fp,FpOk X pins H' b:=fun hn b hb=>⟨hn b hb,(f2 b hb).2⟩
 refine codeAny_forLoop_any (fun n s'=>∃ i σ' H',Inv X pins σ' H' s'/\tn i s'.heap/\(∀ b∈fp,H' b=none)/\W i n σ' H') ?_ m0 ⟨0,σ,H2,I2,st2,fun b hb=>(f2 b hb).1,w0⟩
 rintro n s3 ⟨i,σ3,H3,I3,st3,fr3,w3⟩
 rcases turn i n σ3 H3 w3 with ⟨stop,qn⟩ | ⟨go,N,hN,step⟩
 ·refine wpAny_passesOwn hp (thn (T.done X rfl rfl rfl hc i pins s3 σ3 H3 X.xe I3 (stat fr3) st3 stop) fun r s4 ⟨hr,I4⟩=>?_)
  subst hr
  exact wpAny_execs_nil ⟨σ3,H3,I4,qn⟩
 ·refine wpAny_passesOwn hp (thn (T.item X rfl rfl rfl hc i pins s3 σ3 H3 X.xe I3 (stat fr3) st3 go) fun r s4 ⟨u,hr,h4⟩=>?_)
  subst hr
  refine wpAny_passesOwn hp (thn h4 fun _ s5 ⟨x,H5,I5,r5,y5,st5,fr5⟩=>?_)
  have I5':=I5.pinned (stat fr5) (T.obj _ _ st5)
  refine wpAny_passesOwn hp (thn (hg _ s5 σ3 H5 x u _ I5' r5 (step x H5 y5)) fun _ s6 ⟨σ6,H6,I6,q6⟩=>?_)
  refine wpAny_passesOwn hp (thn (hb _ s6 σ6 H6 _ I6 q6) fun f s7 q7=>?_)
  have again:∀ {σ7:St} {H7:Hp},Inv X (pins++pinsAt fp s5.heap) σ7 H7 s7->N σ7 H7->∃ m,m<n/\∃ i σ' H',Inv X pins σ' H' s7/\tn i s7.heap/\(∀ b∈fp,H' b=none)/\W i m σ' H':=fun {σ7 H7} I7 n7=>by
   obtain ⟨m',hm,w7⟩:=hN σ7 H7 n7
   refine ⟨m',hm,i+1,σ7,H7,I7.unpinned,T.keep _ _ _ st5 fun b hb o e=>(I7.pin (b,o) (List.mem_append_right _ (List.mem_append_right _ (mem_pinsAt hb e)))).1,fun b hb=>?_,w7⟩
   obtain ⟨o,e,d⟩:=T.obj _ _ st5 b hb
   exact (I7.pin (b,o) (List.mem_append_right _ (List.mem_append_right _ (mem_pinsAt hb e)))).2.1
  cases f with
  | next=>obtain ⟨σ7,H7,I7,n7⟩:=q7;exact again I7 n7
  | cont=>obtain ⟨σ7,H7,I7,n7⟩:=q7;exact again I7 n7
  | brk=>obtain ⟨σ7,H7,I7,q7⟩:=q7;exact ⟨σ7,H7,I7.unpinned,q7⟩
  | ret v=>obtain ⟨x7,σ7,H7,I7,r7,q7⟩:=q7;exact ⟨x7,σ7,H7,I7.unpinned,r7,q7⟩
end
theorem for_list {K:PySem.W.Frag} {a:Addr} {xs:List V} {g:TG} {tb:TS} {D:Ends} {σ:St} {H:Hp} (Pv:Nat->St->Hp->Prop) (h0:Pv 0 σ H) (hl:∀ i σ H,i<=xs.length->Pv i σ H->SqL K H a xs)
  (hs:∀ i x σ H,xs[i]?=some x->Pv i σ H->g x σ H fun σ2 H2=>tb {D with nx:=Pv (i+1),ct:=Pv (i+1),bk:=D.nx} σ2 H2) (hd:∀ σ H,Pv xs.length σ H->D.nx σ H) :
  ∃ W:Nat->Nat->St->Hp->Prop,(∃ m,W 0 m σ H)/\∀ i m σ H,W i m σ H ->
   ((Itl K a).stop i H/\D.nx σ H)\/((Itl K a).go i H/\∃ N:St->Hp->Prop,(∀ σ' H',N σ' H'->∃ m',m'<m/\W (i+1) m' σ' H')/\∀ x H',(Itl K a).yld i H x H'->g x σ H' fun σ2 H2=>tb {D with nx:=N,ct:=N,bk:=D.nx} σ2 H2):=by
 refine ⟨fun i m σ H=>m=xs.length-i/\i<=xs.length/\Pv i σ H,⟨xs.length,by simp,Nat.zero_le _,h0⟩,?_⟩
 rintro i m σ H ⟨rfl,hi,p⟩
 have q:=hl i σ H hi p
 by_cases hlt:i<xs.length
 ·refine .inr ⟨⟨xs,xs[i],q,by simp [hlt]⟩,Pv (i+1),fun σ' H' p'=>⟨xs.length-(i+1),by omega,rfl,hlt,p'⟩,fun x H' y=>?_⟩
  obtain ⟨e,y⟩:=y
  subst e
  exact hs i x σ _ (y xs q) p
 ·have e:i=xs.length:=by omega
  subst e
  exact .inl ⟨⟨xs,q,Nat.le_refl _⟩,hd σ H p⟩
theorem for_tup {K:PySem.W.Frag} {a:Addr} {xs:List V} {g:TG} {tb:TS} {D:Ends} {σ:St} {H:Hp} (Pv:Nat->St->Hp->Prop) (h0:Pv 0 σ H) (hl:∀ i σ H,i<=xs.length->Pv i σ H->SqT K H a xs)
  (hs:∀ i x σ H,xs[i]?=some x->Pv i σ H->g x σ H fun σ2 H2=>tb {D with nx:=Pv (i+1),ct:=Pv (i+1),bk:=D.nx} σ2 H2) (hd:∀ σ H,Pv xs.length σ H->D.nx σ H) :
  ∃ W:Nat->Nat->St->Hp->Prop,(∃ m,W 0 m σ H)/\∀ i m σ H,W i m σ H ->
   ((Itt K a).stop i H/\D.nx σ H)\/((Itt K a).go i H/\∃ N:St->Hp->Prop,(∀ σ' H',N σ' H'->∃ m',m'<m/\W (i+1) m' σ' H')/\∀ x H',(Itt K a).yld i H x H'->g x σ H' fun σ2 H2=>tb {D with nx:=N,ct:=N,bk:=D.nx} σ2 H2):=by
 refine ⟨fun i m σ H=>m=xs.length-i/\i<=xs.length/\Pv i σ H,⟨xs.length,by simp,Nat.zero_le _,h0⟩,?_⟩
 rintro i m σ H ⟨rfl,hi,p⟩
 have q:=hl i σ H hi p
 by_cases hlt:i<xs.length
 ·refine .inr ⟨⟨xs,xs[i],q,by simp [hlt]⟩,Pv (i+1),fun σ' H' p'=>⟨xs.length-(i+1),by omega,rfl,hlt,p'⟩,fun x H' y=>?_⟩
  obtain ⟨e,y⟩:=y
  subst e
  exact hs i x σ _ (y xs q) p
 ·have e:i=xs.length:=by omega
  subst e
  exact .inl ⟨⟨xs,q,Nat.le_refl _⟩,hd σ H p⟩
theorem for_range {lo:Int} {n:Nat} {g:TG} {tb:TS} {D:Ends} {σ:St} {H:Hp} (Pv:Nat->St->Hp->Prop) (h0:Pv 0 σ H)
  (hs:∀ i σ H,i<n->Pv i σ H->g (.int (lo+i)) σ H fun σ2 H2=>tb {D with nx:=Pv (i+1),ct:=Pv (i+1),bk:=D.nx} σ2 H2) (hd:∀ σ H,Pv n σ H->D.nx σ H) :
  ∃ W:Nat->Nat->St->Hp->Prop,(∃ m,W 0 m σ H)/\∀ i m σ H,W i m σ H ->
   ((Itr lo n).stop i H/\D.nx σ H)\/((Itr lo n).go i H/\∃ N:St->Hp->Prop,(∀ σ' H',N σ' H'->∃ m',m'<m/\W (i+1) m' σ' H')/\∀ x H',(Itr lo n).yld i H x H'->g x σ H' fun σ2 H2=>tb {D with nx:=N,ct:=N,bk:=D.nx} σ2 H2):=by
 refine ⟨fun i m σ H=>m=n-i/\i<=n/\Pv i σ H,⟨n,by simp,Nat.zero_le _,h0⟩,?_⟩
 rintro i m σ H ⟨rfl,hi,p⟩
 by_cases hlt:i<n
 ·refine .inr ⟨hlt,Pv (i+1),fun σ' H' p'=>⟨n-(i+1),by omega,rfl,hlt,p'⟩,fun x H' y=>?_⟩
  obtain ⟨e,y⟩:=y
  subst e y
  exact hs i σ _ hlt p
 ·have e:i=n:=by omega
  subst e
  exact .inl ⟨Nat.le_refl _,hd σ H p⟩
end L2
namespace L2
open PySem PySem.Spec PyProof.Rows
abbrev R2:=V->V->Hp->VK->Prop
def OpR (X:Cx) (f:Value->Value->Sem Value) (r:R2):Prop:=
 ∀ (pins:List (Addr × Obj)) (s:Shared) (σ:St) (H:Hp) (x y:V) (v u:Value) (Q:VK),Inv X pins σ H s->RelV x v->RelV y u->r x y H Q ->
  wpAny (model X.prog X.w) X.A (f v u) (EP X pins σ Q) X.xe s
def UnR (X:Cx) (f:Value->Sem Value) (r:V->Hp->VK->Prop):Prop:=
 ∀ (pins:List (Addr × Obj)) (s:Shared) (σ:St) (H:Hp) (x:V) (v:Value) (Q:VK),Inv X pins σ H s->RelV x v->r x H Q ->
  wpAny (model X.prog X.w) X.A (f v) (EP X pins σ Q) X.xe s
def CallR (X:Cx) (f:Value) (r:List V->Hp->VK->Prop):Prop:=
 ∀ (pins:List (Addr × Obj)) (s:Shared) (σ:St) (H:Hp) (xs:List V) (us:List Value) (Q:VK),Inv X pins σ H s->Vals xs us->r xs H Q ->
  wpAny (model X.prog X.w) X.A (call f us) (EP X pins σ Q) X.xe s
def TruR (X:Cx) (r:V->Hp->(Bool->Hp->Prop)->Prop):Prop:=
 ∀ (pins:List (Addr × Obj)) (s:Shared) (σ:St) (H:Hp) (x:V) (v:Value) (Q:Bool->Hp->Prop),Inv X pins σ H s->RelV x v->r x H Q ->
  wpAny (model X.prog X.w) X.A (truthy v) (TP X pins σ Q) X.xe s
def tOp (r:R2) (ta tb:TE):TE:=fun σ H Q=>ta σ H fun x H1=>tb σ H1 fun y H2=>r x y H2 Q
def tUn (r:V->Hp->VK->Prop) (ta:TE):TE:=fun σ H Q=>ta σ H fun x H1=>r x H1 Q
def rI (C:Int->Int->Prop) (g:Int->Int->V):R2:=fun x y H Q=>∃ i j,x=.int i/\y=.int j/\C i j/\Q (g i j) H
def rI0 (g:Int->Int->V):R2:=fun x y H Q=>∃ i j,x=.int i/\y=.int j/\Q (g i j) H
def rU (g:Int->V):V->Hp->VK->Prop:=fun x H Q=>∃ i,x=.int i/\Q (g i) H
section
variable {X:Cx} {a b c:Expr} {ta tb tc:TE} {pos:Pos}
theorem binT (ha:PE X a ta) (hb:PE X b tb) {pins:List (Addr × Obj)} {s:Shared} {σ:St} {H:Hp} {R:V->V->Hp->Prop} (I:Inv X pins σ H s)
  (h:ta σ H fun x H1=>tb σ H1 fun y H2=>R x y H2) {Q:Value->Shared->Prop} {f:Value->Value->Sem Value}
  (hf:∀ v u s2 x y H2,Inv X pins σ H2 s2->RelV x v->RelV y u->R x y H2->wpAny (model X.prog X.w) X.A (f v u) Q X.xe s2) :
  wpAny (model X.prog X.w) X.A (eval a X.env) (fun v s₁=>wpAny (model X.prog X.w) X.A (eval b X.env) (fun u s₂=>wpAny (model X.prog X.w) X.A (f v u) Q X.xe s₂) X.xe s₁) X.xe s:=by
 refine thn (ha pins s σ H _ I h) fun v s1 ⟨x,H1,I1,r1,q1⟩=>?_
 refine thn (hb pins s1 σ H1 _ I1 q1) fun u s2 ⟨y,H2,I2,r2,q2⟩=>?_
 exact hf v u s2 x y H2 I2 r1 r2 q2
theorem pe_op {op:Operator} {r:R2} (ho:OpR X (binaryOp op) r) (ha:PE X a ta) (hb:PE X b tb):PE X (.BinOp a op b pos) (tOp r ta tb):=by
 intro pins s σ H Q I h
 exact wpAny_BinOp (binT ha hb I h fun v u s2 x y H2 I2 rx ry q=>ho pins s2 σ H2 x y v u Q I2 rx ry q)
theorem pe_un {op:UnaryOp} {r:V->Hp->VK->Prop} (ho:UnR X (unaryOp op) r) (ha:PE X a ta):PE X (.UnaryOp op a pos) (tUn r ta):=by
 intro pins s σ H Q I h
 exact UnaryOp_ (thn (ha pins s σ H _ I h) fun v s1 ⟨x,H1,I1,r1,q1⟩=>ho pins s1 σ H1 x v Q I1 r1 q1)
theorem opI {f:Value->Value->Sem Value} {C:Int->Int->Prop} {g:Int->Int->Int}
  (rule:∀ (i j:Int) (t u:Tok) (s:Shared) (Q:Value->Shared->Prop) (E:Value->Shared->Prop),C i j->Q (.int (g i j) s.toks) {s with toks:=s.toks+1}->wpAny (model X.prog X.w) X.A (f (.int i t) (.int j u)) Q E s) :
  OpR X f (rI C fun i j=>.int (g i j)):=by
 intro pins s σ H x y v u Q I rx ry h
 obtain ⟨i,j,rfl,rfl,hc,q⟩:=h
 obtain ⟨t,rfl⟩:=rx
 obtain ⟨t',rfl⟩:=ry
 exact rule i j t t' s _ _ hc ⟨.int (g i j),H,I.tok _,⟨_,rfl⟩,q⟩
theorem opI0 {f:Value->Value->Sem Value} {g:Int->Int->Int}
  (rule:∀ (i j:Int) (t u:Tok) (s:Shared) (Q:Value->Shared->Prop) (E:Value->Shared->Prop),Q (.int (g i j) s.toks) {s with toks:=s.toks+1}->wpAny (model X.prog X.w) X.A (f (.int i t) (.int j u)) Q E s) :
  OpR X f (rI0 fun i j=>.int (g i j)):=by
 intro pins s σ H x y v u Q I rx ry h
 obtain ⟨i,j,rfl,rfl,q⟩:=h
 obtain ⟨t,rfl⟩:=rx
 obtain ⟨t',rfl⟩:=ry
 exact rule i j t t' s _ _ ⟨.int (g i j),H,I.tok _,⟨_,rfl⟩,q⟩
theorem opB0 {f:Value->Value->Sem Value} {g:Int->Int->Bool}
  (rule:∀ (i j:Int) (t u:Tok) (s:Shared) (Q:Value->Shared->Prop) (E:Value->Shared->Prop),Q (.bool (g i j)) s->wpAny (model X.prog X.w) X.A (f (.int i t) (.int j u)) Q E s) :
  OpR X f (rI0 fun i j=>.bl (g i j)):=by
 intro pins s σ H x y v u Q I rx ry h
 obtain ⟨i,j,rfl,rfl,q⟩:=h
 obtain ⟨t,rfl⟩:=rx
 obtain ⟨t',rfl⟩:=ry
 exact rule i j t t' s _ _ ⟨.bl (g i j),H,I,rfl,q⟩
def CMul (i j:Int):Prop:=(-(2 ^ 64)<i/\i<2 ^ 64)\/(-(2 ^ 64)<j/\j<2 ^ 64)
theorem CMul.ok {i j:Int} (h:CMul i j):IntMulOk i j:=by
 rcases h with ⟨h1,h2⟩ | ⟨h1,h2⟩
 ·exact .of_left (intBits_le_64 h1 h2)
 ·exact .of_right (intBits_le_64 h1 h2)
theorem op_add:OpR X (binaryOp .Add) (rI0 fun i j=>.int (i+j)):=opI0 fun _ _ _ _ _ _ _ q=>add_int q
theorem op_sub:OpR X (binaryOp .Sub) (rI0 fun i j=>.int (i-j)):=opI0 fun _ _ _ _ _ _ _ q=>sub_int q
theorem op_mul:OpR X (binaryOp .Mult) (rI CMul fun i j=>.int (i*j)):=opI fun _ _ _ _ _ _ _ hc q=>mul_int q hc.ok
theorem op_mod:OpR X (binaryOp .Mod) (rI (fun _ j=>0<j) fun i j=>.int (i % j)):=opI fun i j _ _ _ _ _ hc q=>by
 have h1:(0:Int)<j:=hc
 exact mod_int' (by omega) (by rw [Int.fmod_eq_emod_of_nonneg i (by omega)];exact q)
theorem unI {f:Value->Sem Value} {g:Int->Int}
  (rule:∀ (i:Int) (t:Tok) (s:Shared) (Q:Value->Shared->Prop) (E:Value->Shared->Prop),Q (.int (g i) s.toks) {s with toks:=s.toks+1}->wpAny (model X.prog X.w) X.A (f (.int i t)) Q E s) :
  UnR X f (rU fun i=>.int (g i)):=by
 intro pins s σ H x v Q I rx h
 obtain ⟨i,rfl,q⟩:=h
 obtain ⟨t,rfl⟩:=rx
 exact rule i t s _ _ ⟨.int (g i),H,I.tok _,⟨_,rfl⟩,q⟩
theorem un_neg:UnR X (unaryOp .USub) (rU fun i=>.int (-i)):=unI fun _ _ _ _ _ q=>neg_int q
end
def scal:V->V->Bool
 | .non,.non=>true | .non,.int _=>true | .int _,.non=>true | .non,.bl _=>true | .bl _,.non=>true | .non,.str _=>true | .str _,.non=>true
 | .int _,.int _=>true | .bl _,.bl _=>true | .str _,.str _=>true | .byt _,.byt _=>true
 | .int _,.str _=>true | .str _,.int _=>true | .bl _,.str _=>true | .str _,.bl _=>true
 | _,_=>false
def rEq:R2:=fun x y H Q=>scal x y=true/\Q (.bl (decide (x=y))) H
def rNe:R2:=fun x y H Q=>scal x y=true/\Q (.bl (!decide (x=y))) H
theorem dec_int {i j:Int}:decide (V.int i=V.int j)=(i==j):=by
 rw [Bool.eq_iff_iff]
 simp
theorem dec_bl {i j:Bool}:decide (V.bl i=V.bl j)=(i==j):=by
 rw [Bool.eq_iff_iff]
 simp
theorem dec_str {i j:Str}:decide (V.str i=V.str j)=(i==j):=by
 rw [Bool.eq_iff_iff]
 simp
theorem dec_byt {i j:Array UInt8}:decide (V.byt i=V.byt j)=(i.toList==j.toList):=by
 rw [Bool.eq_iff_iff]
 cases i
 cases j
 simp
section
variable {X:Cx} {a b c:Expr} {ta tb tc:TE} {pos:Pos}
theorem fin_bl {pins:List (Addr × Obj)} {σ:St} {H:Hp} {s:Shared} {Q:VK} {k k':Bool} (I:Inv X pins σ H s) (q:Q (.bl k) H) (e:k=k'):EP X pins σ Q (.bool k') s:=by
 subst e
 exact ⟨.bl k,H,I,rfl,q⟩
theorem op_eq:OpR X (compareOp .Eq) rEq:=by
 intro pins s σ H x y v u Q I rx ry h
 obtain ⟨hs,q⟩:=h
 cases x with
 | non=>
  cases rx
  cases y with
  | non=>cases ry;exact PySem.EqNone.eq_none_none (fin_bl I q (by simp))
  | bl j=>cases ry;exact PySem.EqNone.eq_none_bool (fin_bl I q (by simp))
  | int j=>obtain ⟨t',rfl⟩:=ry;exact PySem.EqNone.eq_none_int (fin_bl I q (by simp))
  | str j=>obtain ⟨t',rfl⟩:=ry;exact PySem.EqNone.eq_none_str (fin_bl I q (by simp))
  | _=>exact absurd (show false=true from hs) Bool.false_ne_true
 | bl i=>
  cases rx
  cases y with
  | non=>cases ry;exact PySem.EqNone.eq_bool_none (fin_bl I q (by simp))
  | bl j=>cases ry;exact eq_bool (fin_bl I q dec_bl)
  | str j=>obtain ⟨t',rfl⟩:=ry;exact PySem.EqMixed.eq_bool_str (fin_bl I q (by simp))
  | _=>exact absurd (show false=true from hs) Bool.false_ne_true
 | int i=>
  obtain ⟨t,rfl⟩:=rx
  cases y with
  | non=>cases ry;exact PySem.EqNone.eq_int_none (fin_bl I q (by simp))
  | int j=>obtain ⟨t',rfl⟩:=ry;exact eq_int (fin_bl I q dec_int)
  | str j=>obtain ⟨t',rfl⟩:=ry;exact PySem.EqMixed.eq_int_str (fin_bl I q (by simp))
  | _=>exact absurd (show false=true from hs) Bool.false_ne_true
 | str i=>
  obtain ⟨t,rfl⟩:=rx
  cases y with
  | non=>cases ry;exact PySem.EqNone.eq_str_none (fin_bl I q (by simp))
  | bl j=>cases ry;exact PySem.EqMixed.eq_str_bool (fin_bl I q (by simp))
  | int j=>obtain ⟨t',rfl⟩:=ry;exact PySem.EqMixed.eq_str_int (fin_bl I q (by simp))
  | str j=>obtain ⟨t',rfl⟩:=ry;exact eq_str (fin_bl I q dec_str)
  | _=>exact absurd (show false=true from hs) Bool.false_ne_true
 | byt i=>
  obtain ⟨t,rfl⟩:=rx
  cases y with
  | byt j=>obtain ⟨t',rfl⟩:=ry;exact PySem.W.eq_bytes (fin_bl I q dec_byt)
  | _=>exact absurd (show false=true from hs) Bool.false_ne_true
 | _=>cases y<;>exact absurd (show false=true from hs) Bool.false_ne_true
theorem op_ne:OpR X (compareOp .NotEq) rNe:=by
 intro pins s σ H x y v u Q I rx ry h
 obtain ⟨hs,q⟩:=h
 cases x with
 | non=>
  cases rx
  cases y with
  | non=>cases ry;exact PySem.EqNone.ne_none_none (fin_bl I q (by simp))
  | bl j=>cases ry;exact PySem.EqNone.ne_none_bool (fin_bl I q (by simp))
  | int j=>obtain ⟨t',rfl⟩:=ry;exact PySem.EqNone.ne_none_int (fin_bl I q (by simp))
  | str j=>obtain ⟨t',rfl⟩:=ry;exact PySem.EqNone.ne_none_str (fin_bl I q (by simp))
  | _=>exact absurd (show false=true from hs) Bool.false_ne_true
 | bl i=>
  cases rx
  cases y with
  | non=>cases ry;exact PySem.EqNone.ne_bool_none (fin_bl I q (by simp))
  | bl j=>cases ry;exact ne_bool (fin_bl I q (congrArg not dec_bl))
  | str j=>obtain ⟨t',rfl⟩:=ry;exact PySem.EqMixed.ne_bool_str (fin_bl I q (by simp))
  | _=>exact absurd (show false=true from hs) Bool.false_ne_true
 | int i=>
  obtain ⟨t,rfl⟩:=rx
  cases y with
  | non=>cases ry;exact PySem.EqNone.ne_int_none (fin_bl I q (by simp))
  | int j=>obtain ⟨t',rfl⟩:=ry;exact ne_int (fin_bl I q (congrArg not dec_int))
  | str j=>obtain ⟨t',rfl⟩:=ry;exact PySem.EqMixed.ne_int_str (fin_bl I q (by simp))
  | _=>exact absurd (show false=true from hs) Bool.false_ne_true
 | str i=>
  obtain ⟨t,rfl⟩:=rx
  cases y with
  | non=>cases ry;exact PySem.EqNone.ne_str_none (fin_bl I q (by simp))
  | bl j=>cases ry;exact PySem.EqMixed.ne_str_bool (fin_bl I q (by simp))
  | int j=>obtain ⟨t',rfl⟩:=ry;exact PySem.EqMixed.ne_str_int (fin_bl I q (by simp))
  | str j=>obtain ⟨t',rfl⟩:=ry;exact ne_str (fin_bl I q (congrArg not dec_str))
  | _=>exact absurd (show false=true from hs) Bool.false_ne_true
 | byt i=>
  obtain ⟨t,rfl⟩:=rx
  cases y with
  | byt j=>obtain ⟨t',rfl⟩:=ry;exact PySem.W.ne_bytes (fin_bl I q (congrArg not dec_byt))
  | _=>exact absurd (show false=true from hs) Bool.false_ne_true
 | _=>cases y<;>exact absurd (show false=true from hs) Bool.false_ne_true
theorem op_lt:OpR X (compareOp .Lt) (rI0 fun i j=>.bl (decide (i<j))):=opB0 fun _ _ _ _ _ _ _ q=>lt_int q
theorem op_le:OpR X (compareOp .LtE) (rI0 fun i j=>.bl (decide (i<=j))):=opB0 fun _ _ _ _ _ _ _ q=>le_int q
theorem op_gt:OpR X (compareOp .Gt) (rI0 fun i j=>.bl (decide (j<i))):=opB0 fun _ _ _ _ _ _ _ q=>gt_int q
theorem op_ge:OpR X (compareOp .GtE) (rI0 fun i j=>.bl (decide (j<=i))):=opB0 fun _ _ _ _ _ _ _ q=>ge_int q
theorem op_isN:OpR X (compareOp .Is) (fun x y H Q=>y=.non/\Q (.bl (decide (x=.non))) H):=by
 intro pins s σ H x y v u Q I rx ry h
 obtain ⟨rfl,q⟩:=h
 cases ry
 refine is_none_gen (fin_bl I q ?_)
 cases x<;>first
  | (cases rx;rfl)
  | (obtain ⟨t,rfl⟩:=rx;rfl)
theorem nomark (b:Expr) {op:CmpOp} (h:op≠.In:=by decide) (h2:op≠.NotIn:=by decide):behindInMarks op b=false:=by
 have e1:(op==CmpOp.In)=false:=by cases op<;>first | rfl | exact absurd rfl h
 have e2:(op==CmpOp.NotIn)=false:=by cases op<;>first | rfl | exact absurd rfl h2
 cases b<;>simp [behindInMarks,e1,e2]
theorem pe_cmpR {op:CmpOp} {r:R2} (ho:OpR X (compareOp op) r) (ha:PE X a ta) (hb:PE X b tb) (hm:behindInMarks op b=false):PE X (.Compare a [op] [b] pos) (tOp r ta tb):=by
 intro pins s σ H Q I h
 exact wpAny_Compare1 (binT ha hb I h fun v u s2 x y H2 I2 rx ry q=>ho pins s2 σ H2 x y v u Q I2 rx ry q) hm
def tTest (t:TE):TT:=fun σ H Q=>t σ H fun x H'=>∃ k,x=.bl k/\Q k H'
theorem pt_cmpR {op:CmpOp} {r:R2} (ho:OpR X (compareOp op) r) (ha:PE X a ta) (hb:PE X b tb) (hm:behindInMarks op b=false):PT X (.Compare a [op] [b] pos) (tTest (tOp r ta tb)):=by
 intro pins s σ H Q I h
 refine wpAny_isTrue_Compare1 (thn (ha pins s σ H _ I h) fun v s1 ⟨x,H1,I1,r1,q1⟩=>thn (hb pins s1 σ H1 _ I1 q1) fun u s2 ⟨y,H2,I2,r2,q2⟩=>
  thn (ho pins s2 σ H2 x y v u _ I2 r1 r2 q2) fun c s3 ⟨z,H3,I3,r3,k,e,q3⟩=>?_) hm
 subst e
 cases r3
 exact wpAny_truthy_bool ⟨H3,I3,q3⟩
def TruV (K:PySem.W.Frag) (x:V) (H:Hp) (k:Bool):Prop:=
 match x with
 | .non=>k=false
 | .bl b=>k=b
 | .int i=>k=(i != 0)
 | .str y=>y.length<=sizeLine/\k=((y.length:Int) != 0)
 | .byt y=>y.size<=sizeLine/\k=((y.size:Int) != 0)
 | .ref p=>(∃ xs,SqL K H p xs/\k = !xs.isEmpty)\/(∃ xs,SqT K H p xs/\k = !xs.isEmpty)\/∃ kvs,H p=some (.dK kvs)/\k = !kvs.isEmpty
 | _=>False
theorem isEmpty_kv {κ:Type} {kvs:List (κ × V)} {vs:List (κ × Value)} (r:KV kvs vs):(!vs.isEmpty) = !kvs.isEmpty:=by
 cases r<;>rfl
theorem isEmpty_of {xs:List V} {its:List Value} (r:Vals xs its):(!its.toArray.isEmpty) = !xs.isEmpty:=by
 cases r<;>simp
theorem line63:(sizeLine:Nat)<2 ^ 63:=by rw [sizeLine_eq];decide
theorem tru_ok:TruR X (fun x H Q=>∃ k,TruV X.K x H k/\Q k H):=by
 intro pins s σ H x v Q I rx h
 obtain ⟨k,e,q⟩:=h
 have hl:=line63
 have hs:sizeLine=16777216:=sizeLine_eq
 cases x with
 | non=>
  cases rx
  have e':k=false:=e
  subst e'
  exact truthy_none ⟨H,I,q⟩
 | bl b=>
  cases rx
  have e':k=b:=e
  subst e'
  exact wpAny_truthy_bool ⟨H,I,q⟩
 | int i=>
  obtain ⟨t,rfl⟩:=rx
  have e':k=(i != 0):=e
  subst e'
  exact PySem.P.truthy_int ⟨H,I,q⟩
 | str y=>
  obtain ⟨t,rfl⟩:=rx
  obtain ⟨hy,e'⟩:y.length<=sizeLine/\k=((y.length:Int) != 0):=e
  subst e'
  exact PySem.P.truthy_str (by omega) ⟨H,I.tok _,q⟩
 | byt y=>
  obtain ⟨t,rfl⟩:=rx
  obtain ⟨hy,e'⟩:y.size<=sizeLine/\k=((y.size:Int) != 0):=e
  subst e'
  exact PySem.W.truthy_bytes (by omega) ⟨H,I.tok _,q⟩
 | ref p=>
  cases rx
  have e':(∃ xs,SqL X.K H p xs/\k = !xs.isEmpty)\/(∃ xs,SqT X.K H p xs/\k = !xs.isEmpty)\/∃ kvs,H p=some (.dK kvs)/\k = !kvs.isEmpty:=e
  rcases e' with ⟨xs,hx,e'⟩ | ⟨xs,hx,e'⟩ | ⟨kvs,hx,e'⟩
  ·subst e'
   obtain ⟨its,r,pl,hz⟩:=I.list hx
   have hlen:=r.length
   exact wpAny_truthy_list pl.isList (by simp only [List.size_toArray];omega) ⟨H,I.tok _,by rw [isEmpty_of r];exact q⟩
  ·subst e'
   obtain ⟨its,r,pl,hz⟩:=I.tuple hx
   have hlen:=r.length
   exact truthy_tuple pl (by simp only [List.size_toArray];omega) ⟨H,I.tok _,by rw [isEmpty_of r];exact q⟩
  ·subst e'
   obtain ⟨hz,hS,vs,r,m⟩:kvs.length<=sizeLine/\(p==sysModules)=false/\∃ vs,KV kvs vs/\s.heap.DictOf (mixKind X.prog X.w) p vs:=I.hok p _ hx
   have hlen:kvs.length=vs.length:=Paired.length r
   exact wpAny_truthy_dict hS m (by omega) ⟨H,I.tok _,by rw [isEmpty_kv r];exact q⟩
 | _=>exact (show False from e).elim
theorem pt_truth (ha:PE X a ta) (he:∀ whole,isTrue a X.env whole=(do let v <-whole;standAt a.pos;holding [v] (truthy v))) :
  PT X a (fun σ H Q=>ta σ H fun x H'=>∃ k,TruV X.K x H' k/\Q k H'):=by
 intro pins s σ H Q I h
 exact isTrue_plain (thn (ha pins s σ H _ I h) fun v s1 ⟨x,H1,I1,r1,q1⟩=>tru_ok pins s1 σ H1 x v Q I1 r1 q1) (he _)
theorem vals1 {x:V} {us:List Value} (r:Vals [x] us):∃ u,us=[u]/\RelV x u:=by
 cases r with
 | cons r1 r2=>cases r2;exact ⟨_,rfl,r1⟩
theorem call_abs:CallR X (.builtin "abs") (fun xs H Q=>∃ i,xs=[.int i]/\Q (.int (if i<0 then -i else i)) H):=by
 intro pins s σ H xs us Q I r h
 obtain ⟨i,rfl,q⟩:=h
 obtain ⟨u,rfl,t,rfl⟩:=vals1 r
 exact call_abs_int fun u tk=>⟨.int (if i<0 then -i else i),H,I.tok _,⟨_,rfl⟩,q⟩
end
end L2
namespace L2
open PySem PySem.Spec PyProof.Rows
structure ObjM (h:Heap) (x dx C:Addr) (mA:Str->Option Value):Prop where
 obj:h.get? x=some (PySem.W.instObj C dx)
 ns:h.Ns1 dx mA
 ne:dx≠x
theorem lookIn_ns {h:Heap} {dx:Addr} {mA:Str->Option Value} (n:h.Ns1 dx mA):∃ od,h.get? dx=some od/\∀ name,PySem.W.lookIn name od=some (mA name):=by
 obtain ⟨o,es,ep,ho,hd,hk,_,hm⟩:=n
 refine ⟨o,ho,fun name=>?_⟩
 have e:=hm name
 unfold nsFind findBy at e
 rw [<-Array.find?_toList] at e
 unfold PySem.W.lookIn
 rw [hd]
 dsimp only
 split
 ·rename_i y q
  rw [q] at e
  exact congrArg some e
 ·rename_i q
  rw [q] at e
  have a:es.toList.any (·.refKey)=false:=by
   rw [List.any_eq_false]
   intro y hy
   obtain ⟨z,t,hkey⟩:=hk y (Array.mem_toList_iff.mp hy)
   simp [DictEntry.refKey,hkey]
  have a':¬ es.toList.any (·.refKey)=true:=by rw [a];exact Bool.false_ne_true
  rw [if_neg a']
  exact congrArg some e
theorem ObjM.look {h:Heap} {x dx C:Addr} {mA:Str->Option Value} (I:ObjM h x dx C mA):∃ od,PySem.W.InstAt h x (PySem.W.instObj C dx) C (some od)/\∀ name,PySem.W.lookIn name od=some (mA name):=
 let ⟨od,ho,hl⟩:=lookIn_ns I.ns
 ⟨od,⟨I.obj,rfl,rfl,ho⟩,hl⟩
section
variable {prog:Program} {w:World} {A:Around} {E:Value->Shared->Prop} {s:Shared} {K:PySem.W.Frag} {x dx C f:Addr} {mA:Str->Option Value} {name:Str} {v:Value}
theorem get_map {expr:Bool} {Q:Value->Shared->Prop} (X:K.In s.heap) (I:ObjM s.heap x dx C mA) (hg:PySem.W.plainGet K C name=true) (hh:PySem.W.hasDictIn K C=true)
  (ha:PySem.W.findIn K (.ref C) name=some none) (hv:mA name=some v) (hv':PySem.W.handedIn v=true) (h:Q v {s with toks:=s.toks+1}) :
  wpAny (model prog w) A (getAttr (.ref x) name expr) Q E s:=by
 obtain ⟨od,J,hl⟩:=I.look
 exact PySem.W.get_value X J (PySem.W.plainGet_of hg).1 (PySem.W.findObj_own hh ha rfl (by rw [hl,hv])) hv' h
theorem set_map {ns:List Str} {Q:Unit->Shared->Prop} (X:K.In s.heap) (I:ObjM s.heap x dx C mA)
  (hs:PySem.W.findIn K (.ref C) "__setattr__" = some (some (.builtin "object.__setattr__"))) (hp:PySem.W.plainOver K C=true) (ht:PySem.W.takerIn K C name=some none) (hh:PySem.W.hasDictIn K C=true)
  (hw:PySem.Within mA ns) (hsz:ns.length<=sizeLine)
  (h:∀ h',ObjM h' x dx C (fun y=>if y=name then some v else mA y)->Heap.SameBut dx s.heap h'->Q () {s with heap:=h',toks:=s.toks+2}) :
  wpAny (model prog w) A (setAttr (.ref x) name v) Q E s:=by
 obtain ⟨od,J,hl⟩:=I.look
 refine PySem.W.set_plain X J hs (PySem.W.osa_open (s:={s with toks:=s.toks+1}) (r:=none) X J hp ht fun b=>?_)
 obtain ⟨cd,hc,hd'⟩:=PySem.W.any_some hh
 have hx:s.heap.get? x=some ⟨.ref C,some dx,.plain,#[]⟩:=I.obj
 refine wpAny_bind (wpAny_pure (wpAny_bind (wpAny_bind (wpAny_loadPart hx (wpAny_bind (PySem.W.Looks.here (s:={s with toks:=s.toks+1}) (PySem.W.looks_clsIn X hc) ?_))))))
 rw [hd']
 refine wpAny_pure (a:=some dx) (wpAny_bind (wpAny_pure (wpAny_bind ?_)))
 refine wpAny_nsSet1 (s:={s with toks:=s.toks+1}) I.ns fun h' hn2 hs2=>?_
 obtain ⟨oD,esD,epD,hoD,hdD,hcD⟩:=hn2.count (PySem.Within.cons name v hw)
 refine wpAny_bind (wpAny_lookBehind hoD (by rw [hdD];exact pastItsLine_dict (Nat.le_trans hcD (by rw [List.length_cons];omega))) ?_)
 exact wpAny_pure (h _ ⟨(hs2.2 _ (Ne.symm I.ne)).trans I.obj,hn2,I.ne⟩ hs2)
theorem make_map {R:Result->Shared->Prop} {vs:List Value} {kw:List (Str × Value)} (X:K.In s.heap) (hm:PySem.W.makesIn K C=true)
  (hi:PySem.W.findIn K (.ref C) "__init__" = some (some (.ref f))) (hf:PySem.W.typeIn K (.ref f)=some (.type "function"))
  (h:codeAny (model prog w) (A.under (.builtin "type.__call__" ⟨.ref C :: vs,kw⟩)) (.call (.ref f) ⟨.ref (s.heap.objs.size+1) :: vs,kw⟩) (PySem.W.InitBack (s.heap.objs.size+1) R)
   {s with heap:=(s.heap.push PySem.W.emptyDict).push (PySem.W.instObj C s.heap.objs.size)}) :
  codeAny (model prog w) A (.call (.ref C) ⟨vs,kw⟩) R s:=by
 obtain ⟨hh,g,d,t,os⟩:=s
 exact PySem.W.make_core (PySem.W.makes_of X hm) (PySem.W.looks_findIn X hi) (fun self=>PySem.W.bind_fn X self hf) (.inl rfl) h
end
def putF (f:Str) (v:V):List (Str × V)->List (Str × V)
 | []=>[(f,v)]
 | (g,x) :: r=>if g=f then (g,v) :: r else (g,x) :: putF f v r
theorem lookup_putF (f g:Str) (v:V):∀ fs:List (Str × V),(putF f v fs).lookup g=if g=f then some v else fs.lookup g
 | []=>by
  show List.lookup g [(f,v)]=_
  by_cases h:g=f
  ·have hb:(g==f)=true:=beq_iff_eq.mpr h
   simp only [List.lookup,hb,if_pos h]
  ·have hb:(g==f)=false:=beq_eq_false_iff_ne.mpr h
   simp only [List.lookup,hb,if_neg h]
 | (k,x) :: r=>by
  have ih:=lookup_putF f g v r
  rw [show putF f v ((k,x) :: r)=(if k=f then (k,v) :: r else (k,x) :: putF f v r) from rfl]
  by_cases hk:k=f
  ·rw [if_pos hk]
   by_cases h:g=k
   ·have hb:(g==k)=true:=beq_iff_eq.mpr h
    simp only [List.lookup,hb,if_pos (h.trans hk)]
   ·have hb:(g==k)=false:=beq_eq_false_iff_ne.mpr h
    simp only [List.lookup,hb,if_neg (fun e:g=f=>h (e.trans hk.symm))]
  ·rw [if_neg hk]
   by_cases h:g=k
   ·have hb:(g==k)=true:=beq_iff_eq.mpr h
    simp only [List.lookup,hb,if_neg (fun e:g=f=>hk (h.symm.trans e))]
   ·have hb:(g==k)=false:=beq_eq_false_iff_ne.mpr h
    simp only [List.lookup,hb]
    exact ih
theorem keys_putF (f:Str) (v:V):∀ fs:List (Str × V),f∈(putF f v fs).map (·.1)/\∀ g,g∈fs.map (·.1)->g∈(putF f v fs).map (·.1)
 | []=>⟨by simp [putF],fun g h=>by simp at h⟩
 | (k,x) :: r=>by
  obtain ⟨i1,i2⟩:=keys_putF f v r
  rw [show putF f v ((k,x) :: r)=(if k=f then (k,v) :: r else (k,x) :: putF f v r) from rfl]
  by_cases hk:k=f
  ·rw [if_pos hk]
   subst hk
   exact ⟨by simp,fun g h=>by simpa using h⟩
  ·rw [if_neg hk]
   refine ⟨?_,fun g h=>?_⟩
   ·rw [List.map_cons]
    exact List.mem_cons_of_mem _ i1
   ·rw [List.map_cons] at h ⊢
    rcases List.mem_cons.mp h with e | e
    ·exact List.mem_cons.mpr (.inl e)
    ·exact List.mem_cons_of_mem _ (i2 g e)
theorem length_putF (f:Str) (v:V):∀ fs:List (Str × V),(putF f v fs).length<=fs.length+1
 | []=>by simp [putF]
 | (k,x) :: r=>by
  have ih:=length_putF f v r
  rw [show putF f v ((k,x) :: r)=(if k=f then (k,v) :: r else (k,x) :: putF f v r) from rfl]
  by_cases hk:k=f
  ·rw [if_pos hk,List.length_cons,List.length_cons];omega
  ·rw [if_neg hk,List.length_cons,List.length_cons];omega
theorem RelO.some_of {v:V} {o:Option Value} (r:RelO (some v) o):∃ u,o=some u/\RelV v u:=by
 cases o with
 | none=>exact (show False from r).elim
 | some u=>exact ⟨u,rfl,r⟩
theorem handed_of {v:V} {u:Value} (r:RelV v u):PySem.W.handedIn u=true:=by
 cases v with
 | non=>cases (show u=Value.none from r);rfl
 | bl b=>cases (show u=Value.bool b from r);rfl
 | int i=>obtain ⟨t,e⟩:=(show ∃ t,u=Value.int i t from r);cases e;rfl
 | str x=>obtain ⟨t,e⟩:=(show ∃ t,u=Value.str x t from r);cases e;rfl
 | byt b=>obtain ⟨t,e⟩:=(show ∃ t,u=Value.bytes b t from r);cases e;rfl
 | flt b=>obtain ⟨t,e⟩:=(show ∃ t,u=Value.float b t from r);cases e;rfl
 | ref a=>cases (show u=Value.ref a from r);rfl
 | ty n=>cases (show u=Value.type n from r);rfl
section
variable {P:Program} {w:World} {H H':Hp} {h h':Heap} {a C dx:Addr} {fs fs':List (Str × V)}
theorem ins_get (hok:HOk P w H h) (e:H a=some (.ins C dx fs)):∃ mA,ObjM h a dx C mA/\(∀ f,RelO (fs.lookup f) (mA f))/\PySem.Within mA (fs.map (·.1))/\fs.length<=1000/\H dx=some (.own a):=by
 obtain ⟨d,z,ne,ob,mA,n,r,q⟩:=(show ObjOk P w H h a (.ins C dx fs) from hok a _ e)
 exact ⟨mA,⟨ob,n,ne⟩,r,q,z,d⟩
end
structure Cls (K:PySem.W.Frag) (C:Addr):Prop where
 pg:PySem.W.plainGet K C Str.empty=true
 hd:PySem.W.hasDictIn K C=true
 po:PySem.W.plainOver K C=true
 sa:PySem.W.findIn K (.ref C) "__setattr__" = some (some (.builtin "object.__setattr__"))
theorem Cls.get {K:PySem.W.Frag} {C:Addr} (c:Cls K C) (f:Str):PySem.W.plainGet K C f=true:=c.pg
def NoAttr (K:PySem.W.Frag) (C:Addr) (f:Str):Prop:=PySem.W.findIn K (.ref C) f=some none
theorem NoAttr.taker {K:PySem.W.Frag} {C:Addr} {f:Str} (n:NoAttr K C f):PySem.W.takerIn K C f=some none:=by
 unfold PySem.W.takerIn
 rw [show PySem.W.findIn K (.ref C) f=some none from n]
 rfl
section
variable {X:Cx} {pins:List (Addr × Obj)} {σ:St} {H:Hp} {s:Shared} {a C dx:Addr} {fs:List (Str × V)} {f:Str} {v:V} {A:Around} {E:Value->Shared->Prop}
theorem getattr_ok {b:Bool} {Q:Value->Shared->Prop} (I:Inv X pins σ H s) (e:H a=some (.ins C dx fs)) (c:Cls X.K C) (n:NoAttr X.K C f) (l:fs.lookup f=some v)
  (h:∀ u s',Inv X pins σ H s'->RelV v u->Q u s'):wpAny (model X.prog X.w) A (getAttr (.ref a) f b) Q E s:=by
 obtain ⟨mA,O,r,_,_,_⟩:=ins_get I.hok e
 obtain ⟨u,hu,ru⟩:=RelO.some_of (v:=v) (o:=mA f) (by rw [<-l];exact r f)
 exact get_map I.kIn O (c.get f) c.hd n hu (handed_of ru) (h u _ (I.tok _) ru)
theorem setattr_ok {y:V} {u:Value} {Q:Unit->Shared->Prop} (I:Inv X pins σ H s) (e:H a=some (.ins C dx fs)) (c:Cls X.K C) (n:NoAttr X.K C f) (hl:fs.length<1000) (ry:RelV y u)
  (h:∀ s',Inv X pins σ (upd H a (.ins C dx (putF f y fs))) s'->Q () s'):wpAny (model X.prog X.w) A (setAttr (.ref a) f u) Q E s:=by
 obtain ⟨mA,O,r,wi,_,ho⟩:=ins_get I.hok e
 have hz:(fs.map (·.1)).length<=sizeLine:=by rw [List.length_map,sizeLine_eq];omega
 refine set_map I.kIn O c.sa c.po n.taker c.hd wi hz fun h' O' sb=>h _ ?_
 have hd:∃ o,h'.get? dx=some o:=let ⟨o,_,_,e',_⟩:=O'.ns;⟨o,e'⟩
 refine I.write (x:=a) (e:=dx) (by rw [e];exact True.intro) (.inr ho) (fun b q hb z=>(sb.2 b hb).trans z) hd ?_
 refine ⟨by rw [upd_ne O.ne];exact ho,?_,O.ne,O'.obj,_,O'.ns,fun g=>?_,fun g hg=>?_⟩
 ·have:=length_putF f y fs;omega
 ·show RelO ((putF f y fs).lookup g) (if g=f then some u else mA g)
  rw [lookup_putF]
  by_cases q:g=f
  ·rw [if_pos q,if_pos q];exact ry
  ·rw [if_neg q,if_neg q];exact r g
 ·by_cases q:g=f
  ·rw [q];exact (keys_putF f y fs).1
  ·refine (keys_putF f y fs).2 g (wi g fun z=>hg ?_)
   show (if g=f then some u else mA g)=none
   rw [if_neg q];exact z
theorem Inv.made (I:Inv X pins σ H s):Inv X pins σ (upd (upd H s.heap.objs.size (.own (s.heap.objs.size+1))) (s.heap.objs.size+1) (.ins C s.heap.objs.size []))
  {s with heap:=(s.heap.push PySem.W.emptyDict).push (PySem.W.instObj C s.heap.objs.size)}:=by
 have e1:(s.heap.push PySem.W.emptyDict).get? s.heap.objs.size=some PySem.W.emptyDict:=Heap.get?_push_size s.heap rfl
 have e2:((s.heap.push PySem.W.emptyDict).push (PySem.W.instObj C s.heap.objs.size)).get? (s.heap.objs.size+1)=some (PySem.W.instObj C s.heap.objs.size):=by
  have:=Heap.get?_push_size (s.heap.push PySem.W.emptyDict) (o:=PySem.W.instObj C s.heap.objs.size) rfl
  rwa [Heap.size_push] at this
 have e3:(s.heap.push PySem.W.emptyDict).Ns s.heap.objs.size (fun _=>none):=⟨PySem.W.emptyDict,#[],_,e1,rfl,(fun e he=>absurd he (by simp)),fun _=>rfl⟩
 have I1:=I.laid (a:=s.heap.objs.size) (o:=.own (s.heap.objs.size+1)) (h':=s.heap.push PySem.W.emptyDict) (t':=s.toks) (fun b u q=>Heap.get?_push_of_some _ q) (Nat.le_refl _) ⟨_,e1⟩
 refine I1.laid (a:=s.heap.objs.size+1) (o:=.ins C s.heap.objs.size []) (t':=s.toks) (fun b u q=>Heap.get?_push_of_some _ q) (Nat.le_of_eq (Heap.size_push _ _)) ?_
 have ne:s.heap.objs.size≠s.heap.objs.size+1:=Nat.ne_of_lt (Nat.lt_succ_self _)
 refine ⟨by rw [upd_ne ne,upd_same],Nat.zero_le _,ne,e2,fun _=>none,(Heap.Ns1.of_empty e3).at fun o q=>Heap.get?_push_of_some _ q,fun _=>True.intro,fun y hy=>absurd rfl hy⟩
theorem attr_of {prog:Program} {w:World} {env:Env} {e:Expr} {f:Str} {pos:Pos} {s:Shared} {Q:Value->Shared->Prop} (hb:attributeBase e f env (eval e env)=eval e env)
  (h:wpAny (model prog w) A (eval e env) (fun o s₁=>wpAny (model prog w) A (getAttr o f true) Q E s₁) E s):wpAny (model prog w) A (eval (.Attribute e f pos) env) Q E s:=
 Attribute_any_ h (by rw [arm_eval_Attribute,hb])
end
def tFld (K:PySem.W.Frag) (ta:TE) (f:Str):TE:=fun σ H Q=>ta σ H fun x H1=>∃ a C dx fs v,x=.ref a/\H1 a=some (.ins C dx fs)/\Cls K C/\NoAttr K C f/\fs.lookup f=some v/\Q v H1
def sFld (K:PySem.W.Frag) (ta tv:TE) (f:Str):TS:=fun D σ H=>tv σ H fun y H1=>ta σ H1 fun x H2=>∃ a C dx fs,x=.ref a/\H2 a=some (.ins C dx fs)/\Cls K C/\NoAttr K C f/\fs.length<1000 /\
 D.nx σ (upd H2 a (.ins C dx (putF f y fs)))
section
variable {X:Cx} {o e value:Expr} {f:Str} {pos pos' tpos:Pos} {ta tv:TE}
theorem pe_fld (he:PE X e ta) (hb:attributeBase e f X.env (eval e X.env)=eval e X.env):PE X (.Attribute e f pos) (tFld X.K ta f):=by
 intro pins s σ H Q I h
 refine attr_of hb (thn (he pins s σ H _ I h) fun u s1 ⟨x,H1,I1,rx,a,C,dx,fs,v,ex,ea,c,n,l,q⟩=>?_)
 subst ex
 obtain rfl:u=Value.ref a:=rx
 exact getattr_ok I1 ea c n l fun u' s2 I2 ru=>⟨v,H1,I2,ru,q⟩
theorem ps_fld (ha:PE X o ta) (hv:PE X value tv) (hs:swapsWith value (some (.Attribute o f pos')) pos.line X.env=pure false):PS X (.Assign [.Attribute o f pos'] value pos) (sFld X.K ta tv f):=by
 intro pins s σ H D I h
 refine plainObj_wpAny_Assign_Attribute (thn (hv pins s σ H _ I h) fun u s1 ⟨y,H1,I1,ry,q⟩=>thn (ha pins s1 σ H1 _ I1 q) fun ov s2 ⟨x,H2,I2,rx,a,C,dx,fs,ex,ea,c,n,l,q2⟩=>?_) hs
 subst ex
 obtain rfl:ov=Value.ref a:=rx
 exact setattr_ok I2 ea c n l ry fun s3 I3=>⟨σ,_,I3,q2⟩
end
end L2
namespace L2
open PySem PySem.Spec PyProof.Rows
structure Room (k:Nat) (A:Around):Prop where
 hd:A.handled=none
 dp:A.depth+3*k+5<recursionLimit
 un:A.units+16*k+200<cLine
theorem Room.mono {j k:Nat} {A:Around} (r:Room k A) (h:j<=k):Room j A:=⟨r.hd,by have:=r.dp;omega,by have:=r.un;omega⟩
theorem Room.deeper {k:Nat} {A:Around} (r:Room (k+1) A) (env:Env):Room k (A.deeper env):=
 ⟨r.hd,by have:=r.dp;show A.depth+1+3*k+5<_;omega,by have:=r.un;show A.units+3+16*k+200<_;omega⟩
theorem make_depth {A:Around} {C:Addr} {us:List Value} {kw:List (Str × Value)}:(A.under (.builtin "type.__call__" ⟨.ref C :: us,kw⟩)).depth=A.depth+1:=by
 first | rfl | simp [Around.under,Code.weight,Code.isCreation,Code.isGuard,Code.isCaller,Code.frames,Code.isFrame,guardIds]
theorem make_units {A:Around} {C:Addr} {us:List Value} {kw:List (Str × Value)}:(A.under (.builtin "type.__call__" ⟨.ref C :: us,kw⟩)).units=A.units+1:=by
 first | rfl | simp [Around.under,Code.cUnits,Code.frames,Code.isFrame]
theorem Room.make {k:Nat} {A:Around} (r:Room (k+1) A) (C:Addr) (us:List Value) (kw:List (Str × Value)):Room k (A.under (.builtin "type.__call__" ⟨.ref C :: us,kw⟩)):=
 ⟨r.hd,by have:=r.dp;rw [make_depth];omega,by have:=r.un;rw [make_units];omega⟩
theorem Room.depth {k:Nat} {A:Around} (r:Room k A):A.depth<recursionLimit:=by have:=r.dp;omega
theorem Room.units {k:Nat} {A:Around} (r:Room k A):A.units+64<cLine:=by have:=r.un;omega
def tNil:TA:=fun _ H Q=>Q [] H
def tCons (ta:TE) (tr:TA):TA:=fun σ H Q=>ta σ H fun x H1=>tr σ H1 fun xs H2=>Q (x :: xs) H2
section
variable {X:Cx} {e:Expr} {es:List Expr} {te:TE} {t:TA} {pos:Pos}
theorem pa_nil:PA X [] tNil:=fun _ _ _ _ H Q I h=>Calls.spliced_nil ⟨[],H,I,.nil,h⟩
theorem pa_cons (ha:PE X e te) (hr:PA X es t) (hs:starEach (e :: es) X.env=(false,eval e X.env) :: starEach es X.env:=by rfl):PA X (e :: es) (tCons te t):=by
 intro pos pins s σ H Q I h
 rw [hs]
 show wpAny _ _ (spliced ((false,eval e X.env) :: backTo pos (starEach es X.env))) _ _ s
 refine Calls.spliced_cons (thn (ha pins s σ H _ I h) fun u s1 ⟨x,H1,I1,r1,q1⟩=>?_)
 exact thn (hr pos pins s1 σ H1 _ I1 q1) fun us s2 ⟨xs,H2,I2,r2,q2⟩=>⟨x :: xs,H2,I2,.cons r1 r2,q2⟩
def tTup (t:TA):TE:=fun σ H Q=>t σ H fun xs H1=>xs.length<=sizeLine/\∀ p,H1 p=none->Q (.ref p) (upd H1 p (.tup xs))
def tLst (t:TA):TE:=fun σ H Q=>t σ H fun xs H1=>xs.length<=sizeLine/\∀ p,H1 p=none->Q (.ref p) (upd H1 p (.lst xs))
theorem pe_tup {x1} (h:PA X es t):PE X (.Tuple es x1 pos) (tTup t):=by
 intro pins s σ H Q I hq
 refine wpAny_Tuple_spliced (thn (h pos pins s σ H _ I hq) fun us s1 ⟨xs,H1,I1,r,z,q⟩=>⟨by rw [<-r.length];exact z,?_⟩)
 have hf:H1 s1.heap.objs.size=none:=I1.hok.fresh (Nat.le_refl _)
 refine ⟨.ref s1.heap.objs.size,upd H1 s1.heap.objs.size (.tup xs),I1.laid (t':=s1.toks) (fun b u e=>Heap.get?_push_of_some _ e) (Nat.le_refl _) ?_,rfl,q _ hf⟩
 exact ⟨z,us,r,⟨_,Heap.get?_push_size _ rfl,rfl,_,rfl⟩⟩
theorem pe_lst (h:PA X es t):PE X (.List es pos) (tLst t):=by
 intro pins s σ H Q I hq
 refine wpAny_List_spliced (thn (h pos pins s σ H _ I hq) fun us s1 ⟨xs,H1,I1,r,z,q⟩=>⟨by rw [<-r.length];exact z,?_⟩)
 have hf:H1 s1.heap.objs.size=none:=I1.hok.fresh (Nat.le_refl _)
 refine ⟨.ref s1.heap.objs.size,upd H1 s1.heap.objs.size (.lst xs),I1.laid (t':=s1.toks) (fun b u e=>Heap.get?_push_of_some _ e) (Nat.le_refl _) ?_,rfl,q _ hf⟩
 exact ⟨z,us,0,r,Heap.get?_push_size _ rfl⟩
end
abbrev Sp:=List V->Hp->VK->XK->Prop
abbrev CXT:=List Env->Hp->Shared->XK->Value->Shared->Prop
structure Env0 (P:Program) (w:World) (K:PySem.W.Frag) (mg:Str->Option Value) (base:Heap) (A:Around) (outer:List Env) (s:Shared) (H:Hp):Prop where
 frames:A.frames=some outer
 mod:Mod K mg base
 bs:∀ b o,base.get? b=some o->s.heap.get? b=some o/\H b=none
 bsz:base.objs.size<=s.heap.objs.size
 funs:s.heap.FunFrames base outer
 frf:∀ b∈frs outer,H b=none
 hok:HOk P w H s.heap
 bare:AllBare s.gens
def CE (outer:List Env) (P:Program) (w:World) (H:Hp) (s:Shared) (Q:VK) (u:Value) (s':Shared):Prop:=
 ∃ v H',s'.os=s.os/\AllBare s'.gens/\Un (frs outer) [] H H' s.heap s'.heap/\HOk P w H' s'.heap/\RelV v u/\Q v H'
def CR (CX:CXT) (outer:List Env) (P:Program) (w:World) (H:Hp) (s:Shared) (Q:VK) (E:XK) (r:Result) (s':Shared):Prop:=
 match r with
 | .ok (.ret u)=>CE outer P w H s Q u s'
 | .ok _=>False
 | .error e=>CX outer H s E e s'
structure FnOk (P:Program) (w:World) (K:PySem.W.Frag) (mg:Str->Option Value) (base:Heap) (CX:CXT) (k:Nat) (f:Addr) (fd:FuncData) (ps:List Str) (sp:Sp):Prop where
 len:∀ vs H Q E,sp vs H Q E->vs.length=ps.length
 run:∀ (A:Around) (outer:List Env) (s:Shared) (H:Hp) (args:Args) (us:List Value) (vs:List V) (Q:VK) (E:XK),Room k A->Env0 P w K mg base A outer s H->BindsTo s fd args (ps.zip us)->Vals vs us->sp vs H Q E ->
  codeAny (model P w) A (.call (.ref f) args) (CR CX outer P w H s Q E) s
theorem FnOk.mono {P:Program} {w:World} {K:PySem.W.Frag} {mg:Str->Option Value} {base:Heap} {CX:CXT} {j k:Nat} {f:Addr} {fd:FuncData} {ps:List Str} {sp:Sp} (F:FnOk P w K mg base CX j f fd ps sp) (h:j<=k) :
  FnOk P w K mg base CX k f fd ps sp:=⟨F.len,fun A outer s H args us vs Q E hr=>F.run A outer s H args us vs Q E (hr.mono h)⟩
theorem Env0.make {P:Program} {w:World} {K:PySem.W.Frag} {mg:Str->Option Value} {base:Heap} {A:Around} {outer:List Env} {s:Shared} {H:Hp} (e:Env0 P w K mg base A outer s H) (C:Addr) (us:List Value) (kw:List (Str × Value)) :
  Env0 P w K mg base (A.under (.builtin "type.__call__" ⟨.ref C :: us,kw⟩)) outer s H:=⟨by first | exact e.frames | (simpa [Around.under,Code.envs,Code.isFrame,pushEnvs] using e.frames),e.mod,e.bs,e.bsz,e.funs,e.frf,e.hok,e.bare⟩
section
variable {X:Cx} {pins:List (Addr × Obj)} {σ:St} {H:Hp} {s s':Shared}
theorem Inv.env0 (I:Inv X pins σ H s):Env0 X.prog X.w X.K X.mg X.base X.A X.stack s H:=
 ⟨I.ok.frames,I.ok.mod,I.bs,Nat.le_trans I.ok.bsz I.sz,I.stack,I.stkFree,I.hok,I.bare⟩
theorem Inv.after {Q:VK} {u:Value} (I:Inv X pins σ H s) (h:CE X.stack X.prog X.w H s Q u s'):EP X pins σ Q u s':=by
 obtain ⟨v,H',os,bare,un,hok,r,q⟩:=h
 obtain ⟨hh,g,d,t,os'⟩:=s'
 obtain rfl:os'=s.os:=os
 exact ⟨v,H',I.call (h':=hh) (g':=g) (d':=d) (t':=t) (ch:=[]) un hok bare (fun b z=>absurd z (by simp)),r,q⟩
end
def tCall (sp:Sp) (dvs:List V) (E:XK) (t:TA):TE:=fun σ H Q=>t σ H fun vs H1=>sp (vs++dvs) H1 Q E
def tMake (C:Addr) (sp:Sp) (dvs:List V) (E:XK) (t:TA):TE:=fun σ H Q=>t σ H fun vs H1=>∀ x dx,H1 x=none->H1 dx=none->dx≠x ->
 sp (.ref x :: (vs++dvs)) (upd (upd H1 dx (.own x)) x (.ins C dx [])) (fun v H2=>v=.non/\Q (.ref x) H2) E
def Binds (K:PySem.W.Frag) (fd:FuncData) (ps:List Str) (ds:List Value):Prop:=
 ∀ (s:Shared) (us:List Value),K.In s.heap->(us++ds).length=ps.length->BindsTo s fd ⟨us,[]⟩ (ps.zip (us++ds))
theorem Binds.all {K:PySem.W.Frag} {fd:FuncData} {ps:List Str} (h:∀ us:List Value,us.length=ps.length->bindArgs fd ⟨us,[]⟩=pure (ps.zip us)):Binds K fd ps []:=fun s us _ hl=>by
 rw [List.append_nil] at hl ⊢
 exact .of_eq (h us hl)
def Passes (CX:CXT) (X:Cx) (E:XK):Prop:=∀ (pins:List (Addr × Obj)) (σ:St) (H:Hp) (s:Shared) (e:Value) (s':Shared),Inv X pins σ H s->CX X.stack H s E e s'->X.xe e s'
section
variable {X:Cx} {CX:CXT} {k:Nat} {f C:Addr} {fd:FuncData} {ps:List Str} {sp:Sp} {dvs:List V} {ds:List Value} {E:XK} {x m:Str} {p pos apos:Pos} {e o:Expr} {es:List Expr} {ta:TE} {t:TA}
theorem run_fn {pins:List (Addr × Obj)} {σ:St} {H:Hp} {s:Shared} {Q:VK} {us:List Value} {vs:List V} (F:FnOk X.prog X.w X.K X.mg X.base CX k f fd ps sp) (hr:Room k X.A) (hb:Binds X.K fd ps ds) (hd:Vals dvs ds) (hx:Passes CX X E)
  (I:Inv X pins σ H s) (r:Vals vs us) (h:sp (vs++dvs) H Q E):wpAny (model X.prog X.w) X.A (call (.ref f) us) (EP X pins σ Q) X.xe s:=by
 have r2:Vals (vs++dvs) (us++ds):=r.append hd
 have hl:(us++ds).length=ps.length:=by rw [<-r2.length];exact F.len _ _ _ _ h
 refine wpAny_call (codeAny_mono (F.run X.A X.stack s H ⟨us,[]⟩ (us++ds) (vs++dvs) Q E hr I.env0 (hb s us I.kIn hl) r2 h) fun r s' hq=>?_)
 cases r with
 | error e=>exact hx pins σ H s e s' I hq
 | ok fl=>
  cases fl with
  | ret u=>exact I.after hq
  | next=>exact False.elim hq
  | brk=>exact False.elim hq
  | cont=>exact False.elim hq
theorem pe_call (F:FnOk X.prog X.w X.K X.mg X.base CX k f fd ps sp) (hr:Room k X.A) (hg:Gl X x) (hm:X.mg x=some (.ref f)) (hk:PySem.W.keepIn X.K (.ref f)=true) (hb:Binds X.K fd ps ds) (hd:Vals dvs ds) (hx:Passes CX X E)
  (ha:PA X (e :: es) t) (hdb:(x==("__debug__" : Str))=false:=by decide) (he:starEach (e :: es) X.env=(false,eval e X.env) :: starEach es X.env:=by rfl) (hpl:(backTo pos (starEach es X.env)).any (·.1)=false:=by rfl) :
  PE X (.Call (.Name x p) (e :: es) [] pos) (tCall sp dvs E t):=by
 intro pins s σ H Q I h
 refine wpAny_Call_Name_kw (ld_glob I hg hm ?_ hdb)
 refine PySem.W.callWith_K (h₀:=X.base) I.ok.mod.kin hk (thn (ha pos pins s σ H _ I h) fun us s1 ⟨vs,H1,I1,r,q⟩=>⟨I1.kIn,?_⟩) he hpl
 exact run_fn F hr hb hd hx I1 r q
structure Mk (K:PySem.W.Frag) (C f:Addr):Prop where
 makes:PySem.W.makesIn K C=true
 init:PySem.W.findIn K (.ref C) "__init__" = some (some (.ref f))
 fn:PySem.W.isFn K (.ref f)=true
 kp:PySem.W.keepIn K (.ref C)=true
theorem run_make {pins:List (Addr × Obj)} {σ:St} {H:Hp} {s:Shared} {Q:VK} {us:List Value} {vs:List V} (M:Mk X.K C f) (F:FnOk X.prog X.w X.K X.mg X.base CX k f fd ps sp) (hr:Room (k+1) X.A) (hb:Binds X.K fd ps ds) (hd:Vals dvs ds)
  (hx:Passes CX X E) (I:Inv X pins σ H s) (r:Vals vs us)
  (h:∀ x dx,H x=none->H dx=none->dx≠x->sp (.ref x :: (vs++dvs)) (upd (upd H dx (.own x)) x (.ins C dx [])) (fun v H2=>v=.non/\Q (.ref x) H2) E) :
  wpAny (model X.prog X.w) X.A (call (.ref C) us) (EP X pins σ Q) X.xe s:=by
 have hq:=h (s.heap.objs.size+1) s.heap.objs.size (I.hok.fresh (Nat.le_succ _)) (I.hok.fresh (Nat.le_refl _)) (Nat.ne_of_lt (Nat.lt_succ_self _))
 have I2:=Inv.made (C:=C) I
 have r2:Vals (V.ref (s.heap.objs.size+1) :: (vs++dvs)) (Value.ref (s.heap.objs.size+1) :: (us++ds)):=.cons rfl (r.append hd)
 have hl:(Value.ref (s.heap.objs.size+1) :: us++ds).length=ps.length:=by
  have e:=r2.length
  rw [F.len _ _ _ _ hq] at e
  exact e.symm
 refine wpAny_call (make_map (f:=f) I.kIn M.makes M.init (beq_iff_eq.mp M.fn) (codeAny_mono (F.run _ X.stack _ _ ⟨Value.ref (s.heap.objs.size+1) :: us,[]⟩ (Value.ref (s.heap.objs.size+1) :: (us++ds)) _ _ E (hr.make C us [])
  (I2.env0.make C us []) (hb _ (Value.ref (s.heap.objs.size+1) :: us) I2.kIn hl) r2 hq) fun r s' hq'=>?_))
 cases r with
 | error e=>exact hx pins σ _ _ e s' I2 hq'
 | ok fl=>
  cases fl with
  | ret u=>
   obtain ⟨v,H',I3,rv,ev,q3⟩:=I2.after hq'
   subst ev
   exact ⟨rv,⟨V.ref (s.heap.objs.size+1),H',I3,rfl,q3⟩⟩
  | next=>exact False.elim hq'
  | brk=>exact False.elim hq'
  | cont=>exact False.elim hq'
theorem pe_make (M:Mk X.K C f) (F:FnOk X.prog X.w X.K X.mg X.base CX k f fd ps sp) (hr:Room (k+1) X.A) (hg:Gl X x) (hm:X.mg x=some (.ref C)) (hb:Binds X.K fd ps ds) (hd:Vals dvs ds) (hx:Passes CX X E)
  (ha:PA X (e :: es) t) (hdb:(x==("__debug__" : Str))=false:=by decide) (he:starEach (e :: es) X.env=(false,eval e X.env) :: starEach es X.env:=by rfl) (hpl:(backTo pos (starEach es X.env)).any (·.1)=false:=by rfl) :
  PE X (.Call (.Name x p) (e :: es) [] pos) (tMake C sp dvs E t):=by
 intro pins s σ H Q I h
 refine wpAny_Call_Name_kw (ld_glob I hg hm ?_ hdb)
 refine PySem.W.callWith_K (h₀:=X.base) I.ok.mod.kin M.kp (thn (ha pos pins s σ H _ I h) fun us s1 ⟨vs,H1,I1,r,q⟩=>⟨I1.kIn,?_⟩) he hpl
 exact run_make M F hr hb hd hx I1 r q
end
structure FnScope (N P:List Str) (sc:Scope):Prop where
 kind:sc.kind=.function
 co:sc.isCoroutine=false
 gen:sc.isGenerator=false
 nd:N.Nodup
 pre:N.take P.length=P
 par:∀ x∈P,sc.names.lookup x=some .local\/sc.names.lookup x=some .cell
 nofree:∀ y∈sc.names,y.2≠.free
theorem bindL_out {kindOf:Str->Option NameKind} {x:Str}:∀ {binds:List (Str × Value)} {m:Str->Option Value},(∀ v,(x,v)∉binds)->bindL kindOf binds m x=m x
 | [],_,_=>rfl
 | (n,v) :: r,m,h=>by
  unfold bindL
  rw [bindL_out fun w hw=>h w (List.mem_cons_of_mem _ hw)]
  split
  ·have:x≠n:=by rintro rfl;exact h v List.mem_cons_self
   simp [this]
  ·rfl
theorem bindC_out {kindOf:Str->Option NameKind} {x:Str}:∀ {binds:List (Str × Value)} {m:Str->Option Value},(∀ v,(x,v)∉binds)->bindC kindOf binds m x=m x
 | [],_,_=>rfl
 | (n,v) :: r,m,h=>by
  unfold bindC
  rw [bindC_out fun w hw=>h w (List.mem_cons_of_mem _ hw)]
  split
  ·rfl
  ·have:x≠n:=by rintro rfl;exact h v List.mem_cons_self
   simp [this]
theorem bindL_get {kindOf:Str->Option NameKind} {x:Str} {v:Value}:∀ {P:List Str} {vs:List Value} {i:Nat} {m:Str->Option Value},P.Nodup->P[i]?=some x->vs[i]?=some v->kindOf x=some .local ->
  bindL kindOf (P.zip vs) m x=some v
 | [],_,_,_,_,h,_,_=>by simp at h
 | _ :: _,[],_,_,_,_,h,_=>by simp at h
 | p :: P,w :: vs,0,m,nd,h1,h2,hk=>by
  simp at h1 h2;subst h1;subst h2
  show bindL kindOf ((p,w) :: P.zip vs) m p=_
  unfold bindL
  rw [bindL_out fun v hv=>(List.nodup_cons.mp nd).1 (List.of_mem_zip hv).1,if_pos hk]
  simp
 | p :: P,w :: vs,i+1,m,nd,h1,h2,hk=>by
  show bindL kindOf ((p,w) :: P.zip vs) m x=_
  unfold bindL
  exact bindL_get (i:=i) (List.nodup_cons.mp nd).2 (by simpa using h1) (by simpa using h2) hk
theorem bindC_get {kindOf:Str->Option NameKind} {x:Str} {v:Value}:∀ {P:List Str} {vs:List Value} {i:Nat} {m:Str->Option Value},P.Nodup->P[i]?=some x->vs[i]?=some v->kindOf x≠some .local ->
  bindC kindOf (P.zip vs) m x=some v
 | [],_,_,_,_,h,_,_=>by simp at h
 | _ :: _,[],_,_,_,_,h,_=>by simp at h
 | p :: P,w :: vs,0,m,nd,h1,h2,hk=>by
  simp at h1 h2;subst h1;subst h2
  show bindC kindOf ((p,w) :: P.zip vs) m p=_
  unfold bindC
  rw [bindC_out fun v hv=>(List.nodup_cons.mp nd).1 (List.of_mem_zip hv).1,if_neg hk]
  simp
 | p :: P,w :: vs,i+1,m,nd,h1,h2,hk=>by
  show bindC kindOf ((p,w) :: P.zip vs) m x=_
  unfold bindC
  exact bindC_get (i:=i) (List.nodup_cons.mp nd).2 (by simpa using h1) (by simpa using h2) hk
def start (N:List Str) (vs:List V):St:=vs.map some++List.replicate (N.length-vs.length) none
def cxOf (CX:CXT) (P:Program) (w:World) (K:PySem.W.Frag) (mg:Str->Option Value) (base:Heap) (N:List Str) (qual:Str) (scope:Scope) (f:Addr) (cd:Value) (A:Around) (outer:List Env) (s:Shared) (H:Hp) (E:XK):Cx where
 prog:=P
 w:=w
 K:=K
 mg:=mg
 base:=base
 A:=A.deeper (envOfC qual scope s.heap.objs.size f cd)
 N:=N
 s_0:=s
 H_0:=H
 env:=envOfC qual scope s.heap.objs.size f cd
 outer:=outer
 stack:=envOfC qual scope s.heap.objs.size f cd :: outer
 ex:=[]
 calm:=true
 fn:=fun _=>true
 pn:=[]
 xe:=fun e s'=>wpAny (model P w) (A.deeper (envOfC qual scope s.heap.objs.size f cd)) (leaving (envOfC qual scope s.heap.objs.size f cd) e) (fun _ s''=>CX outer H s E e s'') (fun e' s''=>CX outer H s E e' s'') s'
theorem cell_has {sc:Scope} {n:Nat} {x:Str} (h:sc.names.lookup x=some .cell):∃ c,(cellsFrom n sc.names []).lookup x=some c:=by
 have q:=PySem.W.cellsFrom_some sc.names n [] (.inl h)
 exact Option.isSome_iff_exists.mp q
theorem inv_start {CX:CXT} {P:Program} {w:World} {K:PySem.W.Frag} {mg:Str->Option Value} {base:Heap} {N ps:List Str} {qual:Str} {scope:Scope} {f:Addr} {cd:Value} {A:Around} {outer:List Env} {s s1:Shared} {H:Hp} {E:XK} {us:List Value} {vs:List V}
  (S:FnScope N ps scope) (hd:A.handled=none) (e0:Env0 P w K mg base A outer s H) (hl:vs.length=ps.length) (r:Vals vs us)
  (x:InCallC s s.heap.objs.size (bindL (envOfC qual scope s.heap.objs.size f cd).kindOf (ps.zip us) fun _=>none) (cellsFrom (s.heap.objs.size+1) scope.names []) (bindC (envOfC qual scope s.heap.objs.size f cd).kindOf (ps.zip us) fun _=>none) s1) :
  Inv (cxOf CX P w K mg base N qual scope f cd A outer s H E) [] (start N vs) H s1:=by
 have hpl:ps.length<=N.length:=by have:=congrArg List.length S.pre;rw [List.length_take] at this;omega
 obtain ⟨h1,tk,rfl,hk⟩:=x.done
 have noA:∀ b:Addr,b∉(cxOf CX P w K mg base N qual scope f cd A outer s H E).ex:=fun b z=>absurd (show b∈([]:List Addr) from z) (by simp)
 refine ⟨⟨e0.mod,S.kind,rfl,rfl,Nat.le_refl _,fun y z c h1 h2=>?_,fun y hy=>?_,fun y c _ h=>?_,fun _=>hd,Around.frames_deeper e0.frames,.inr ⟨rfl,rfl⟩,fun b z=>absurd z (noA b),e0.bs,e0.bsz,fun b _ _=>noA b,fun b z=>absurd z (noA b),e0.funs,e0.frf⟩,
  rfl,e0.bare,Un.kept hk,⟨_,x.toInCall.ns,fun i y v h1 h2 h3=>?_⟩,fun y c h=>⟨_,x.cell y c h⟩,e0.hok.fresh (Nat.le_refl _),fun y c h=>?_,fun p hp=>absurd (show p∈([]:List (Addr × Obj)) from hp) (by simp),e0.hok.kept hk,?_⟩
 ·exact name_of_addr x.apart (PySem.mem_of_lookup h1) (PySem.mem_of_lookup h2)
 ·have hy:scope.names.lookup y=some .cell\/scope.names.lookup y=some .free:=hy
  rcases hy with hy | hy
  ·exact cell_has hy
  ·exact absurd rfl (S.nofree _ (PySem.mem_of_lookup hy))
 ·exact Nat.le_of_lt (x.above y c (PySem.mem_of_lookup h))
 ·have hi:i<vs.length:=by
   unfold start at h2
   by_cases hi:i<vs.length
   ·exact hi
   ·rw [List.getElem?_append_right (by simpa using hi)] at h2
    rw [List.getElem?_replicate] at h2
    split at h2<;>cases h2
  have ha:vs[i]?=some v:=by
   unfold start at h2
   rw [List.getElem?_append_left (by simpa using hi),List.getElem?_map] at h2
   cases e:vs[i]? with
   | none=>rw [e] at h2;cases h2
   | some a=>rw [e] at h2;cases h2;rfl
  obtain ⟨u,hu,rv⟩:=r.get ha
  have hp:ps[i]?=some y:=by
   rw [<-S.pre,List.getElem?_take_of_lt (by omega)];exact h1
  have ndP:ps.Nodup:=by rw [<-S.pre];exact S.nd.sublist (List.take_sublist _ _)
  refine ⟨u,rv,?_⟩
  rcases S.par y (List.mem_of_getElem? hp) with k | k
  ·exact .inl ⟨k,bindL_get ndP hp hu k⟩
  ·obtain ⟨c,e⟩:=cell_has (n:=s.heap.objs.size+1) k
   refine .inr ⟨.inl k,c,e,?_⟩
   have q:=x.cell y c e
   rw [bindC_get ndP hp hu (by show scope.names.lookup y≠_;rw [k];decide)] at q
   exact q
 ·exact e0.hok.fresh (Nat.le_of_lt (x.above y c (PySem.mem_of_lookup h)))
 ·unfold start
  show _=N.length
  rw [List.length_append,List.length_map,List.length_replicate]
  omega
theorem fn_of {CX:CXT} {P:Program} {w:World} {K:PySem.W.Frag} {mg:Str->Option Value} {base:Heap} {k:Nat} {f:Addr} {name qual:Str} {params:Arguments} {body:List Stmt} {scope:Scope} {dV kV doc pm cdv ct oc:Value} {an od:Option Addr}
  {osl:Array (Option Value)} {N ps:List Str} {sp:Sp} (lk:K.lookup f=some ⟨oc,od,.func (PySem.W.fnOf name qual params body scope dV kV doc pm an cdv ct),osl⟩) (hcd:PySem.W.codeIn K cdv qual=true) (S:FnScope N ps scope)
  (len:∀ vs H Q E,sp vs H Q E->vs.length=ps.length)
  (hbody:∀ (A:Around) (outer:List Env) (s:Shared) (H:Hp) (vs:List V) (Q:VK) (E:XK),Room k (A.deeper (envOfC qual scope s.heap.objs.size f cdv))->sp vs H Q E ->
   ∃ t,PSs (cxOf CX P w K mg base N qual scope f cdv A outer s H E) body t/\t {nx:=fun _ H'=>Q .non H',rt:=Q} (start N vs) H) :
  FnOk P w K mg base CX (k+1) f (PySem.W.fnOf name qual params body scope dV kV doc pm an cdv ct) ps sp:=by
 refine ⟨len,fun A outer s H args us vs Q E hr e0 hb r hsp=>?_⟩
 have hl:=len _ _ _ _ hsp
 have KX:K.In s.heap:=e0.mod.kin.keeps fun b o e=>(e0.bs b o e).1
 have lim:s.heap.NoLimit:=e0.mod.nolimit.keeps fun b o e=>(e0.bs b o e).1
 have hkind:∀ y∈ps.zip us,scope.names.lookup y.1=some .local\/(scope.names.lookup y.1=some .cell/\((cellsFrom (s.heap.objs.size+1) scope.names []).lookup y.1).isSome=true):=fun ⟨n,v⟩ hy=>by
  rcases S.par n (List.of_mem_zip hy).1 with q | q
  ·exact .inl q
  ·exact .inr ⟨q,PySem.W.cellsFrom_some _ _ _ (.inl q)⟩
 refine codeAny_call_function hr.depth (KX _ _ lk) rfl S.co S.gen rfl (PySem.W.codeRec_of KX hcd) (hb _ _ _ _ ?_)
 refine wpAny_newFunctionEnv_cells S.kind hkind fun env he s1 x=>?_
 subst he
 refine ⟨lim.keeps x.toInCall.keep,codeAny_func ?_⟩
 obtain ⟨t,ht,hq⟩:=hbody A outer s H vs Q E (hr.deeper _) hsp
 have I:Inv (cxOf CX P w K mg base N qual scope f cdv A outer s H E) [] (start N vs) H s1:=inv_start S hr.hd e0 hl r x
 refine wpAny_mono (ht [] s1 (start N vs) H _ I hq) (fun fl s' hs=>?_) fun e s' hs=>hs
 have fin:∀ {σ':St} {H':Hp} {v:V} {u:Value},Inv (cxOf CX P w K mg base N qual scope f cdv A outer s H E) [] σ' H' s'->RelV v u->Q v H'->CE outer P w H s Q u s':=
  fun {σ' H' v u} J rv q=>⟨v,H',J.os,J.bare,J.base,J.hok,rv,q⟩
 cases fl with
 | ret u=>
  obtain ⟨v,σ',H',J,rv,q⟩:=hs
  exact fin J rv q
 | next=>
  obtain ⟨σ',H',J,q⟩:=hs
  exact fin (v:=V.non) (u:=Value.none) J rfl q
 | brk=>
  obtain ⟨_,_,_,q⟩:=hs
  exact False.elim q
 | cont=>
  obtain ⟨_,_,_,q⟩:=hs
  exact False.elim q
end L2
namespace L2
open PySem PySem.Spec PyProof.Rows
section
variable {X:Cx} {x:Str} {p pos:Pos} {e:Expr} {es:List Expr} {t:TA} {id T:String} {r:List V->Hp->VK->Prop}
def tCB (r:List V->Hp->VK->Prop) (t:TA):TE:=fun σ H Q=>t σ H fun vs H1=>r vs H1 Q
theorem pe_callB (hc:CallR X (.builtin id) r) (hg:Gl X x) (hm:X.mg x=none) (hv:bootBuiltins x=some (.builtin id)) (ha:PA X (e :: es) t) (hn:x ≠ "__name__":=by decide) (hdb:(x==("__debug__" : Str))=false:=by decide)
  (he:starEach (e :: es) X.env=(false,eval e X.env) :: starEach es X.env:=by rfl) (hpl:(backTo pos (starEach es X.env)).any (·.1)=false:=by rfl):PE X (.Call (.Name x p) (e :: es) [] pos) (tCB r t):=by
 intro pins s σ H Q I h
 refine wpAny_Call_Name_kw (ld_blt I hg hm hv ?_ hn hdb)
 exact PyProof.Rows.callWith_builtin1 (thn (ha pos pins s σ H _ I h) fun us s1 ⟨vs,H1,I1,r1,q1⟩=>hc pins s1 σ H1 vs us Q I1 r1 q1) he hpl
theorem pe_callTy (hc:CallR X (.type T) r) (hg:Gl X x) (hm:X.mg x=none) (hv:bootBuiltins x=some (.type T)) (ha:PA X (e :: es) t) (hn:x ≠ "__name__":=by decide) (hdb:(x==("__debug__" : Str))=false:=by decide)
  (he:starEach (e :: es) X.env=(false,eval e X.env) :: starEach es X.env:=by rfl) (hpl:(backTo pos (starEach es X.env)).any (·.1)=false:=by rfl):PE X (.Call (.Name x p) (e :: es) [] pos) (tCB r t):=by
 intro pins s σ H Q I h
 refine wpAny_Call_Name_kw (ld_blt I hg hm hv ?_ hn hdb)
 exact PyProof.Rows.callWith_type1 (thn (ha pos pins s σ H _ I h) fun us s1 ⟨vs,H1,I1,r1,q1⟩=>hc pins s1 σ H1 vs us Q I1 r1 q1) he hpl
end
end L2
namespace HT
open PySem PyProof.Rows
section
variable {prog:Program} {w:World} {A:Around} {E:Value->Shared->Prop} {s:Shared}
def sIx (n d:Nat):Option Int->Nat
 | none=>d
 | some v=>if v<0 then (v+(n:Int)).toNat else min v.toNat n
end
end HT
namespace L2
open PySem PySem.Spec PyProof.Rows
abbrev TO:=St->Hp->(Option Int->Hp->Prop)->Prop
def PO (X:Cx) (e:Option Expr) (t:TO):Prop:=
 ∀ (pins:List (Addr × Obj)) (s:Shared) (σ:St) (H:Hp) (Q:Option Int->Hp->Prop),Inv X pins σ H s->t σ H Q ->
  wpAny (model X.prog X.w) X.A (evalPart e X.env) (fun u s'=>∃ o H',Inv X pins σ H' s'/\IsPart u o/\Q o H') X.xe s
def tNoPart:TO:=fun _ H Q=>Q none H
def tPart (t:TE):TO:=fun σ H Q=>t σ H fun x H1=>∃ i,x=.int i/\Q (some i) H1
section
variable {X:Cx} {e:Expr} {te:TE} {lo hi:Option Expr} {tl th:TO} {pos p2:Pos}
theorem po_none:PO X none tNoPart:=by
 intro pins s σ H Q I h
 rw [evalPart_none]
 exact wpAny_pure ⟨none,H,I,.none,h⟩
theorem po_some (h:PE X e te):PO X (some e) (tPart te):=by
 intro pins s σ H Q I hw
 rw [evalPart_some]
 refine thn (h pins s σ H _ I hw) fun u s1 ⟨x,H1,I1,r1,q1⟩=>?_
 obtain ⟨i,rfl,q⟩:=q1
 obtain ⟨t,rfl⟩:=r1
 exact ⟨some i,H1,I1,.int i t,q⟩
def SlR (X:Cx) (r:V->Option Int->Option Int->Hp->VK->Prop):Prop:=
 ∀ (pins:List (Addr × Obj)) (s:Shared) (σ:St) (H:Hp) (x:V) (v vl vu:Value) (lo hi:Option Int) (sl:Addr) (Q:VK),Inv X pins σ H s->RelV x v->s.heap.IsSliceOf sl vl vu .none->IsPart vl lo->IsPart vu hi->r x lo hi H Q ->
  ∃ T id,typeLookup (.type T) "__getitem__" = pure (some (.builtin id))/\s.TypeIs v T/\wpAny (model X.prog X.w) X.A (getItem v (.ref sl)) (EP X pins σ Q) X.xe s
def tSl (r:V->Option Int->Option Int->Hp->VK->Prop) (te:TE) (tl th:TO):TE:=fun σ H Q=>te σ H fun x H1=>tl σ H1 fun l H2=>th σ H2 fun u H3=>r x l u H3 Q
theorem pe_slice {r:V->Option Int->Option Int->Hp->VK->Prop} (hr:SlR X r) (he:PE X e te) (hl:PO X lo tl) (hu:PO X hi th):PE X (.Subscript e (.Slice lo hi none p2) pos) (tSl r te tl th):=by
 intro pins s σ H Q I h
 refine Subscript_ (thn (he pins s σ H _ I h) fun v s1 ⟨x,H1,I1,r1,q1⟩=>?_)
 refine wpAny_Slice (thn (hl pins s1 σ H1 _ I1 q1) fun vl s2 ⟨l,H2,I2,pl,q2⟩=>thn (hu pins s2 σ H2 _ I2 q2) fun vu s3 ⟨u,H3,I3,pu,q3⟩=>?_)
 rw [evalPart_none]
 refine wpAny_pure ?_
 have I4:Inv X pins σ H3 {s3 with heap:=s3.heap.push {cls:=.type "slice",data:=.fields #[vl,vu,.none]}}:=I3.kept (t':=s3.toks) fun b ob q=>Heap.get?_push_of_some _ q
 obtain ⟨T,id,hT,ht,hg⟩:=hr pins {s3 with heap:=s3.heap.push {cls:=.type "slice",data:=.fields #[vl,vu,.none]}} σ H3 x v vl vu l u s3.heap.objs.size Q I4 r1 (Heap.IsSliceOf.new ..) pl pu q3
 show wpAny (model X.prog X.w) X.A (subscriptTail e (.Slice lo hi none p2) v (.ref s3.heap.objs.size)) (EP X pins σ Q) X.xe {s3 with heap:=s3.heap.push {cls:=.type "slice",data:=.fields #[vl,vu,.none]}}
 exact tail_any (ops:=[.ref s3.heap.objs.size,v]) ht hT hg (by with_unfolding_all rfl)
def cutV (xs:List V) (lo hi:Option Int):List V:=(xs.drop (HT.sIx xs.length 0 lo)).take (HT.sIx xs.length xs.length hi-HT.sIx xs.length 0 lo)
theorem cutV_length (xs:List V) (lo hi:Option Int):(cutV xs lo hi).length<=xs.length:=by
 unfold cutV
 rw [List.length_take,List.length_drop]
 omega
end
end L2
namespace L2
open PySem PySem.Spec PyProof.Rows
def ixN (n:Nat) (i:Int):Option Nat:=if 0<=i then (if i<n then some i.toNat else none) else if -(n:Int)<=i then some (i+n).toNat else none
def atI {α:Type} (xs:List α) (i:Int):Option α:=(ixN xs.length i).bind fun j=>xs[j]?
theorem ixN_seq {n:Nat} {i:Int} {j:Nat} (h:ixN n i=some j):seqIndex? i n=some j/\j<n/\-(n:Int)<=i/\i<n:=by
 unfold ixN at h
 by_cases h0:0<=i
 ·rw [if_pos h0] at h
  by_cases h1:i<n
  ·rw [if_pos h1] at h
   have e:i.toNat=j:=Option.some.inj h
   exact ⟨by rw [seqIndex_of h0 h1,e],by omega,by omega,h1⟩
  ·rw [if_neg h1] at h;cases h
 ·rw [if_neg h0] at h
  by_cases h1 : -(n:Int)<=i
  ·rw [if_pos h1] at h
   have e:(i+n).toNat=j:=Option.some.inj h
   exact ⟨by rw [seqIndex_neg (by omega) h1,e],by omega,h1,by omega⟩
  ·rw [if_neg h1] at h;cases h
theorem atI_get {α:Type} {xs:List α} {i:Int} {v:α} (h:atI xs i=some v):∃ j,seqIndex? i xs.length=some j/\xs[j]?=some v/\j<xs.length/\-(xs.length:Int)<=i/\i<xs.length:=by
 unfold atI at h
 cases e:ixN xs.length i with
 | none=>rw [e] at h;cases h
 | some j=>
  rw [e] at h
  obtain ⟨h1,h2,h3,h4⟩:=ixN_seq e
  exact ⟨j,h1,h,h2,h3,h4⟩
theorem atI_nat {α:Type} {xs:List α} {j:Nat} {v:α} (h:xs[j]?=some v):atI xs (j:Int)=some v:=by
 have hj:j<xs.length:=(List.getElem?_eq_some_iff.mp h).1
 have e:ixN xs.length (j:Int)=some j:=by
  unfold ixN
  rw [if_pos (by omega),if_pos (by omega)];simp
 unfold atI;rw [e];exact h
theorem atI_last {α:Type} (xs:List α) (v:α):atI (xs++[v]) (-1)=some v:=by
 have hl:(xs++[v]).length=xs.length+1:=by simp
 have e:ixN (xs++[v]).length (-1)=some xs.length:=by
  unfold ixN
  rw [hl,if_neg (by decide),if_pos (by omega)]
  congr 1
  omega
 unfold atI
 rw [e]
 show (xs++[v])[xs.length]?=some v
 simp
def PlainIx (b:Expr):Prop:=∀ o i,subscripted b false o i=operate [o,i] (getItem o i)
def IxR (X:Cx) (r:R2):Prop:=
 ∀ (value slice:Expr) (pins:List (Addr × Obj)) (s:Shared) (σ:St) (H:Hp) (x y:V) (v u:Value) (Q:VK),Inv X pins σ H s->RelV x v->RelV y u->r x y H Q ->
  subscripted slice false v u=operate [v,u] (getItem v u)->wpAny (model X.prog X.w) X.A (subscriptTail value slice v u) (EP X pins σ Q) X.xe s
def MtR (X:Cx) (id:String) (r:V->List V->Hp->VK->Prop):Prop:=
 ∀ (pins:List (Addr × Obj)) (s:Shared) (σ:St) (H:Hp) (x:V) (xs:List V) (v:Value) (us:List Value) (Q:VK),Inv X pins σ H s->RelV x v->Vals xs us->r x xs H Q ->
  wpAny (model X.prog X.w) X.A (call (.builtin id) (v :: us)) (EP X pins σ Q) X.xe s
section
variable {X:Cx} {a b:Expr} {ta tb:TE} {pos:Pos}
theorem pe_ix {r:R2} (hr:IxR X r) (ha:PE X a ta) (hb:PE X b tb) (hs:PlainIx b):PE X (.Subscript a b pos) (tOp r ta tb):=by
 intro pins s σ H Q I h
 exact Subscript_ (binT ha hb I h fun v u s2 x y H2 I2 rx ry q=>hr a b pins s2 σ H2 x y v u Q I2 rx ry q (hs _ _))
def rIxL (K:PySem.W.Frag):R2:=fun x y H Q=>∃ p xs i v,x=.ref p/\y=.int i/\SqL K H p xs/\atI xs i=some v/\Q v H
def rIxT (K:PySem.W.Frag):R2:=fun x y H Q=>∃ p xs i v,x=.ref p/\y=.int i/\SqT K H p xs/\atI xs i=some v/\Q v H
theorem ix_list:IxR X (rIxL X.K):=by
 intro value slice pins s σ H x y v u Q I rx ry h hs
 obtain ⟨p,xs,i,z,rfl,rfl,hq,he,q⟩:=h
 cases rx
 obtain ⟨t,rfl⟩:=ry
 obtain ⟨its,r,pl,hz⟩:=I.list hq
 obtain ⟨j,h1,h2,h3,h4,h5⟩:=atI_get he
 obtain ⟨w,ew,rw'⟩:=r.get h2
 have hl:=r.length
 have hn:=line63
 have fin:EP X pins σ Q w s:=⟨z,H,I,rw',q⟩
 by_cases h0:0<=i
 ·have hj:i.toNat=j:=by
   rw [seqIndex_of h0 h5] at h1
   exact Option.some.inj h1
  exact item_listR pl.isList h0 (by omega) (by rw [hj];simpa using ew) fin hs
 ·have hj:(i+(its.toArray.size:Int)).toNat=j:=by
   rw [seqIndex_neg (by omega) h4] at h1
   rw [List.size_toArray,<-hl]
   exact Option.some.inj h1
  exact subscriptTail_builtinR (x:=w) pl.isList.typeIs slot_list_getitem.lookup
   (wpAny_getItem_list_neg (Q:=fun r s'=>r=w/\EP X pins σ Q r s') pl.isList (by omega) (by rw [List.size_toArray]<;>omega) (by omega) (by rw [hj];simpa using ew) ⟨rfl,fin⟩) hs
theorem ix_tup:IxR X (rIxT X.K):=by
 intro value slice pins s σ H x y v u Q I rx ry h hs
 obtain ⟨p,xs,i,z,rfl,rfl,hq,he,q⟩:=h
 cases rx
 obtain ⟨t,rfl⟩:=ry
 obtain ⟨its,r,pl,hz⟩:=I.tuple hq
 obtain ⟨j,h1,h2,h3,h4,h5⟩:=atI_get he
 obtain ⟨w,ew,rw'⟩:=r.get h2
 have hl:=r.length
 have hn:=line63
 have fin:EP X pins σ Q w s:=⟨z,H,I,rw',q⟩
 exact subscriptTail_builtinR (x:=w) pl.typeIs slot_tuple_getitem.lookup
  (getItem_tuple (j:=j) (Q:=fun r s'=>r=w/\EP X pins σ Q r s') pl (by omega) (by omega) (by rw [List.size_toArray,<-hl];exact h1) (by simpa using ew) ⟨rfl,fin⟩) hs
theorem mapSeq_set (its:List Value) (n j:Nat) (u:Value):Obj.mapSeq (·.setIfInBounds j u) {cls:=.type "list",data:=.seq its.toArray n} = {cls:=.type "list",data:=.seq (its.set j u).toArray n}:=by
 simp [Obj.mapSeq]
theorem Inv.lst {pins:List (Addr × Obj)} {σ:St} {H:Hp} {s:Shared} {p:Addr} {xs:List V} (I:Inv X pins σ H s) (h:H p=some (.lst xs)) :
  ∃ (its:List Value) (n:Nat),Vals xs its/\s.heap.get? p=some {cls:=.type "list",data:=.seq its.toArray n}/\xs.length<=sizeLine:=by
 obtain ⟨z,its,n,r,e⟩:=I.hok p _ h
 exact ⟨its,n,r,e,z⟩
theorem Inv.lstUpd {pins:List (Addr × Obj)} {σ:St} {H:Hp} {s:Shared} {p:Addr} {xs ys:List V} {its its':List Value} {n n':Nat} {f:Obj->Obj} (I:Inv X pins σ H s) (h:H p=some (.lst xs))
  (ho:s.heap.get? p=some {cls:=.type "list",data:=.seq its.toArray n}) (hf:f {cls:=.type "list",data:=.seq its.toArray n} = {cls:=.type "list",data:=.seq its'.toArray n'}) (r:Vals ys its') (hz:ys.length<=sizeLine) (t:Nat) :
  Inv X pins σ (upd H p (.lst ys)) {s with heap:=s.heap.update p f,toks:=t}:=by
 have e:(s.heap.update p f).get? p=some {cls:=.type "list",data:=.seq its'.toArray n'}:=by
  rw [Heap.get?_update_self f ho (by rw [hf]<;>rfl),hf]
 refine I.write (x:=p) (e:=p) (by rw [h];trivial) (.inl rfl) (fun b u hb q=>(Heap.get?_update_other _ _ (Ne.symm hb)).trans q) ⟨_,e⟩ ?_
 exact ⟨hz,its',n',r,e⟩
def rSetL:V->V->V->Hp->(Hp->Prop)->Prop:=fun o i v H Q=>∃ p xs k j,o=.ref p/\i=.int k/\H p=some (.lst xs)/\ixN xs.length k=some j/\Q (upd H p (.lst (xs.set j v)))
theorem set_list:PSet X rSetL:=by
 intro pins s σ H o i v ov iv u Q I ro ri rv h
 obtain ⟨p,xs,k,j,rfl,rfl,hp,hj,q⟩:=h
 cases ro
 obtain ⟨t,rfl⟩:=ri
 obtain ⟨its,n,r,ho,hz⟩:=I.lst hp
 obtain ⟨h1,h2,h3,h4⟩:=ixN_seq hj
 have hl:=r.length
 have hn:=line63
 have I':Inv X pins σ (upd H p (.lst (xs.set j v))) {s with heap:=s.heap.update p (Obj.mapSeq (·.setIfInBounds j u))}:=
  I.lstUpd hp ho (mapSeq_set its n j u) (r.set rv j) (by rw [List.length_set];exact hz) s.toks
 by_cases h0:0<=k
 ·have hk:k.toNat=j:=by
   rw [seqIndex_of h0 h4] at h1
   exact Option.some.inj h1
  exact PySem.W.ki_setAt ho h0 (by omega) (by rw [List.size_toArray,<-hl];exact h4) (by rw [hk];exact ⟨_,I',q⟩)
 ·have hk:(k+(its.toArray.size:Int)).toNat=j:=by
   rw [seqIndex_neg (by omega) h3] at h1
   rw [List.size_toArray,<-hl]
   exact Option.some.inj h1
  exact PySem.W.ki_setBack ho (by omega) (by rw [List.size_toArray,<-hl];exact h3) (by omega) (by rw [hk];exact ⟨_,I',q⟩)
theorem slice_bounds (lo hi:Option Int) (n:Nat):(sliceBounds lo hi none n).1=((HT.sIx n 0 lo:Nat):Int)/\(sliceBounds lo hi none n).2.1=((HT.sIx n n hi:Nat):Int)/\(sliceBounds lo hi none n).2.2=1:=by
 refine ⟨?_,?_,rfl⟩
 ·cases lo with
  | none=>simp [sliceBounds,HT.sIx]
  | some i=>
   simp only [sliceBounds,HT.sIx,Option.getD_none,show (1:Int) > 0 by decide,if_true]
   by_cases h:i<0
   ·simp only [h,if_true]<;>omega
   ·simp only [h,if_false]<;>omega
 ·cases hi with
  | none=>simp [sliceBounds,HT.sIx]
  | some i=>
   simp only [sliceBounds,HT.sIx,Option.getD_none,show (1:Int) > 0 by decide,if_true]
   by_cases h:i<0
   ·simp only [h,if_true]<;>omega
   ·simp only [h,if_false]<;>omega
theorem slicePick_cut (its:List Value) (lo hi:Option Int):slicePick its.toArray lo hi none=((its.drop (HT.sIx its.length 0 lo)).take (HT.sIx its.length its.length hi-HT.sIx its.length 0 lo)).toArray:=by
 obtain ⟨h1,h2,h3⟩:=slice_bounds lo hi its.toArray.size
 unfold slicePick
 rw [h1,h2,h3]
 simp only [sliceRange_one,pick_run,List.size_toArray]<;>rfl
def rSlL (K:PySem.W.Frag):V->Option Int->Option Int->Hp->VK->Prop:=fun x lo hi H Q=>∃ a xs,x=.ref a/\SqL K H a xs/\∀ p,H p=none->Q (.ref p) (upd H p (.lst (cutV xs lo hi)))
theorem sl_list:SlR X (rSlL X.K):=by
 intro pins s σ H x v vl vu lo hi sl Q I rx hs pl pu h
 obtain ⟨a,xs,rfl,hx,q⟩:=h
 cases rx
 obtain ⟨its,r,ht,hz⟩:=I.list hx
 have hlen:=r.length
 refine ⟨"list",_,slot_list_getitem.lookup,ht.isList.typeIs,?_⟩
 refine wpAny_getItem_list_slice ht.isList hs pl pu .none (by simp) ?_ (by rw [List.size_toArray]<;>omega)
 rw [slicePick_cut,<-hlen]
 refine ⟨.ref s.heap.objs.size,_,I.laid (t':=s.toks) (o:=.lst (cutV xs lo hi)) (fun b ob q=>Heap.get?_push_of_some _ q) (Nat.le_refl _) ?_,rfl,q _ (I.hok.fresh (Nat.le_refl _))⟩
 exact ⟨Nat.le_trans (cutV_length xs lo hi) hz,_,0,(r.drop (HT.sIx xs.length 0 lo)).take (HT.sIx xs.length xs.length hi-HT.sIx xs.length 0 lo),Heap.get?_push_size _ rfl⟩
def flatV:V->Bool
 | .non=>true
 | .bl _=>true
 | .int _=>true
 | .str _=>true
 | _=>false
def eqV:V->V->Bool
 | .non,.non=>true
 | .bl a,.bl b=>a==b
 | .bl a,.int b=>(if a then 1 else 0)==b
 | .int a,.bl b=>a==(if b then 1 else 0)
 | .int a,.int b=>a==b
 | .str a,.str b=>a==b
 | _,_=>false
theorem eqAt_V {A:Around} {s:Shared} {y x:V} {u v:Value} (ry:RelV y u) (rx:RelV x v) (fy:flatV y=true) (fx:flatV x=true):SeqAt.EqAt A s u v (eqV y x):=by
 cases y with
 | non=>
  cases ry
  cases x with
  | non=>cases rx;exact SeqAt.EqAt.same _
  | bl b=>cases rx;exact SeqAt.EqAt.none_bool b
  | int b=>obtain ⟨t,rfl⟩:=rx;exact SeqAt.EqAt.none_int b t
  | str b=>obtain ⟨t,rfl⟩:=rx;exact SeqAt.EqAt.none_str b t
  | _=>exact absurd (show false=true from fx) Bool.false_ne_true
 | bl a=>
  cases ry
  cases x with
  | non=>cases rx;exact SeqAt.EqAt.bool_none a
  | bl b=>cases rx;exact SeqAt.EqAt.bool_bool a b
  | int b=>obtain ⟨t,rfl⟩:=rx;exact SeqAt.EqAt.bool_int a b t
  | str b=>obtain ⟨t,rfl⟩:=rx;exact SeqAt.EqAt.bool_str a b t
  | _=>exact absurd (show false=true from fx) Bool.false_ne_true
 | int a=>
  obtain ⟨t',rfl⟩:=ry
  cases x with
  | non=>cases rx;exact SeqAt.EqAt.int_none a t'
  | bl b=>cases rx;exact SeqAt.EqAt.int_bool a t' b
  | int b=>obtain ⟨t,rfl⟩:=rx;exact SeqAt.EqAt.int_int a t' b t
  | str b=>obtain ⟨t,rfl⟩:=rx;exact SeqAt.EqAt.int_str a t' b t
  | _=>exact absurd (show false=true from fx) Bool.false_ne_true
 | str a=>
  obtain ⟨t',rfl⟩:=ry
  cases x with
  | non=>cases rx;exact SeqAt.EqAt.str_none a t'
  | bl b=>cases rx;exact SeqAt.EqAt.str_bool a t' b
  | int b=>obtain ⟨t,rfl⟩:=rx;exact SeqAt.EqAt.str_int a t' b t
  | str b=>obtain ⟨t,rfl⟩:=rx;exact SeqAt.EqAt.str_str a t' b t
  | _=>exact absurd (show false=true from fx) Bool.false_ne_true
 | _=>exact absurd (show false=true from fy) Bool.false_ne_true
def eqU (x:V) (u:Value):Bool:=match u with
 | .none=>eqV .non x
 | .bool b=>eqV (.bl b) x
 | .int i _=>eqV (.int i) x
 | .str z _=>eqV (.str z) x
 | _=>false
theorem eqU_of {x y:V} {u:Value} (r:RelV y u) (f:flatV y=true):eqU x u=eqV y x:=by
 cases y with
 | non=>cases r;rfl
 | bl b=>cases r;rfl
 | int i=>obtain ⟨t,rfl⟩:=r;rfl
 | str z=>obtain ⟨t,rfl⟩:=r;rfl
 | _=>exact absurd (show false=true from f) Bool.false_ne_true
theorem any_eqU {x:V}:∀ {xs:List V} {us:List Value},Vals xs us->xs.all flatV=true->us.any (eqU x)=xs.any fun y=>eqV y x
 | _,_,.nil,_=>rfl
 | y :: xs,u :: us,.cons r t,f=>by
  rw [List.all_cons,Bool.and_eq_true] at f
  rw [List.any_cons,List.any_cons,eqU_of r f.1,any_eqU t f.2]
theorem mem_eqAt {A:Around} {s:Shared} {x:V} {v:Value} (rx:RelV x v) (fx:flatV x=true):∀ {xs:List V} {us:List Value},Vals xs us->xs.all flatV=true->∀ u∈us,SeqAt.EqAt A s u v (eqU x u)
 | _,_,.nil,_=>fun u hu=>by cases hu
 | y :: xs,u :: us,.cons r t,f=>fun u' hu=>by
  rw [List.all_cons,Bool.and_eq_true] at f
  rcases List.mem_cons.mp hu with rfl | hu
  ·rw [eqU_of r f.1];exact eqAt_V r rx f.1 fx
  ·exact mem_eqAt rx fx t f.2 u' hu
def inV (x:V) (xs:List V):Bool:=xs.any fun y=>eqV y x
def rIn (K:PySem.W.Frag) (neg:Bool):R2:=fun x y H Q=>∃ p xs,y=.ref p/\(SqL K H p xs\/SqT K H p xs)/\flatV x=true/\xs.all flatV=true/\Q (.bl (if neg then !inV x xs else inV x xs)) H
theorem op_notIn_seq:OpR X (compareOp .NotIn) (rIn X.K true):=by
 intro pins s σ H x y v u Q I rx ry h
 obtain ⟨p,xs,rfl,hq,fx,fs,q⟩:=h
 cases ry
 rcases hq with hq | hq
 ·obtain ⟨its,r,pl,hz⟩:=I.list hq
  refine SeqAt.notIn_listAt (eqU x) pl.isList (fun w hw=>mem_eqAt rx fx r fs w (by simpa using hw)) ⟨.bl _,H,I,rfl,?_⟩
  rw [show its.toArray.any (eqU x)=its.any (eqU x) by simp,any_eqU r fs]
  exact q
 ·obtain ⟨its,r,pl,hz⟩:=I.tuple hq
  refine SeqAt.notIn_tupleAt (eqU x) pl (fun w hw=>mem_eqAt rx fx r fs w (by simpa using hw)) ⟨.bl _,H,I,rfl,?_⟩
  rw [show its.toArray.any (eqU x)=its.any (eqU x) by simp,any_eqU r fs]
  exact q
theorem call_len_seq:CallR X (.builtin "len") (fun xs H Q=>∃ p ys,xs=[.ref p]/\(SqL X.K H p ys\/SqT X.K H p ys)/\Q (.int ys.length) H):=by
 intro pins s σ H xs us Q I r h
 obtain ⟨p,ys,rfl,hq,q⟩:=h
 obtain ⟨u,rfl,rx⟩:=vals1 r
 cases rx
 have hn:=line63
 rcases hq with hq | hq
 ·obtain ⟨its,r',pl,hz⟩:=I.list hq
  have hlen:=r'.length
  exact Calls.call_len_list pl.isList (by simp only [List.size_toArray]<;>omega) ⟨.int ys.length,H,I.tok _,⟨s.toks+1,by rw [List.size_toArray,hlen]⟩,q⟩
 ·obtain ⟨its,r',pl,hz⟩:=I.tuple hq
  have hlen:=r'.length
  exact len_tuple pl (by simp only [List.size_toArray]<;>omega) ⟨.int ys.length,H,I.tok _,⟨s.toks+1,by rw [List.size_toArray,hlen]⟩,q⟩
theorem call_list_of:CallR X (.type "list") (fun xs H Q=>∃ p ys,xs=[.ref p]/\(SqL X.K H p ys\/SqT X.K H p ys)/\∀ l,H l=none->Q (.ref l) (upd H l (.lst ys))):=by
 intro pins s σ H xs us Q I r h
 obtain ⟨p,ys,rfl,hq,q⟩:=h
 obtain ⟨u,rfl,rx⟩:=vals1 r
 cases rx
 have fin:∀ (its:List Value),Vals ys its->ys.length<=sizeLine->∀ (h':Heap) (c':Nat),(∀ b o',s.heap.get? b=some o'->h'.get? b=some o') ->
   h'.get? s.heap.objs.size=some {cls:=.type "list",dict:=none,data:=.seq its.toArray c',slots:=#[]}->EP X pins σ Q (.ref s.heap.objs.size) {s with heap:=h'}:=fun its r' hz h' c' kp e=>
  ⟨.ref s.heap.objs.size,_,I.laid (t':=s.toks) kp (Nat.le_refl _) (show ObjOk X.prog X.w _ h' _ (.lst ys) from ⟨hz,its,c',r',e⟩),rfl,q _ (I.hok.fresh (Nat.le_refl _))⟩
 rcases hq with hq | hq
 ·obtain ⟨its,r',pl,hz⟩:=I.list hq
  have hlen:=r'.length
  obtain ⟨o,ho,hc,n,hd⟩:=pl.isList
  exact call_list_seq p (.inl rfl) ho hc hd (fun h' c' kp e=>fin its r' hz h' c' kp e) (by simp only [List.size_toArray]<;>omega)
 ·obtain ⟨its,r',pl,hz⟩:=I.tuple hq
  have hlen:=r'.length
  obtain ⟨o,ho,hc,n,hd⟩:=pl
  exact call_list_seq p (.inr rfl) ho hc hd (fun h' c' kp e=>fin its r' hz h' c' kp e) (by simp only [List.size_toArray]<;>omega)
theorem call_tuple_of:CallR X (.type "tuple") (fun xs H Q=>∃ p ys,xs=[.ref p]/\((SqL X.K H p ys/\∀ l,H l=none->Q (.ref l) (upd H l (.tup ys)))\/(SqT X.K H p ys/\Q (.ref p) H))):=by
 intro pins s σ H xs us Q I r h
 obtain ⟨p,ys,rfl,h⟩:=h
 obtain ⟨u,rfl,rx⟩:=vals1 r
 cases rx
 rcases h with ⟨hq,q⟩ | ⟨hq,q⟩
 ·obtain ⟨its,r',pl,hz⟩:=I.list hq
  have hlen:=r'.length
  refine call_tuple_list pl.isList (fun h' kp=>?_) (by simp only [List.size_toArray]<;>omega)
  have I1:Inv X pins σ H {s with heap:=h'}:=I.kept (t':=s.toks) kp
  have I2:Inv X pins σ (upd H h'.objs.size (.tup ys)) {s with heap:=h'.push {cls:=.type "tuple",data:=.seq its.toArray}}:=
   I1.laid (t':=s.toks) (fun b o e=>Heap.get?_push_of_some _ e) (Nat.le_refl _) (show ObjOk X.prog X.w _ _ _ (.tup ys) from ⟨hz,its,r',IsTup.new _ _⟩)
  exact ⟨.ref h'.objs.size,_,I2,rfl,q _ (I1.hok.fresh (Nat.le_refl _))⟩
 ·obtain ⟨its,r',pl,hz⟩:=I.tuple hq
  exact call_tuple_same pl ⟨.ref p,H,I,rfl,q⟩
def tyV (K:PySem.W.Frag) (T:String) (x:V) (H:Hp):Prop:=match x with
 | .str _=>T = "str"
 | .int _=>T = "int"
 | .ref p=>(T = "list"/\∃ xs,SqL K H p xs)\/(T = "tuple"/\∃ o,K.lookup p=some o/\o.cls=.type "tuple"/\o.dict=none) \/
   (T = "dict"/\((∃ kvs,H p=some (.dK kvs))\/∃ kvs,H p=some (.dT kvs)))\/(T = "set"/\∃ S n,H p=some (.set S n))
 | _=>False
theorem tyV_is {pins:List (Addr × Obj)} {σ:St} {H:Hp} {s:Shared} {T:String} {x:V} {v:Value} (I:Inv X pins σ H s) (r:RelV x v) (ty:tyV X.K T x H) :
  s.TypeIs v T/\∀ a,v=.ref a->∃ ob,s.heap.get? a=some ob/\ob.dict=none:=by
 cases x with
 | str z=>
  obtain ⟨t,rfl⟩:=r
  cases (show T = "str" from ty)
  exact ⟨typeIs_str s z t,fun _ e=>nomatch e⟩
 | int i=>
  obtain ⟨t,rfl⟩:=r
  cases (show T = "int" from ty)
  exact ⟨typeIs_int s i t,fun _ e=>nomatch e⟩
 | ref p=>
  cases r
  rcases ty with ⟨rfl,xs,hq⟩ | ⟨rfl,o,hk,hc,hd⟩ | ⟨rfl,hk⟩ | ⟨rfl,S,n,hk⟩
  ·obtain ⟨its,_,pl,_⟩:=I.list hq
   refine ⟨pl.isList.typeIs,fun a e=>?_⟩
   cases e
   obtain ⟨o,n,e,c,hd,_⟩:=pl
   exact ⟨o,e,hd⟩
  ·refine ⟨⟨o,I.kIn p o hk,hc⟩,fun a e=>?_⟩
   cases e
   exact ⟨o,I.kIn _ o hk,hd⟩
  ·have z:∃ o,s.heap.get? p=some o/\o.ExactDict:=by
    rcases hk with ⟨kvs,hk⟩ | ⟨kvs,hk⟩
    ·obtain ⟨_,_,_,_,o,_,_,e,ex,_⟩:=I.hok p _ hk
     exact ⟨o,e,ex⟩
    ·obtain ⟨_,_,_,_,o,_,_,e,ex,_⟩:=I.hok p _ hk
     exact ⟨o,e,ex⟩
   obtain ⟨o,e,ex⟩:=z
   refine ⟨⟨o,e,ex.1⟩,fun a e2=>?_⟩
   cases e2
   exact ⟨o,e,ex.2.1⟩
  ·obtain ⟨o,_,_,_,e,ex,_⟩:=I.hok p _ hk
   refine ⟨⟨o,e,ex.1⟩,fun a e2=>?_⟩
   cases e2
   exact ⟨o,e,ex.2.1⟩
 | _=>exact False.elim ty
def tBM0 (K:PySem.W.Frag) (T:String) (r:V->List V->Hp->VK->Prop) (to:TE):TE:=fun σ H Q=>to σ H fun x H1=>tyV K T x H1/\r x [] H1 Q
def tBM (K:PySem.W.Frag) (T:String) (r:V->List V->Hp->VK->Prop) (to:TE) (t:TA):TE:=fun σ H Q=>to σ H fun x H1=>tyV K T x H1/\t σ H1 fun xs H2=>r x xs H2 Q
variable {o e:Expr} {es:List Expr} {to:TE} {t:TA} {name:Str} {apos cpos:Pos} {T id:String} {r:V->List V->Hp->VK->Prop}
theorem pe_bm0 (pa:PlainAttrs T) (slot:Slot T name id) (hty:typeOf (.builtin id)=pure (.type "method_descriptor")) (hm:MtR X id r) (ho:PE X o to)
  (hbase:attributeBase o name X.env (eval o X.env)=eval o X.env:=by rfl) (hline:(apos.endLine==cpos.line)=true:=by rfl):PE X (.Call (.Attribute o name apos) [] [] cpos) (tBM0 X.K T r to):=by
 intro pins s σ H Q I h
 refine wpAny_Call_method0_late hbase hline (thn (ho pins s σ H _ I h) fun v s1 ⟨x,H1,I1,r1,ty,q1⟩=>?_)
 obtain ⟨h1,h2⟩:=tyV_is I1 r1 ty
 exact ⟨T,id,pa,slot,hty,h1,h2,Calls.callWith_builtin rfl (PySem.evalArgs_none (hm pins s1 σ H1 x [] v [] Q I1 r1 .nil q1))⟩
theorem pe_bm (pa:PlainAttrs T) (slot:Slot T name id) (hty:typeOf (.builtin id)=pure (.type "method_descriptor")) (hm:MtR X id r) (ho:PE X o to) (ha:PA X (e :: es) t)
  (hbase:attributeBase o name X.env (eval o X.env)=eval o X.env:=by rfl)
  (hfew:((backTo cpos (starEach (e :: es) X.env)).all (fun x=>!x.1)&&(backToKw cpos (keywordEach [] X.env)).all (fun x=>x.1.isSome)
   && decide ((e :: es).length+([]:List Keyword).length+(if ([]:List Keyword).isEmpty then 0 else 1)<30))=true:=by rfl)
  (hline:(apos.endLine==cpos.line)=true:=by rfl) (hs:starEach (e :: es) X.env=(false,eval e X.env) :: starEach es X.env:=by rfl) (hplain:(backTo cpos (starEach es X.env)).any (·.1)=false:=by rfl) :
  PE X (.Call (.Attribute o name apos) (e :: es) [] cpos) (tBM X.K T r to t):=by
 intro pins s σ H Q I h
 refine wpAny_Call_method_late hbase hfew hline rfl (thn (ho pins s σ H _ I h) fun v s1 ⟨x,H1,I1,r1,ty,q1⟩=>?_)
 obtain ⟨h1,h2⟩:=tyV_is I1 r1 ty
 refine ⟨T,id,pa,slot,hty,h1,h2,?_⟩
 have hA:=ha cpos pins s1 σ H1 _ I1 q1
 rw [hs] at hA ⊢
 refine Calls.callWith_builtin (by show (false||(backTo cpos (starEach es X.env)).any (·.1))=false;rw [hplain]<;>rfl) (Calls.evalArgs_plain ?_)
 exact thn hA fun us s2 ⟨vs,H2,I2,r2,q2⟩=>hm pins s2 σ H2 x vs v us Q I2 r1 r2 q2
end
end L2
namespace L2
open PySem PySem.Spec PyProof.Rows
def MtM (X:Cx) (id:String) (r:V->List V->Hp->VK->Prop):Prop:=
 ∀ (pins:List (Addr × Obj)) (s:Shared) (σ:St) (H:Hp) (x:V) (xs:List V) (v:Value) (us:List Value) (Q:VK),Inv X pins σ H s->RelV x v->Vals xs us->r x xs H Q ->
  wpAny (model X.prog X.w) X.A (call (.builtin id) (v :: us)) (EP X pins σ Q) X.xe s
theorem Vals.one:∀ {x:V} {us:List Value},Vals [x] us->∃ u,us=[u]/\RelV x u
 | _,_,.cons r .nil=>⟨_,rfl,r⟩
theorem Vals.zero:∀ {us:List Value},Vals [] us->us=[]
 | _,.nil=>rfl
theorem Vals.dropLast {xs:List V} {us:List Value} (h:Vals xs us):Vals xs.dropLast us.dropLast:=by
 induction h with
 | nil=>exact .nil
 | cons r t ih=>
  cases t with
  | nil=>exact .nil
  | cons q t'=>exact .cons r ih
theorem Vals.rep {xs:List V} {us:List Value} (h:Vals xs us):∀ k:Nat,Vals (List.replicate k xs).flatten (List.replicate k us).flatten
 | 0=>.nil
 | k+1=>by
  rw [List.replicate_succ,List.replicate_succ,List.flatten_cons,List.flatten_cons]
  exact Vals.append h (Vals.rep h k)
theorem erase_last {α:Type} (l:List α):l.eraseIdx (l.length-1)=l.dropLast:=by
 induction l with
 | nil=>rfl
 | cons a r ih=>
  cases r with
  | nil=>rfl
  | cons b r=>
   have e:(a :: b :: r).length-1=((b :: r).length-1)+1:=by
    have h1:(a :: b :: r).length=r.length+2:=rfl
    have h2:(b :: r).length=r.length+1:=rfl
    omega
   rw [e,List.eraseIdx_cons_succ,ih]
   all_goals rfl
theorem foldl_rep (its:List Value):∀ (k:Nat) (acc:List Value),
  List.foldl (fun x1 x2=>x1++x2) acc.toArray (List.replicate k its.toArray)=(acc++(List.replicate k its).flatten).toArray
 | 0,acc=>by simp
 | k+1,acc=>by
  have e:acc.toArray++its.toArray=(acc++its).toArray:=by simp
  have e2:(acc++its)++(List.replicate k its).flatten=acc++(List.replicate (k+1) its).flatten:=by
   rw [List.replicate_succ,List.flatten_cons,List.append_assoc]
  rw [<-e2,<-foldl_rep its k (acc++its),<-e,List.replicate_succ,List.foldl_cons]
section
variable {X:Cx} {pins:List (Addr × Obj)} {σ:St} {H:Hp} {s:Shared} {l b:Addr} {xs ys zs:List V}
theorem Inv.lset {its its':List Value} {n:Nat} {f:Array Value->Array Value} {t':Nat} (I:Inv X pins σ H s) (hH:H l=some (.lst xs))
  (e:s.heap.get? l=some {cls:=.type "list",data:=.seq its.toArray n}) (hf:f its.toArray=its'.toArray) (hv:Vals ys its') (hz:ys.length<=sizeLine) :
  Inv X pins σ (upd H l (.lst ys)) {s with heap:=s.heap.update l (Obj.mapSeq f),toks:=t'}:=by
 have q:=PySem.IsL.update e f
 rw [hf] at q
 refine I.write (x:=l) (e:=l) (by rw [hH];exact trivial) (.inl rfl) (fun b' u hb hu=>(Heap.get?_update_other s.heap (Obj.mapSeq f) (Ne.symm hb)).trans hu) ⟨_,q⟩ ?_
 exact ⟨hz,its',_,hv,q⟩
theorem Inv.lnew {its:List Value} {t':Nat} (I:Inv X pins σ H s) (hv:Vals ys its) (hz:ys.length<=sizeLine) :
  Inv X pins σ (upd H s.heap.objs.size (.lst ys)) {s with heap:=s.heap.push {cls:=.type "list",data:=.seq its.toArray},toks:=t'}:=
 I.laid (fun _ _ q=>Heap.get?_push_of_some _ q) (Nat.le_refl _) ⟨hz,its,0,hv,Heap.get?_push_size _ rfl⟩
theorem Inv.fresh (I:Inv X pins σ H s):H s.heap.objs.size=none:=I.hok.fresh (Nat.le_refl _)
theorem Inv.lstM (I:Inv X pins σ H s) (hH:H l=some (.lst xs)):xs.length<=sizeLine/\∃ (its:List Value) (n:Nat),Vals xs its/\xs.length=its.length/\s.heap.get? l=some {cls:=.type "list",data:=.seq its.toArray n}:=by
 obtain ⟨z,its,n,r,e⟩:=I.hok l _ hH
 exact ⟨z,its,n,r,r.length,e⟩
theorem notLongL {n:Nat} (h:n<=sizeLine):Builtin.List.listTooLong n=false:=by
 unfold Builtin.List.listTooLong
 exact decide_eq_false (by omega)
end
section
variable {X:Cx}
def rAppend:V->List V->Hp->VK->Prop:=fun x vs H Q=>∃ l xs y,x=.ref l/\vs=[y]/\H l=some (.lst xs)/\xs.length<sizeLine/\Q .non (upd H l (.lst (xs++[y])))
theorem mt_append:MtM X "list.append" rAppend:=by
 intro pins s σ H x vs v us Q I rx rv h
 obtain ⟨l,xs,y,rfl,rfl,hH,hz,q⟩:=h
 cases rx
 obtain ⟨u,rfl,ru⟩:=rv.one
 obtain ⟨z,its,n,r,hl,e⟩:=I.lstM hH
 refine call_meets F.slot_list_append ⟨_,e,rfl⟩ F.entry_list_append (F.args_list_append_2 _ _) (PySem.list_append l its.toArray n u (by rw [List.size_toArray];omega)) ⟨e,?_⟩
 refine ⟨.non,_,I.lset (its':=its++[u]) hH e (by simp) (r.append (.cons ru .nil)) ?_,rfl,q⟩
 rw [List.length_append,List.length_singleton]
 omega
def rExtend:V->List V->Hp->VK->Prop:=fun x vs H Q=>∃ l b xs zs,x=.ref l/\vs=[.ref b]/\H l=some (.lst xs)/\H b=some (.lst zs)/\xs.length+zs.length<=sizeLine/\Q .non (upd H l (.lst (xs++zs)))
theorem mt_extend:MtM X "list.extend" rExtend:=by
 intro pins s σ H x vs v us Q I rx rv h
 obtain ⟨l,b,xs,zs,rfl,rfl,hH,hB,hz,q⟩:=h
 cases rx
 obtain ⟨u,rfl,ru⟩:=rv.one
 cases ru
 obtain ⟨z,its,n,r,hl,e⟩:=I.lstM hH
 obtain ⟨z2,its2,n2,r2,hl2,e2⟩:=I.lstM hB
 have hsz:its.toArray.size+its2.toArray.size<=sizeLine:=by rw [List.size_toArray,List.size_toArray];omega
 have hlong:¬ (!its.toArray.isEmpty&&Builtin.List.listTooLong (its.toArray.size+its2.toArray.size))=true:=by
  rw [notLongL hsz,Bool.and_false]
  exact Bool.false_ne_true
 refine call_meets F.slot_list_extend ⟨_,e,rfl⟩ F.entry_list_extend (F.args_list_extend_2 _ _)
  (AutoSeq1.list_extend_list_list_0 l its.toArray n b its2.toArray n2 hlong (by rw [List.size_toArray];omega) (by omega)) ⟨e,e2,?_⟩
 refine ⟨.non,_,I.lset (its':=its++its2) hH e (by simp) (r.append r2) ?_,rfl,q⟩
 rw [List.length_append]
 omega
def rPop:V->List V->Hp->VK->Prop:=fun x vs H Q=>∃ l xs y,x=.ref l/\vs=[]/\H l=some (.lst xs)/\xs[xs.length-1]?=some y/\Q y (upd H l (.lst xs.dropLast))
theorem mt_pop:MtM X "list.pop" rPop:=by
 intro pins s σ H x vs v us Q I rx rv h
 obtain ⟨l,xs,y,rfl,rfl,hH,hy,q⟩:=h
 cases rx
 have hus:=rv.zero
 subst hus
 obtain ⟨z,its,n,r,hl,e⟩:=I.lstM hH
 obtain ⟨u,hu,ru⟩:=r.get hy
 have hy':its.toArray[its.toArray.size-1]?=some u:=by
  show its.toArray[its.length-1]?=some u
  rw [<-Array.getElem?_toList,<-hl]
  exact hu
 refine call_meets F.slot_list_pop ⟨_,e,rfl⟩ F.entry_list_pop (F.args_list_pop_1 _) (MeetsSeq.list_pop_last l its.toArray n u hy' (by rw [List.size_toArray];omega)) ⟨e,?_⟩
 refine ⟨y,_,I.lset (its':=its.dropLast) hH e ?_ r.dropLast ?_,ru,q⟩
 ·show its.toArray.eraseIdxIfInBounds (its.toArray.size-1)=its.dropLast.toArray
  rw [List.size_toArray,List.eraseIdxIfInBounds_toArray,erase_last]
 ·rw [List.length_dropLast]
  omega
def rCat:R2:=fun x y H Q=>∃ l b xs zs,x=.ref l/\y=.ref b/\H l=some (.lst xs)/\H b=some (.lst zs)/\xs.length+zs.length<=sizeLine/\∀ p,H p=none->Q (.ref p) (upd H p (.lst (xs++zs)))
theorem op_cat:OpR X (binaryOp .Add) rCat:=by
 intro pins s σ H x y v u Q I rx ry h
 obtain ⟨l,b,xs,zs,rfl,rfl,hH,hB,hz,q⟩:=h
 cases rx
 cases ry
 obtain ⟨z,its,n,r,hl,e⟩:=I.lstM hH
 obtain ⟨z2,its2,n2,r2,hl2,e2⟩:=I.lstM hB
 refine PySem.P.add_list e e2 ?_ (by rw [List.size_toArray,List.size_toArray];omega)
 have ea:its.toArray++its2.toArray=(its++its2).toArray:=by simp
 rw [ea]
 exact ⟨.ref _,_,I.lnew (t':=s.toks) (r.append r2) (by rw [List.length_append];omega),rfl,q _ I.fresh⟩
def rRep:R2:=fun x y H Q=>∃ l k xs,x=.ref l/\y=.int k/\H l=some (.lst xs)/\-(2 ^ 63)<=k/\k<2 ^ 63/\xs.length*k.toNat<=sizeLine /\
 ∀ p,H p=none->Q (.ref p) (upd H p (.lst (List.replicate k.toNat xs).flatten))
theorem len_rep {α:Type} (xs:List α) (k:Nat):(List.replicate k xs).flatten.length=k*xs.length:=by
 induction k with
 | zero=>simp
 | succ k ih=>rw [List.replicate_succ,List.flatten_cons,List.length_append,ih,Nat.succ_mul,Nat.add_comm]
theorem op_rep:OpR X (binaryOp .Mult) rRep:=by
 intro pins s σ H x y v u Q I rx ry h
 obtain ⟨l,k,xs,rfl,rfl,hH,h1,h2,hz,q⟩:=h
 cases rx
 obtain ⟨t,rfl⟩:=ry
 obtain ⟨z,its,n,r,hl,e⟩:=I.lstM hH
 have hlen:its.toArray.size*k.toNat<=sizeLine:=by rw [List.size_toArray,<-hl];exact hz
 have hcap:¬ its.toArray.size*k.toNat > (2 ^ 63-1) / 8:=by
  have:(sizeLine:Nat)<=(2 ^ 63-1) / 8:=by decide
  omega
 have hfit:¬ (!Builtin.List.listFitsIndex k)=true:=by
  rw [fitsIndex_both h1 h2]
  exact Bool.false_ne_true
 have hlong:¬ Builtin.List.listTooLong (its.toArray.size*k.toNat)=true:=by
  rw [notLongL hlen]
  exact Bool.false_ne_true
 have hnew:List.foldl (fun x1 x2=>x1++x2) #[] (List.replicate (if its.toArray.isEmpty=true then 0 else k.toNat) its.toArray)=(List.replicate k.toNat its).flatten.toArray:=by
  have f0:∀ m:Nat,List.foldl (fun x1 x2=>x1++x2) #[] (List.replicate m its.toArray)=(List.replicate m its).flatten.toArray:=fun m=>by
   have:=foldl_rep its m []
   rw [List.nil_append] at this
   exact this
  rw [f0]
  cases its with
  | nil=>simp
  | cons a r'=>rw [if_neg (by simp)]
 refine wpAny_binaryOp_repeat_ref (T:="list") (U:="int") (by decide) ⟨_,e,rfl⟩ (fun s'=>typeIs_int s' k t) noFill_list_mul F.fills_int_mul F.slot_int_rmul repeat_list F.slot_int_index.lookup
  (call_meets F.slot_int_rmul (typeIs_int s k t) F.entry_int_rmul (F.args_int_rmul_2 _ _) (int___rmul___int_list k t l its.toArray n)
   ⟨e,rfl,⟨_,e,rfl⟩,call_meets F.slot_list_mul ⟨_,e,rfl⟩ F.entry_list_mul (F.args_list_mul_2 _ _) (AutoListH.list___mul___list_int_3 l its.toArray n k t hfit hcap hlong) ⟨e,?_⟩⟩)
 rw [hnew]
 exact ⟨.ref _,_,I.lnew (t':=s.toks) (r.rep k.toNat) (by rw [len_rep,Nat.mul_comm];exact hz),rfl,q _ I.fresh⟩
end
end L2
namespace L2
open PySem PySem.Spec PyProof.Rows
theorem Vals.ints:∀ {ns:List Int} {us:List Value},Vals (ns.map V.int) us->IntsAre us ns
 | [],us,h=>by
  rw [List.map_nil] at h
  cases h
  exact IntsAre.nil
 | n :: ns,us,h=>by
  rw [List.map_cons] at h
  cases h with
  | cons r t=>
   obtain ⟨k,rfl⟩:=r
   exact IntsAre.cons n k (Vals.ints t)
theorem vals_of_ints:∀ {us:List Value} {ns:List Int},IntsAre us ns->Vals (ns.map V.int) us
 | _,_,.nil=>by rw [List.map_nil];exact Paired.nil
 | _,_,.cons n t h=>by rw [List.map_cons];exact Paired.cons (show RelV (V.int n) (Value.int n t) from ⟨t,rfl⟩) (vals_of_ints h)
theorem Vals.ref1 {a:Addr} {us:List Value} (r:Vals [V.ref a] us):us=[Value.ref a]:=by
 cases r with
 | cons r t=>
  cases t
  cases r
  rfl
section
variable {X:Cx}
def rIndex (K:PySem.W.Frag):V->List V->Hp->VK->Prop:=fun x xs H Q=>∃ (a:Addr) (ys:List V) (y:V) (j:Nat) (z:V),x=V.ref a/\xs=[y]/\SqL K H a ys/\flatV y=true/\ys.all flatV=true/\ys[j]?=some z/\eqV z y=true /\
 (∀ (m:Nat) (z':V),m<j->ys[m]?=some z'->eqV z' y=false)/\Q (.int (j:Nat)) H
theorem flat_at {ys:List V} (f:ys.all flatV=true) {j:Nat} {z:V} (h:ys[j]?=some z):flatV z=true:=List.all_eq_true.mp f z (List.mem_of_getElem? h)
theorem mt_index:MtR X "list.index" (rIndex X.K):=by
 intro pins s σ H x xs v us Q I rx rxs h
 obtain ⟨a,ys,y,j,z,rfl,rfl,hs,fy,fys,hz,hzj,hno,q⟩:=h
 cases rx
 cases rxs with
 | cons ry rt=>
  rename_i uy ut
  cases rt
  obtain ⟨its,rv,⟨⟨cls,dd,data,sl⟩,n,ho,hc,hdn,hd⟩,hlen⟩:=I.list hs
  simp only at hc hd
  subst hc hd
  obtain ⟨u,hu,ru⟩:=rv.get hz
  obtain ⟨hjl,hje⟩:=List.getElem?_eq_some_iff.mp hu
  have hvl:=rv.length
  have hj:j<its.toArray.size:=by simpa using hjl
  have hsl:=sizeLine_eq
  refine call_meets PySem.F.slot_list_index ⟨_,ho,rfl⟩ PySem.F.entry_list_index (PySem.F.args_list_index_2 _ _)
   (SeqAt.list_indexAt a its.toArray n dd sl uy (eqU y) j hj (by omega) ?_ ?_) ⟨ho,fun u' hu'=>mem_eqAt ry fy rv fys u' (by simpa using hu'),?_⟩
  ·have e1:its.toArray[j]=u:=by simpa using hje
   rw [e1,eqU_of ru (flat_at fys hz)]
   exact hzj
  ·intro m hm hmj
   have hml:m<its.length:=by simpa using hm
   have hmy:m<ys.length:=by omega
   have hy':ys[m]?=some ys[m]:=List.getElem?_eq_getElem hmy
   obtain ⟨u2,hu2,ru2⟩:=rv.get hy'
   obtain ⟨_,hme⟩:=List.getElem?_eq_some_iff.mp hu2
   have e1:its.toArray[m]=u2:=by simpa using hme
   rw [e1,eqU_of ru2 (flat_at fys hy')]
   exact hno m _ hmj hy'
  ·exact ⟨.int (j:Nat),H,I.tok _,⟨_,rfl⟩,q⟩
end
end L2
namespace L2
open PySem PySem.Spec PyProof.Rows
abbrev CellAt (h:Heap) (c:Addr) (v:Option Value):Prop:=h.IsCell c v
def relS (scope sc:Scope):Scope:=
 {scope with names:=scope.names.map fun (n,k)=>if (k==.free&&sc.kind==.function&&sc.names.lookup n==some .cell) then (n,.cell) else (n,k)}
def cloFrom (cells:List (Str × Addr)):List (Str × NameKind)->List (Str × Addr)->List (Str × Addr)
 | [],acc=>acc
 | (n,k) :: r,acc=>if k==.free then cloFrom cells r ((n,(cells.lookup n).getD 0) :: acc) else cloFrom cells r acc
theorem closure_loop (env:Env) (f:Str × NameKind->List (Str × Addr)->Sem (ForInStep (List (Str × Addr))))
  (hf:∀ n k c,f (n,k) c=if k==.free then (do let a <-cellOf env n;pure (.yield ((n,a) :: c))) else pure (.yield c)) :
  ∀ (names:List (Str × NameKind)) (acc:List (Str × Addr)),(∀ y∈names,y.2=.free->∃ c,env.cells.lookup y.1=some c)->forIn names acc f=pure (cloFrom env.cells names acc)
 | [],acc,_=>by rw [List.forIn_nil];rfl
 | (n,k) :: r,acc,h=>by
  rw [List.forIn_cons,hf]
  have ih:=fun acc=>closure_loop env f hf r acc fun y hy=>h y (List.mem_cons_of_mem _ hy)
  unfold cloFrom
  by_cases hk:(k==NameKind.free)=true
  ·rw [if_pos hk,if_pos hk]
   obtain ⟨c,hc⟩:=h (n,k) List.mem_cons_self (by simpa using hk)
   have e:cellOf env n=pure c:=by unfold cellOf;rw [hc]
   rw [e]
   have e2:(env.cells.lookup n).getD 0=c:=by rw [hc];rfl
   rw [e2]
   exact ih _
  ·rw [if_neg hk,if_neg hk]
   exact ih _
theorem closure_ok {scope:Scope} {env:Env} (h:∀ y∈scope.names,y.2=.free->∃ c,env.cells.lookup y.1=some c):closureFor scope env=pure (cloFrom env.cells scope.names []):=by
 simp only [closureFor]
 rw [closure_loop env _ (fun n k c=>rfl) scope.names [] h]
 rfl
theorem mem_lookup {α:Type}:∀ {l:List (Str × α)} {n:Str} {c:α},(n,c)∈l->∃ c',l.lookup n=some c'
 | (k,v) :: r,n,c,h=>by
  rw [List.lookup_cons]
  cases hb:n==k with
  | true=>exact ⟨_,rfl⟩
  | false=>
   rcases List.mem_cons.mp h with e | h
   ·cases e;simp at hb
   ·exact mem_lookup h
theorem cloFrom_mem {cells:List (Str × Addr)}:∀ {names:List (Str × NameKind)} {acc:List (Str × Addr)} {n:Str} {c:Addr},(n,c)∈cloFrom cells names acc->(n,c)∈acc\/((n,.free)∈names/\c=(cells.lookup n).getD 0)
 | [],_,_,_,h=>.inl h
 | (m,k) :: r,acc,n,c,h=>by
  unfold cloFrom at h
  split at h
  ·rename_i hk
   have hk:k=.free:=by simpa using hk
   rcases cloFrom_mem h with h | ⟨h1,h2⟩
   ·rcases List.mem_cons.mp h with e | h
    ·cases e;exact .inr ⟨hk ▸ List.mem_cons_self,rfl⟩
    ·exact .inl h
   ·exact .inr ⟨List.mem_cons_of_mem _ h1,h2⟩
  ·rcases cloFrom_mem h with h | ⟨h1,h2⟩
   ·exact .inl h
   ·exact .inr ⟨List.mem_cons_of_mem _ h1,h2⟩
theorem cloFrom_acc {cells:List (Str × Addr)}:∀ {names:List (Str × NameKind)} {acc:List (Str × Addr)} {p:Str × Addr},p∈acc->p∈cloFrom cells names acc
 | [],_,_,h=>h
 | (m,k) :: r,acc,p,h=>by
  unfold cloFrom
  split
  ·exact cloFrom_acc (List.mem_cons_of_mem _ h)
  ·exact cloFrom_acc h
theorem cloFrom_has {cells:List (Str × Addr)}:∀ {names:List (Str × NameKind)} {acc:List (Str × Addr)} {n:Str},(n,.free)∈names->(n,(cells.lookup n).getD 0)∈cloFrom cells names acc
 | (m,k) :: r,acc,n,h=>by
  unfold cloFrom
  rcases List.mem_cons.mp h with e | h
  ·cases e
   exact cloFrom_acc List.mem_cons_self
  ·split
   ·exact cloFrom_has h
   ·exact cloFrom_has h
theorem cells_mem:∀ {names:List (Str × NameKind)} {h:Heap} {acc:List (Str × Addr)} {x:Str} {c:Addr},(x,c)∈cellsFrom h.objs.size names acc ->
  (x,c)∈acc\/((x,.cell)∈names/\h.objs.size<=c/\CellAt (pushCells h names) c none)
 | [],_,_,_,_,h=>.inl h
 | (n,k) :: r,h,acc,x,c,hm=>by
  unfold cellsFrom at hm
  unfold pushCells
  split at hm
  ·rename_i hk
   rw [if_pos hk]
   have hk:k=.cell:=by simpa using hk
   rw [<-Heap.size_push h {cls:=.type "cell",data:=.cell none}] at hm
   rcases cells_mem hm with hm | ⟨h1,h2,h3⟩
   ·rcases List.mem_cons.mp hm with e | hm
    ·cases e
     exact .inr ⟨hk ▸ List.mem_cons_self,Nat.le_refl _,_,pushCells_keeps r _ _ _ (Heap.get?_push_size _ rfl),rfl⟩
    ·exact .inl hm
   ·rw [Heap.size_push] at h2
    exact .inr ⟨List.mem_cons_of_mem _ h1,Nat.le_of_succ_le h2,h3⟩
  ·rename_i hk
   rw [if_neg hk]
   rcases cells_mem hm with hm | ⟨h1,h2,h3⟩
   ·exact .inl hm
   ·exact .inr ⟨List.mem_cons_of_mem _ h1,h2,h3⟩
theorem cells_acc:∀ {names:List (Str × NameKind)} {n:Nat} {acc:List (Str × Addr)} {p:Str × Addr},p∈acc->p∈cellsFrom n names acc
 | [],_,_,_,h=>h
 | (m,k) :: r,n,acc,p,h=>by
  unfold cellsFrom
  split
  ·exact cells_acc (List.mem_cons_of_mem _ h)
  ·exact cells_acc h
theorem cells_has:∀ {names:List (Str × NameKind)} {n:Nat} {acc:List (Str × Addr)} {x:Str},(x,.cell)∈names->∃ c,(x,c)∈cellsFrom n names acc
 | (m,k) :: r,n,acc,x,h=>by
  unfold cellsFrom
  rcases List.mem_cons.mp h with e | h
  ·cases e
   exact ⟨n,cells_acc List.mem_cons_self⟩
  ·split
   ·exact cells_has h
   ·exact cells_has h
theorem cells_inj:∀ {names:List (Str × NameKind)} {h:Heap} {acc:List (Str × Addr)} {x y:Str} {c:Addr},(∀ p∈acc,p.2<h.objs.size)->(∀ x y c,(x,c)∈acc->(y,c)∈acc->x=y) ->
  (x,c)∈cellsFrom h.objs.size names acc->(y,c)∈cellsFrom h.objs.size names acc->x=y
 | [],_,_,_,_,_,_,hi,h1,h2=>hi _ _ _ h1 h2
 | (n,k) :: r,h,acc,x,y,c,hl,hi,h1,h2=>by
  unfold cellsFrom at h1 h2
  split at h1
  ·rename_i hk
   rw [if_pos hk] at h2
   rw [<-Heap.size_push h {cls:=.type "cell",data:=.cell none}] at h1 h2
   refine cells_inj (h:=h.push _) (fun p hp=>?_) (fun x y c a b=>?_) h1 h2
   ·rw [Heap.size_push]
    rcases List.mem_cons.mp hp with rfl | hp
    ·exact Nat.lt_succ_self _
    ·exact Nat.lt_succ_of_lt (hl p hp)
   ·rcases List.mem_cons.mp a with e | a<;>rcases List.mem_cons.mp b with e' | b
    ·cases e;cases e';rfl
    ·cases e;exact absurd (hl _ b) (Nat.lt_irrefl _)
    ·cases e';exact absurd (hl _ a) (Nat.lt_irrefl _)
    ·exact hi _ _ _ a b
  ·rename_i hk
   rw [if_neg hk] at h2
   exact cells_inj hl hi h1 h2
theorem newEnv_comp {M:Model} {A:Around} {E:Value->Shared->Prop} {s:Shared} {scope:Scope} {globals:Addr} {closure:List (Str × Addr)} {qual:Str} {func:Option Addr} {code:Value} {around:Env} {builtins:Addr} {Q:Env->Shared->Prop}
  (h:Q (newEnv scope s.heap.objs.size globals (cellsFrom (s.heap.objs.size+1) scope.names closure) qual func code (some around) builtins)
   {s with heap:=pushCells (s.heap.push {cls:=.type "dict",data:=.dict #[]}) scope.names}) :
  wpAny M A (newFunctionEnv scope globals closure [] qual func code (some around) builtins) Q E s:=by
 simp only [newFunctionEnv,Option.isSome_some,if_true]
 refine wpAny_bind (wpAny_alloc ?_)
 refine wpAny_bind (wpAny_layCells _ (fun n k c=>rfl) scope.names closure _ _ ?_)
 rw [show ({s with heap:=s.heap.push {cls:=.type "dict",data:=.dict #[]}}:Shared).heap.objs.size=s.heap.objs.size+1 from Heap.size_push ..]
 rw [List.forIn_nil]
 exact wpAny_bind (wpAny_pure (wpAny_pure h))
theorem lookup_relS {sc:Scope}:∀ {names:List (Str × NameKind)} {x:Str} {k:NameKind},
  (names.map fun (n,k)=>if (k==NameKind.free&&sc.kind==.function&&sc.names.lookup n==some .cell) then (n,NameKind.cell) else (n,k)).lookup x=some k ->
  ∃ k',names.lookup x=some k'/\(k=k'\/(k'=.free/\k=.cell))
 | [],_,_,h=>by simp at h
 | (n,k₀) :: r,x,k,h=>by
  have ih:=@lookup_relS sc r x k
  have h':List.lookup x ((if (k₀==NameKind.free&&sc.kind==.function&&sc.names.lookup n==some .cell)=true then (n,NameKind.cell) else (n,k₀)) :: (r.map _))=some k:=h
  cases hx:x==n with
  | true=>
   simp only [List.lookup_cons,hx]
   by_cases hc:(k₀==NameKind.free&&sc.kind==.function&&sc.names.lookup n==some .cell)=true
   ·rw [if_pos hc] at h'
    simp only [List.lookup_cons,hx] at h'
    cases h'
    simp only [Bool.and_eq_true,beq_iff_eq] at hc
    exact ⟨k₀,rfl,.inr ⟨hc.1.1,rfl⟩⟩
   ·rw [if_neg hc] at h'
    simp only [List.lookup_cons,hx] at h'
    cases h'
    exact ⟨_,rfl,.inl rfl⟩
  | false=>
   simp only [List.lookup_cons,hx]
   by_cases hc:(k₀==NameKind.free&&sc.kind==.function&&sc.names.lookup n==some .cell)=true
   ·rw [if_pos hc] at h'
    simp only [List.lookup_cons,hx] at h'
    exact ih h'
   ·rw [if_neg hc] at h'
    simp only [List.lookup_cons,hx] at h'
    exact ih h'
structure BlkOk (N:List Str) (sc scope:Scope) (own:List (Str × Nat)):Prop where
 kind:scope.kind=.function
 uniq:∀ y∈scope.names,scope.names.lookup y.1=some y.2
 ix:∀ p∈own,N[p.2]?=some p.1
 free:∀ y∈scope.names,y.2=.free->sc.names.lookup y.1=some .cell\/sc.names.lookup y.1=some .free
 own:∀ y∈scope.names,y.2=.local\/y.2=.cell->y.1∈own.map (·.1)\/y.1∉N
def wipe (σ:St):List Nat->St
 | []=>σ
 | v :: vs=>(wipe σ vs).set v none
theorem wipe_length (σ:St):∀ vs:List Nat,(wipe σ vs).length=σ.length
 | []=>rfl
 | v :: vs=>by unfold wipe;rw [List.length_set,wipe_length σ vs]
theorem wipe_some {σ:St} {i:Nat} {x:V}:∀ {vs:List Nat},(wipe σ vs)[i]?=some (some x)->σ[i]?=some (some x)/\i∉vs
 | [],h=>⟨h,by simp⟩
 | v :: vs,h=>by
  unfold wipe at h
  by_cases hi:v=i
  ·subst hi
   by_cases hv:v<(wipe σ vs).length
   ·rw [List.getElem?_set_self hv] at h;cases h
   ·rw [List.getElem?_eq_none (by simpa using hv)] at h;cases h
  ·rw [List.getElem?_set_ne hi] at h
   obtain ⟨h1,h2⟩:=wipe_some h
   exact ⟨h1,by simp only [List.mem_cons,not_or];exact ⟨fun e=>hi e.symm,h2⟩⟩
abbrev Cx.blk (X:Cx) (s:Shared) (H:Hp) (scope:Scope) (cenv:Env) (fp:List Addr):Cx:={X with s_0:=s,H_0:=H,env:=cenv,outer:=X.stack,ex:=fp,fn:=fun x=>scope.names.lookup x==some .cell,pn:=[],xe:=fun _ _=>False}
section
variable {X:Cx} {pins:List (Addr × Obj)} {σ:St} {H:Hp} {s:Shared}
theorem block_start {scope:Scope} {own:List (Str × Nat)} {fp:List Addr} (I:Inv X pins σ H s) (ok:BlkOk X.N X.env.scope scope own) (hN:X.N.Nodup) (hfp:∀ b∈fp,FpOk X pins H b/\b<s.heap.objs.size) :
  Inv (X.blk s H scope (compEnvC scope (cellsFrom (s.heap.objs.size+1) scope.names (cloFrom X.env.cells scope.names [])) s.heap.objs.size X.env) fp) [] (wipe σ (own.map (·.2))) H {s with heap:=pushCells (s.heap.push {cls:=.type "dict",data:=.dict #[]}) scope.names}:=by
 have hfree:∀ y∈scope.names,y.2=.free->∃ c,X.env.cells.lookup y.1=some c:=fun y hy e=>by
  rcases ok.free y hy e with k | k
  ·exact I.ok.has _ (.inl k)
  ·exact I.ok.has _ (.inr k)
 generalize hcenv:compEnvC scope (cellsFrom (s.heap.objs.size+1) scope.names (cloFrom X.env.cells scope.names [])) s.heap.objs.size X.env=cenv
 have kp:∀ b o,s.heap.get? b=some o->(pushCells (s.heap.push {cls:=.type "dict",data:=.dict #[]}) scope.names).get? b=some o:=fun b o e=>pushCells_keeps _ _ _ _ (Heap.get?_push_of_some _ e)
 have hL:cenv.locals=s.heap.objs.size:=by rw [<-hcenv];rfl
 have hcl:cenv.cells=cellsFrom (s.heap.objs.size+1) scope.names (cloFrom X.env.cells scope.names []):=by rw [<-hcenv];rfl
 have hsc:cenv.scope=relS scope X.env.scope:=by rw [<-hcenv];rfl
 rw [<-Heap.size_push s.heap {cls:=.type "dict",data:=.dict #[]}] at hcl
 have cm:∀ {y c},(y,c)∈cloFrom X.env.cells scope.names []->X.env.cells.lookup y=some c/\c<s.heap.objs.size:=fun {y c} hm=>by
  rcases cloFrom_mem hm with hm | ⟨h1,rfl⟩
  ·cases hm
  ·obtain ⟨c,hc⟩:=hfree _ h1 rfl
   rw [hc]
   obtain ⟨w,z⟩:=I.cell _ _ hc
   exact ⟨rfl,z.lt⟩
 have mem:∀ {y c},cenv.cells.lookup y=some c->(X.env.cells.lookup y=some c/\c<s.heap.objs.size)\/(s.heap.objs.size+1<=c/\CellAt (pushCells (s.heap.push {cls:=.type "dict",data:=.dict #[]}) scope.names) c none):=fun {y c} e=>by
  rw [hcl] at e
  rcases cells_mem (PySem.mem_of_lookup e) with hm | ⟨_,h2,h3⟩
  ·exact .inl (cm hm)
  ·rw [Heap.size_push] at h2;exact .inr ⟨h2,h3⟩
 have look:∀ {y},scope.names.lookup y=some .free->∃ c,cenv.cells.lookup y=some c/\X.env.cells.lookup y=some c:=fun {y} hl=>by
  have hy:(y,NameKind.free)∈scope.names:=PySem.mem_of_lookup hl
  obtain ⟨c',e'⟩:=mem_lookup (cells_acc (names:=scope.names) (n:=(s.heap.push {cls:=.type "dict",data:=.dict #[]}).objs.size) (cloFrom_has (cells:=X.env.cells) (acc:=[]) hy))
  rw [<-hcl] at e'
  refine ⟨c',e',?_⟩
  rw [hcl] at e'
  rcases cells_mem (PySem.mem_of_lookup e') with hm | ⟨h1,_,_⟩
  ·exact (cm hm).1
  ·have:=ok.uniq _ h1
   rw [hl] at this;cases this
 have okB:(X.blk s H scope cenv fp).Ok:=by
  refine ⟨I.ok.mod,by show cenv.scope.kind=_;rw [hsc];exact ok.kind,by show cenv.globals=_;rw [<-hcenv];exact I.ok.glob,by show cenv.builtins=_;rw [<-hcenv];exact I.ok.blt,by show s.heap.objs.size<=cenv.locals;rw [hL];exact Nat.le_refl _,
   fun y z c e1 e2=>?_,fun y hy=>?_,fun y c z e=>?_,I.ok.hd,I.ok.frames,.inl rfl,fun b hb=>⟨?_,fun y c e z=>?_⟩,I.bs,Nat.le_trans I.ok.bsz I.sz,fun b o e hb=>?_,fun b hb z=>?_,I.stack,I.stkFree⟩
  ·have e1:cenv.cells.lookup y=some c:=e1
   have e2:cenv.cells.lookup z=some c:=e2
   rw [hcl] at e1 e2
   refine cells_inj (fun p hp=>?_) (fun y z c a b=>I.ok.inj y z c (cm a).1 (cm b).1) (PySem.mem_of_lookup e1) (PySem.mem_of_lookup e2)
   rw [Heap.size_push]
   exact Nat.lt_succ_of_lt (cm (y:=p.1) (c:=p.2) hp).2
  ·show ∃ c,cenv.cells.lookup y=some c
   have key:∀ k,cenv.kindOf y=some k->(k=.cell\/k=.free)->∃ c,cenv.cells.lookup y=some c:=fun k hk hk'=>by
    unfold Env.kindOf at hk
    rw [hsc] at hk
    obtain ⟨k',e,r⟩:=lookup_relS hk
    have:k'=.cell\/k'=.free:=by
     rcases r with rfl | ⟨rfl,_⟩
     ·exact hk'
     ·exact .inr rfl
    rcases this with rfl | rfl
    ·obtain ⟨c,hm⟩:=cells_has (n:=(s.heap.push {cls:=.type "dict",data:=.dict #[]}).objs.size) (acc:=cloFrom X.env.cells scope.names []) (PySem.mem_of_lookup e)
     obtain ⟨c',e'⟩:=mem_lookup hm
     exact ⟨c',by rw [hcl];exact e'⟩
    ·obtain ⟨c,h1,_⟩:=look e
     exact ⟨c,h1⟩
   rcases hy with hy | hy
   ·exact key _ hy (.inl rfl)
   ·exact key _ hy (.inr rfl)
  ·have z:(scope.names.lookup y==some NameKind.cell)=true:=z
   have z:scope.names.lookup y=some .cell:=by simpa using z
   have e:cenv.cells.lookup y=some c:=e
   rw [hcl] at e
   rcases cells_mem (PySem.mem_of_lookup e) with hm | ⟨_,h2,_⟩
   ·rcases cloFrom_mem hm with hm | ⟨h1,_⟩
    ·cases hm
    ·have q:=ok.uniq _ h1
     rw [z] at q;cases q
   ·rw [Heap.size_push] at h2
    exact Nat.le_of_succ_le h2
  ·show b≠cenv.locals
   rw [hL];exact Nat.ne_of_lt (hfp b hb).2
  ·have e:cenv.cells.lookup y=some c:=e
   rcases mem e with ⟨h1,_⟩ | ⟨h1,_⟩
   ·exact (hfp b hb).1.2.2.2.2.1 y c h1 z
   ·have h2:s.heap.objs.size+1<=b:=by rw [<-z];exact h1
    exact absurd (Nat.lt_of_lt_of_le (hfp b hb).2 (Nat.le_of_succ_le h2)) (Nat.lt_irrefl _)
  ·rcases (hfp b hb).1.2.2.2.1 with z | z
   ·exact I.ok.noex b o e z
   ·exact absurd (Nat.lt_of_lt_of_le (Heap.lt_size e) (Nat.le_trans I.ok.bsz z)) (Nat.lt_irrefl _)
  ·rcases List.mem_cons.mp (I.stkSub b z) with z | z
   ·exact (hfp b hb).1.2.1 z
   ·exact (hfp b hb).1.2.2.1 z
 refine ⟨okB,rfl,I.bare,Un.kept kp,⟨fun _=>none,?_,fun i y av e1 e2 e3=>?_⟩,fun y c e=>?_,?_,fun y c e=>?_,fun p hp=>?_,I.hok.kept kp,by rw [wipe_length];exact I.len⟩
 ·show Heap.Ns _ cenv.locals _
  rw [hL]
  exact Heap.Ns.keeps (Heap.Ns.new ..) fun b o e=>pushCells_keeps _ _ _ _ e
 ·obtain ⟨e2,hne⟩:=wipe_some e2
  have hfr:scope.names.lookup y=some .free/\(cenv.kindOf y=some .cell\/cenv.kindOf y=some .free):=by
   have key:∀ k,cenv.scope.names.lookup y=some k->k=.local\/k=.cell\/k=.free->scope.names.lookup y=some .free/\(cenv.kindOf y=some .cell\/cenv.kindOf y=some .free):=fun k hk hk'=>by
    have hk0:=hk
    rw [hsc] at hk
    obtain ⟨k',e,r⟩:=lookup_relS hk
    have no:¬ (k'=.local\/k'=.cell):=fun hh=>by
     rcases ok.own _ (PySem.mem_of_lookup e) hh with e' | e'
     ·obtain ⟨p,hp,hpy⟩:=List.mem_map.mp e'
      have e3:=ok.ix p hp
      have:p.1=y:=hpy
      rw [this] at e3
      exact hne (List.mem_map.mpr ⟨p,hp,nodup_ix hN e3 e1⟩)
     ·exact e' (List.mem_of_getElem? e1)
    rcases r with rfl | ⟨rfl,rfl⟩
    ·rcases hk' with rfl | rfl | rfl
     ·exact absurd (.inl rfl) no
     ·exact absurd (.inr rfl) no
     ·exact ⟨e,.inr hk0⟩
    ·exact ⟨e,.inl hk0⟩
   have e3:Vis cenv.scope y:=e3
   rcases e3 with e3 | e3 | e3
   ·exact key _ e3 (.inl rfl)
   ·exact key _ e3 (.inr (.inl rfl))
   ·exact key _ e3 (.inr (.inr rfl))
  obtain ⟨m,hn,hl⟩:=I.loc
  have hvis:Vis X.env.scope y:=(ok.free _ (PySem.mem_of_lookup hfr.1) rfl).elim (fun k=>.inr (.inl k)) (fun k=>.inr (.inr k))
  obtain ⟨w,r,q⟩:=hl i y av e1 e2 hvis
  refine ⟨w,r,.inr ⟨hfr.2,?_⟩⟩
  obtain ⟨c,h1,h2⟩:=look hfr.1
  rcases q with ⟨k,_⟩ | ⟨_,c',e',z⟩
  ·have k:X.env.scope.names.lookup y=some .local:=k
   rcases ok.free _ (PySem.mem_of_lookup hfr.1) rfl with k' | k'<;>rw [show X.env.scope.names.lookup y=_ from k'] at k<;>cases k
  ·rw [h2] at e';cases e'
   exact ⟨c,h1,z.keeps kp⟩
 ·have e:cenv.cells.lookup y=some c:=e
  rcases mem e with ⟨h1,_⟩ | ⟨_,z⟩
  ·obtain ⟨w,z⟩:=I.cell y c h1
   exact ⟨w,z.keeps kp⟩
  ·exact ⟨_,z⟩
 ·show H cenv.locals=none
  rw [hL];exact I.hok.fresh (Nat.le_refl _)
 ·have e:cenv.cells.lookup y=some c:=e
  rcases mem e with ⟨h1,_⟩ | ⟨h1,_⟩
  ·exact I.freeC y c h1
  ·exact I.hok.fresh (Nat.le_of_succ_le h1)
 ·exact absurd (show p∈([]:List (Addr × Obj))++[] from hp) (by simp)
theorem app_ok {E:Value->Shared->Prop} {D:Addr} {xs:List V} {y:V} {v:Value} {Q:Value->Shared->Prop} (I:Inv X pins σ H s) (hD:H D=some (.lst xs)) (hz:xs.length<sizeLine) (r:RelV y v)
  (h:∀ s',Inv X pins σ (upd H D (.lst (xs++[y]))) s'->Q .none s'):wpAny (model X.prog X.w) X.A (call (.builtin "list.append") [.ref D,v]) Q E s:=by
 obtain ⟨hz',its,n,ri,e⟩:=I.hok D _ hD
 have hl:=ri.length
 refine append_at (hsz:=by rw [List.size_toArray];omega) e fun h' sb ho'=>?_
 refine h {s with heap:=h'} (I.write (t':=s.toks) (by rw [hD];trivial) (.inl rfl) (fun b u hb q=>(sb.2 b hb).trans q) ⟨_,ho'⟩ ⟨by rw [List.length_append];exact hz,its++[v],n+1,ri.append (.cons r .nil),?_⟩)
 rw [ho']
 simp
def PTs (X:Cx) (ifs:List Expr) (t:TT):Prop:=
 ∀ (pins:List (Addr × Obj)) (s:Shared) (σ:St) (H:Hp) (Q:Bool->Hp->Prop),Inv X pins σ H s->t σ H Q ->
  wpAny (model X.prog X.w) X.A (forIn ifs true fun c r=>if r=true then do let ok <-isTrue c X.env (eval c X.env);pure (ForInStep.yield ok) else pure (ForInStep.yield r)) (TP X pins σ Q) X.xe s
def tYes:TT:=fun _ H Q=>Q true H
theorem pts_nil:PTs X [] tYes:=fun _ _ _ H _ I h=>wpAny_tests_nil ⟨H,I,h⟩
theorem pts_one {c:Expr} {t:TT} (h:PT X c t):PTs X [c] t:=fun pins s σ H Q I hw=>wpAny_tests_one (h pins s σ H Q I hw)
end
theorem thnF {α:Type} {t:Sem α} {Q Q':α->Shared->Prop} {M:Model} {A:Around} {E:Value->Shared->Prop} {s:Shared} (h:wpAny M A t Q (fun _ _=>False) s) (hQ:∀ a s,Q a s->Q' a s):wpAny M A t Q' E s:=wpAny_mono h hQ fun _ _ z=>False.elim z
theorem compLoop_any {prog:Program} {w:World} {A:Around} {R:Result->Shared->Prop} {s:Shared} {elt target iter:Expr} {ifs:List Expr} {scope:Scope} {pos:Pos} {it acc:Value} {env:Env} (I:Nat->Shared->Prop)
  (turn:∀ n s,I n s->wpAny (model prog w) A (pyNext it) (fun r s₁=>match r with
   | none=>R (.ok .next) s₁
   | some v=>wpAny (model prog w) A (letOwnedTupleGo target it v) (fun _ s₁'=>wpAny (model prog w) A (assign target env v) (fun _ s₂=>
     wpAny (model prog w) A (forIn ifs true fun c r=>if r=true then do let ok <-isTrue c env (eval c env);pure (ForInStep.yield ok) else pure (ForInStep.yield r)) (fun ok s₃=>
      if ok=true then wpAny (model prog w) A (eval elt env) (fun x s₄=>
       wpAny (model prog w) A (call (.builtin "list.append") [acc,x]) (fun _ s₅=>∃ m,m<n/\I m s₅) (notedBy (model prog w) A env fun e s'=>R (.error e) s') s₄) (notedBy (model prog w) A env fun e s'=>R (.error e) s') s₃
      else ∃ m,m<n/\I m s₃) (notedBy (model prog w) A env fun e s'=>R (.error e) s') s₂) (notedBy (model prog w) A env fun e s'=>R (.error e) s') s₁') (notedBy (model prog w) A env fun e s'=>R (.error e) s') s₁) (notedBy (model prog w) A env fun e s'=>R (.error e) s') s)
  (n:Nat) (h:I n s) :
  codeAny (model prog w) A (.compLoop (.ListComp elt [⟨target,iter,ifs,0⟩] scope pos) 0 it acc env) R s:=by
 refine codeAny_loop rfl I (fun n s hI=>?_) n h
 show wpAny _ A ((compTurn (.ListComp elt [⟨target,iter,ifs,0⟩] scope pos) 0 it acc env).onRaise (fun x=>do noteFrame x env;theTreesLotGoes x)) _ _ s
 refine wpAny_noted ?_
 rw [compTurn_list]
 refine wpAny_bind (wpAny_standAt (wpAny_bind (wpAny_mono (turn n s hI) (fun r s₁ h₁=>?_) fun _ _ h'=>h')))
 cases r with
 | none=>exact wpAny_pure h₁
 | some v=>
  refine wpAny_bind (wpAny_mono h₁ (fun _ s₁' h₁'=>?_) fun _ _ h'=>h')
  refine wpAny_bind (wpAny_mono h₁' (fun _ s₂ h₂=>wpAny_bind (wpAny_mono h₂ (fun ok s₃ h₃=>?_) fun _ _ h'=>h')) fun _ _ h'=>h')
  cases ok with
  | false=>exact wpAny_pure ⟨rfl,h₃⟩
  | true=>
   exact wpAny_bind (wpAny_bind (wpAny_mono h₃ (fun x s₄ h₄=>wpAny_bind (wpAny_mono h₄ (fun _ s₅ h₅=>wpAny_pure (wpAny_pure ⟨rfl,h₅⟩)) fun _ _ h'=>h')) fun _ _ h'=>h'))
section
variable {X:Cx}
def tLc (wi:TI) (g:TG) (tt:TT) (te:TE) (vs:List Nat):TE:=fun σ H Q=>wi σ H fun J H1=>∀ D,H1 D=none->∃ W:Nat->Nat->Hp->Prop,(∃ m,W 0 m (upd H1 D (.lst [])))/\∀ i m H,W i m H ->
 (J.stop i H/\Q (.ref D) H)\/(J.go i H/\∃ Nx:Hp->Prop,(∀ H',Nx H'->∃ m',m'<m/\W (i+1) m' H')/\∀ x H',J.yld i H x H'->g x (wipe σ vs) H' fun σ2 H2=>wipe σ2 vs=wipe σ vs/\tt σ2 H2 fun b H3=>
  if b=true then te σ2 H3 fun y H4=>∃ acc,H4 D=some (.lst acc)/\acc.length<sizeLine/\Nx (upd H4 D (.lst (acc++[y]))) else Nx H3)
theorem lc_core {pins:List (Addr × Obj)} {s:Shared} {σ:St} {H:Hp} {Q:VK} {elt tg iter:Expr} {ifs:List Expr} {scope:Scope} {own:List (Str × Nat)} {pos pos':Pos} {wi:TI} {g:TG} {tt:TT} {te:TE} {use:Option (Value->Sem Unit)} {Qf:Value->Shared->Prop}
  (hc:X.calm=true) (hN:X.N.Nodup) (I:Inv X pins σ H s) (hi:PI X tg iter wi) (ok:BlkOk X.N X.env.scope scope own)
  (hg:∀ (s:Shared) (H:Hp) (C:Addr) (cl:List (Str × Addr)) (fp:List Addr),PG (X.blk s H scope (compEnvC scope cl C X.env) fp) tg g) (ht:∀ (s:Shared) (H:Hp) (C:Addr) (cl:List (Str × Addr)) (fp:List Addr),PTs (X.blk s H scope (compEnvC scope cl C X.env) fp) ifs tt)
  (he:∀ (s:Shared) (H:Hp) (C:Addr) (cl:List (Str × Addr)) (fp:List Addr),PE (X.blk s H scope (compEnvC scope cl C X.env) fp) elt te) (hs:∀ x,foldedSetIterable iter X.env x=pure x)
  (h:tLc wi g tt te (own.map (·.2)) σ H Q)
  (hRR:∀ D C s' m H',Inv X pins σ H' s'->Q (.ref D) H'->s'.heap.Ns C m->FpOk X pins H' C->compPost (model X.prog X.w) X.A X.xe use Qf (.ref D) C (.ok .next) s') :
  wpAny (model X.prog X.w) X.A (comprehension (.ListComp elt [⟨tg,iter,ifs,0⟩] scope pos) scope X.env pos' (newList []) false (eval iter X.env) use) Qf X.xe s:=by
 have hfree:∀ y∈scope.names,y.2=.free->∃ c,X.env.cells.lookup y.1=some c:=fun y hy e=>by
  rcases ok.free y hy e with k | k
  ·exact I.ok.has _ (.inl k)
  ·exact I.ok.has _ (.inr k)
 refine wpAny_comprehension_free (use:=use) rfl hs (closure_ok hfree) ok.kind (fun y hy e=>by rw [ok.uniq y hy,e])
  (thn (hi pins s σ H _ I h) fun xv s1 hx=>thn hx fun itv s2 h2=>?_)
 obtain ⟨it,fp,tn,J,H2,e,I2,T,st2,f2,q⟩:=h2
 subst e
 refine wpAny_newObj_type (newEnv_comp ?_) (by show 0<=sizeLine;decide)
 generalize hD:s2.heap.objs.size=D
 have hDn:H2 D=none:=I2.hok.fresh (Nat.le_of_eq hD)
 obtain ⟨W,⟨m0,w0⟩,turn⟩:=q D hDn
 generalize hs3:({s2 with heap:=s2.heap.push {cls:=.type "list",data:=.seq ([]:List Value).toArray}}:Shared)=s3
 have I3:Inv X pins σ (upd H2 D (.lst [])) s3:=by
  rw [<-hs3]
  refine I2.laid (t':=s2.toks) (fun b o e=>Heap.get?_push_of_some _ e) (Nat.le_of_eq hD) ⟨Nat.zero_le _,[],0,.nil,?_⟩
  rw [<-hD]
  exact Heap.get?_push_size _ rfl
 have h3:s3.heap=s2.heap.push {cls:=.type "list",data:=.seq ([]:List Value).toArray}:=by rw [<-hs3]
 have sz:∀ b∈fp,b<s2.heap.objs.size:=fun b hb=>by
  obtain ⟨o,e,_⟩:=T.obj _ _ st2 b hb
  exact Heap.lt_size e
 have f3:∀ b∈fp,FpOk X pins (upd H2 D (.lst [])) b/\b<s3.heap.objs.size:=fun b hb=>by
  have hlt:=sz b hb
  refine ⟨⟨?_,(f2 b hb).2⟩,by rw [h3,Heap.size_push];exact Nat.lt_succ_of_lt hlt⟩
  rw [upd_ne (by rw [<-hD];exact Nat.ne_of_lt hlt)]
  exact (f2 b hb).1
 have st3:tn 0 s3.heap:=T.keep _ _ _ st2 fun b _ o e=>by rw [h3];exact Heap.get?_push_of_some _ e
 have I4:=block_start I3 ok hN f3
 have pg:=hg s3 (upd H2 D (.lst [])) s3.heap.objs.size (cellsFrom (s3.heap.objs.size+1) scope.names (cloFrom X.env.cells scope.names [])) fp
 have pt:=ht s3 (upd H2 D (.lst [])) s3.heap.objs.size (cellsFrom (s3.heap.objs.size+1) scope.names (cloFrom X.env.cells scope.names [])) fp
 have pe:=he s3 (upd H2 D (.lst [])) s3.heap.objs.size (cellsFrom (s3.heap.objs.size+1) scope.names (cloFrom X.env.cells scope.names [])) fp
 show codeAny _ _ (.compStart (.ListComp elt [⟨tg,iter,ifs,0⟩] scope pos) 0 (.ref it) (.ref D) (compEnvC scope (cellsFrom (s3.heap.objs.size+1) scope.names (cloFrom X.env.cells scope.names [])) s3.heap.objs.size X.env)) (compPost (model X.prog X.w) X.A X.xe use Qf (.ref D) s3.heap.objs.size) {s3 with heap:=pushCells (s3.heap.push {cls:=.type "dict",data:=.dict #[]}) scope.names}
 have nfp:∀ b∈fp,(upd H2 D (.lst [])) b=none:=fun b hb=>(f3 b hb).1.1
 generalize hce:compEnvC scope (cellsFrom (s3.heap.objs.size+1) scope.names (cloFrom X.env.cells scope.names [])) s3.heap.objs.size X.env=ce at I4 pg pt pe ⊢
 have cL:ce.locals=s3.heap.objs.size:=by subst hce;rfl
 generalize hH3:upd H2 D (.lst [])=H3 at I3 I4 pg pt pe w0 nfp f3
 generalize hs4:({s3 with heap:=pushCells (s3.heap.push {cls:=.type "dict",data:=.dict #[]}) scope.names}:Shared)=s4 at I4 ⊢
 have st4:tn 0 s4.heap:=T.keep _ _ _ st3 fun b _ o e=>by rw [<-hs4];exact pushCells_keeps _ _ _ _ (Heap.get?_push_of_some _ e)
 have stat:∀ {σ':St} {H':Hp} {s':Shared},Inv (X.blk s3 H3 scope ce fp) [] σ' H' s'->(∀ b∈fp,H' b=none)->∀ b∈fp,FpOk (X.blk s3 H3 scope ce fp) [] H' b:=fun {σ' H' s'} I' hn b hb=>
  ⟨hn b hb,(I'.ok.exf b hb).1,I'.ok.exfs b hb,.inl hb,fun x c e=>(I'.ok.exf b hb).2 x c e,fun p hp=>absurd (show p∈([]:List (Addr × Obj))++[] from hp) (by simp)⟩
 have loop:codeAny (model X.prog X.w) X.A (.compLoop (.ListComp elt [⟨tg,iter,ifs,0⟩] scope pos) 0 (.ref it) (.ref D) ce) (compPost (model X.prog X.w) X.A X.xe use Qf (.ref D) s3.heap.objs.size) s4:=by
  refine compLoop_any (fun n s'=>∃ i H',Inv (X.blk s3 H3 scope ce fp) [] (wipe σ (own.map (·.2))) H' s'/\tn i s'.heap/\(∀ b∈fp,H' b=none)/\W i n H') ?_ m0 ⟨0,H3,I4,st4,nfp,w0⟩
  rintro n s5 ⟨i,H5,I5,st5,n5,w5⟩
  rcases turn i n H5 w5 with ⟨stop,qq⟩ | ⟨go,Nx,hNx,step⟩
  ·have td:=T.done (X.blk s3 H3 scope ce fp) rfl rfl rfl hc i [] s5 _ H5 (fun _ _=>False) I5 (stat I5 n5) st5 stop
   refine thnF td fun r s6 ⟨hr,I6⟩=>?_
   subst hr
   have I7:Inv X pins σ H5 s6:=I3.call' (ch:=fp) I6.os I6.base I6.hok I6.bare fun b hb=>⟨(f3 b hb).1.2.2.2.1,(f3 b hb).1.2.1,(f3 b hb).1.2.2.2.2.1,(f3 b hb).1.2.2.2.2.2⟩
   have nC:H5 s3.heap.objs.size=none:=by
    have z:H5 ce.locals=none:=I6.free
    rw [cL] at z
    exact z
   obtain ⟨m,hn,_⟩:=I6.loc
   have hn:s6.heap.Ns ce.locals m:=hn
   rw [cL] at hn
   exact hRR D s3.heap.objs.size s6 m H5 I7 qq hn (I3.fpOk (Nat.le_refl _) nC)
  ·have ti:=T.item (X.blk s3 H3 scope ce fp) rfl rfl rfl hc i [] s5 _ H5 (fun _ _=>False) I5 (stat I5 n5) st5 go
   refine thnF ti fun r s6 ⟨u,hr,h6⟩=>?_
   subst hr
   refine thnF h6 fun _ s7 ⟨x,H7,I7,r7,y7,st7,n7⟩=>?_
   have I7':=I7.pinned (stat I7 n7) (T.obj _ _ st7)
   refine thnF (pg _ s7 _ H7 x u _ I7' r7 (step x H7 y7)) fun _ s8 ⟨σ8,H8,I8,hw8,q8⟩=>?_
   refine thnF (pt _ s8 σ8 H8 _ I8 q8) fun b s9 ⟨H9,I9,q9⟩=>?_
   have fin:∀ {s':Shared} {H':Hp},Inv (X.blk s3 H3 scope ce fp) ([]++pinsAt fp s7.heap) σ8 H' s'->Nx H'->∃ m,m<n/\∃ i H',Inv (X.blk s3 H3 scope ce fp) [] (wipe σ (own.map (·.2))) H' s'/\tn i s'.heap/\(∀ b∈fp,H' b=none)/\W i m H':=fun {s' H'} I' nx=>by
    obtain ⟨m',hm,w'⟩:=hNx H' nx
    have pin':∀ b∈fp,∀ o,s7.heap.get? b=some o->s'.heap.get? b=some o/\H' b=none:=fun b hb o e=>
     let z:=I'.pin (b,o) (List.mem_append_right _ (List.mem_append_right _ (mem_pinsAt hb e)))
     ⟨z.1,z.2.1⟩
    have hl:(wipe σ (own.map (·.2))).length=σ8.length:=by rw [<-hw8,wipe_length]
    refine ⟨m',hm,i+1,H',(I'.unpinned (pins:=[])).weak hl (fun j v e=>?_),T.keep _ _ _ st7 fun b hb o e=>(pin' b hb o e).1,fun b hb=>?_,w'⟩
    ·rw [<-hw8] at e
     exact (wipe_some e).1
    ·obtain ⟨o,e,_⟩:=T.obj _ _ st7 b hb
     exact (pin' b hb o e).2
   cases b with
   | false=>
    simp only [Bool.false_eq_true,if_false] at q9 ⊢
    exact fin I9 q9
   | true=>
    simp only [if_true] at q9 ⊢
    refine thnF (pe _ s9 σ8 H9 _ I9 q9) fun z s10 ⟨yv,H10,I10,r10,acc,hD10,hz10,nx⟩=>?_
    exact app_ok (X:=X.blk s3 H3 scope ce fp) I10 hD10 hz10 r10 fun s11 I11=>fin I11 nx
 exact codeAny_compStart_list loop (T.self X.A 0 _ _ _ st4 loop)
theorem pe_lc {elt tg iter:Expr} {ifs:List Expr} {scope:Scope} {own:List (Str × Nat)} {pos:Pos} {wi:TI} {g:TG} {tt:TT} {te:TE} (hc:X.calm=true) (hN:X.N.Nodup) (hi:PI X tg iter wi) (ok:BlkOk X.N X.env.scope scope own)
  (hg:∀ (s:Shared) (H:Hp) (C:Addr) (cl:List (Str × Addr)) (fp:List Addr),PG (X.blk s H scope (compEnvC scope cl C X.env) fp) tg g) (ht:∀ (s:Shared) (H:Hp) (C:Addr) (cl:List (Str × Addr)) (fp:List Addr),PTs (X.blk s H scope (compEnvC scope cl C X.env) fp) ifs tt)
  (he:∀ (s:Shared) (H:Hp) (C:Addr) (cl:List (Str × Addr)) (fp:List Addr),PE (X.blk s H scope (compEnvC scope cl C X.env) fp) elt te) (hs:∀ x,foldedSetIterable iter X.env x=pure x:=by intro _;rfl) :
  PE X (.ListComp elt [⟨tg,iter,ifs,0⟩] scope pos) (tLc wi g tt te (own.map (·.2))):=by
 intro pins s σ H Q I h
 rw [eval_ListComp]
 refine lc_core hc hN I hi ok hg ht he hs h fun D C s' m H' I' q hn f=>⟨m,hn,fun h'' sb=>?_⟩
 obtain ⟨f0,f1,f2,f3,f4,f5⟩:=f
 exact ⟨.ref D,H',I'.turned (t':=s'.toks) (fun b o hb e=>(sb.2 b hb).trans e) f0 f1 f3 f4 f5,rfl,q⟩
end
theorem lc_list {K : PySem.W.Frag} {a : Addr} {xs : List V} {g : TG} {tt : TT} {te : TE} {vs : List Nat} {σ : St} {H1 : Hp} {D : Addr} {Qd : Hp -> Prop} (Pv : Nat -> Hp -> Prop) (h0 : Pv 0 (upd H1 D (.lst []))) (hl : ∀ i H, i <= xs.length -> Pv i H -> SqL K H a xs)
    (hs : ∀ i x H, xs[i]? = some x -> Pv i H -> g x (wipe σ vs) H fun σ2 H2 => wipe σ2 vs = wipe σ vs /\ tt σ2 H2 fun b H3 =>
      if b = true then te σ2 H3 fun y H4 => ∃ acc, H4 D = some (.lst acc) /\ acc.length < sizeLine /\ Pv (i + 1) (upd H4 D (.lst (acc ++ [y]))) else Pv (i + 1) H3) (hd : ∀ H, Pv xs.length H -> Qd H) :
    ∃ W : Nat -> Nat -> Hp -> Prop, (∃ m, W 0 m (upd H1 D (.lst []))) /\ ∀ i m H, W i m H ->
      ((Itl K a).stop i H /\ Qd H) \/ ((Itl K a).go i H /\ ∃ Nx : Hp -> Prop, (∀ H', Nx H' -> ∃ m', m' < m /\ W (i + 1) m' H') /\ ∀ x H', (Itl K a).yld i H x H' -> g x (wipe σ vs) H' fun σ2 H2 => wipe σ2 vs = wipe σ vs /\ tt σ2 H2 fun b H3 =>
        if b = true then te σ2 H3 fun y H4 => ∃ acc, H4 D = some (.lst acc) /\ acc.length < sizeLine /\ Nx (upd H4 D (.lst (acc ++ [y]))) else Nx H3) := by
  refine ⟨fun i m H => m = xs.length - i /\ i <= xs.length /\ Pv i H, ⟨xs.length, by simp, Nat.zero_le _, h0⟩, ?_⟩
  rintro i m H ⟨rfl, hi, p⟩
  have q := hl i H hi p
  by_cases hlt : i < xs.length
  · refine .inr ⟨⟨xs, xs[i], q, by simp [hlt]⟩, Pv (i + 1), fun H' p' => ⟨xs.length - (i + 1), by omega, rfl, hlt, p'⟩, fun x H' y => ?_⟩
    obtain ⟨e, y⟩ := y
    subst e
    exact hs i x _ (y xs q) p
  · have e : i = xs.length := by omega
    subst e
    exact .inl ⟨⟨xs, q, Nat.le_refl _⟩, hd H p⟩
def blkC (N:List Str) (sc scope:Scope) (own:List (Str × Nat)):Bool:=
 (match scope.kind with | .function=>true | _=>false)&&(scope.names.all fun y=>decide (scope.names.lookup y.1=some y.2))&&(own.all fun p=>decide (N[p.2]?=some p.1)) &&
  (scope.names.all fun y=>match y.2 with
   | .free=>(match sc.names.lookup y.1 with | some .cell=>true | some .free=>true | _=>false)
   | .local=>decide (y.1∈own.map (·.1))||decide (y.1∉N)
   | .cell=>decide (y.1∈own.map (·.1))||decide (y.1∉N)
   | _=>true)
theorem blkOk_by {N:List Str} {sc scope:Scope} {own:List (Str × Nat)} (h:blkC N sc scope own=true):BlkOk N sc scope own:=by
 unfold blkC at h
 simp only [Bool.and_eq_true,List.all_eq_true,decide_eq_true_eq] at h
 obtain ⟨⟨⟨h1,h2⟩,h3⟩,h4⟩:=h
 refine ⟨?_,h2,h3,fun y hy e=>?_,fun y hy e=>?_⟩
 ·split at h1
  ·assumption
  ·cases h1
 ·have q:=h4 y hy
  simp only [e] at q
  split at q<;>first | exact .inl (by assumption) | exact .inr (by assumption) | cases q
 ·have q:=h4 y hy
  rcases e with e | e<;>(simp only [e,Bool.or_eq_true,decide_eq_true_eq] at q;exact q)
end L2
namespace L2
open PySem PySem.Spec PyProof.Rows
end L2
namespace L2
open PySem PySem.Spec PyProof.Rows
section
variable {κ:Type} [DecidableEq κ]
def valV (kvs:List (κ × V)) (k:κ):Option V:=(kvs.find? fun kv=>decide (kv.1=k)).map (·.2)
def putK (kvs:List (κ × V)) (k:κ) (v:V):List (κ × V):=
 if (kvs.any fun kv=>decide (kv.1=k))=true then kvs.map (fun kv=>if kv.1=k then (kv.1,v) else kv) else kvs++[(k,v)]
theorem valV_pos {p:κ × V} {r:List (κ × V)} {k:κ} (e:p.1=k):valV (p :: r) k=some p.2:=by simp [valV,List.find?_cons,e]
theorem valV_neg {p:κ × V} {r:List (κ × V)} {k:κ} (e:¬ p.1=k):valV (p :: r) k=valV r k:=by simp [valV,List.find?_cons,e]
theorem valV_any (k:κ):∀ kvs:List (κ × V),(kvs.any fun kv=>decide (kv.1=k))=(valV kvs k).isSome
 | []=>rfl
 | p :: r=>by
  rw [List.any_cons]
  by_cases e:p.1=k
  ·simp only [valV_pos e,decide_eq_true e,Bool.true_or,Option.isSome_some]
  ·rw [valV_neg e,decide_eq_false e,Bool.false_or];exact valV_any k r
theorem valV_map (k j:κ) (y:V):∀ kvs:List (κ × V),valV (kvs.map fun kv=>if kv.1=k then (kv.1,y) else kv) j=(valV kvs j).map fun x=>if j=k then y else x
 | []=>rfl
 | p :: r=>by
  have ih:=valV_map k j y r
  rw [List.map_cons]
  by_cases h:p.1=k
  ·rw [if_pos h]
   by_cases e:p.1=j
   ·rw [valV_pos (p:=(p.1,y)) e,valV_pos e,Option.map_some,if_pos (e.symm.trans h)]
   ·rw [valV_neg (p:=(p.1,y)) e,valV_neg e,ih]
  ·rw [if_neg h]
   by_cases e:p.1=j
   ·rw [valV_pos (p:=p) e,valV_pos e,Option.map_some,if_neg (fun z=>h (e.trans z))]
   ·rw [valV_neg (p:=p) e,valV_neg e,ih]
theorem valV_snoc (k j:κ) (y:V):∀ kvs:List (κ × V),valV kvs k=none->valV (kvs++[(k,y)]) j=if j=k then some y else valV kvs j
 | [],_=>by
  by_cases e:k=j
  ·rw [if_pos e.symm];exact valV_pos (p:=(k,y)) e
  ·rw [if_neg (fun z=>e z.symm)];exact valV_neg (p:=(k,y)) e
 | p :: r,hn=>by
  rw [List.cons_append]
  have hk:¬ p.1=k:=fun z=>by rw [valV_pos z] at hn;cases hn
  rw [valV_neg hk] at hn
  have ih:=valV_snoc k j y r hn
  by_cases e:p.1=j
  ·rw [valV_pos e,valV_pos e,if_neg (fun z=>hk (e.trans z))]
  ·rw [valV_neg e,valV_neg e,ih]
theorem valV_put (kvs:List (κ × V)) (k j:κ) (y:V):valV (putK kvs k y) j=if j=k then some y else valV kvs j:=by
 unfold putK
 by_cases a:(kvs.any fun kv=>decide (kv.1=k))=true
 ·rw [if_pos a,valV_map]
  rw [valV_any] at a
  by_cases e:j=k
  ·obtain ⟨x,hx⟩:=Option.isSome_iff_exists.mp a
   rw [if_pos e,e,hx,Option.map_some,if_pos rfl]
  ·rw [if_neg e]
   cases valV kvs j with
   | none=>rfl
   | some x=>rw [Option.map_some,if_neg e]
 ·rw [if_neg a]
  refine valV_snoc k j y kvs ?_
  rw [valV_any] at a
  cases q:valV kvs k with
  | none=>rfl
  | some x=>rw [q] at a;exact (a rfl).elim
theorem length_putK (kvs:List (κ × V)) (k:κ) (v:V):(putK kvs k v).length<=kvs.length+1:=by
 unfold putK
 split
 ·rw [List.length_map];omega
 ·rw [List.length_append,List.length_cons,List.length_nil];omega
theorem putK_new {kvs:List (κ × V)} {k:κ} (v:V) (h:valV kvs k=none):putK kvs k v=kvs++[(k,v)]:=by
 unfold putK
 rw [valV_any,h]
 exact if_neg (by decide)
theorem RelO.isSome_eq {o:Option V} {u:Option Value} (r:RelO o u):o.isSome=u.isSome:=by
 cases o with
 | none=>cases u with
  | none=>rfl
  | some _=>exact (show False from r).elim
 | some _=>cases u with
  | none=>exact (show False from r).elim
  | some _=>rfl
theorem KV.val {kvs:List (κ × V)} {vs:List (κ × Value)} (r:KV kvs vs) (k:κ):RelO (valV kvs k) (valueAt vs k):=by
 unfold KV at r
 induction r with
 | nil=>exact True.intro
 | @cons p q ps qs h t ih=>
  obtain ⟨h1,h2⟩:=h
  by_cases e:p.1=k
  ·have e':q.1=k:=h1.symm.trans e
   have b:valueAt (q :: qs) k=some q.2:=by simp [valueAt,List.find?_cons,e']
   rw [valV_pos e,b];exact h2
  ·have e':¬ q.1=k:=fun z=>e (h1.trans z)
   have b:valueAt (q :: qs) k=valueAt qs k:=by simp [valueAt,List.find?_cons,e']
   rw [valV_neg e,b];exact ih
theorem KV.any {kvs:List (κ × V)} {vs:List (κ × Value)} (r:KV kvs vs) (k:κ):(kvs.any fun kv=>decide (kv.1=k))=vs.any fun kv=>decide (kv.1=k):=by
 unfold KV at r
 induction r with
 | nil=>rfl
 | cons h t ih=>rw [List.any_cons,List.any_cons,ih,h.1]
theorem KV.repl {kvs:List (κ × V)} {vs:List (κ × Value)} (r:KV kvs vs) (k:κ) {y:V} {u:Value} (ry:RelV y u) :
  KV (kvs.map fun kv=>if kv.1=k then (kv.1,y) else kv) (vs.map fun kv=>if kv.1=k then (kv.1,u) else kv):=by
 unfold KV at r ⊢
 induction r with
 | nil=>exact .nil
 | @cons p q ps qs h t ih=>
  rw [List.map_cons,List.map_cons]
  refine .cons ?_ ih
  obtain ⟨h1,h2⟩:=h
  by_cases e:p.1=k
  ·rw [if_pos e,if_pos (h1.symm.trans e)];exact ⟨h1,ry⟩
  ·rw [if_neg e,if_neg (fun z=>e (h1.trans z))];exact ⟨h1,h2⟩
theorem KV.put {kvs:List (κ × V)} {vs:List (κ × Value)} (r:KV kvs vs) (k:κ) {y:V} {u:Value} (ry:RelV y u):KV (putK kvs k y) (stored vs k u):=by
 unfold putK stored
 rw [r.any k]
 by_cases e:(vs.any fun kv=>decide (kv.1=k))=true
 ·rw [if_pos e,if_pos e];exact r.repl k ry
 ·rw [if_neg e,if_neg e];exact Paired.snoc r ⟨rfl,ry⟩
theorem KV.length {kvs:List (κ × V)} {vs:List (κ × Value)} (r:KV kvs vs):kvs.length=vs.length:=Paired.length r
end
theorem kV_is {P:Program} {w:World} {k:Key} {u:Value} (r:RelV (kV k) u):(mixKind P w).is k u=true:=by
 cases k with
 | inl i=>obtain ⟨t,e⟩:=(show ∃ t,u=Value.int i t from r);subst e;exact mixKind_int P w i t
 | inr x=>obtain ⟨t,e⟩:=(show ∃ t,u=Value.str x t from r);subst e;exact mixKind_str P w x t
theorem items_are {P:Program} {w:World}:∀ {ks:List Key} {us:List Value},Vals (ks.map kV) us->ItemsAre (mixKind P w) ks us
 | [],_,r=>by rw [List.map_nil] at r;cases r;exact .nil
 | k :: ks,_,r=>by
  rw [List.map_cons] at r
  cases r with
  | cons h t=>exact .cons (kV_is h) (items_are t)
abbrev KT (H:Hp):List (List Key × V)->List (List Key × Addr × Value)->Prop:=Paired fun p q=>p.1=q.1/\H q.2.1=some (.tup (p.1.map kV))/\RelV p.2 q.2.2
theorem KT.val {H:Hp} {kvs:List (List Key × V)} {xs:List (List Key × Addr × Value)} (r:KT H kvs xs) (k:List Key):RelO (valV kvs k) ((atKey xs k).map (·.2)):=by
 induction r with
 | nil=>exact True.intro
 | @cons p q ps qs h t ih=>
  obtain ⟨h1,_,h2⟩:=h
  by_cases e:p.1=k
  ·have e':q.1=k:=h1.symm.trans e
   have b:atKey (q :: qs) k=some q.2:=by simp [atKey,List.find?_cons,e']
   rw [valV_pos e,b];exact h2
  ·have e':¬ q.1=k:=fun z=>e (h1.trans z)
   have b:atKey (q :: qs) k=atKey qs k:=by simp [atKey,List.find?_cons,e']
   rw [valV_neg e,b];exact ih
theorem KT.repl {H:Hp} {kvs:List (List Key × V)} {xs:List (List Key × Addr × Value)} (r:KT H kvs xs) (k:List Key) {y:V} {u:Value} (ry:RelV y u) :
  KT H (kvs.map fun kv=>if kv.1=k then (kv.1,y) else kv) (xs.map (putAt k u)):=by
 induction r with
 | nil=>exact .nil
 | @cons p q ps qs h t ih=>
  rw [List.map_cons,List.map_cons]
  refine .cons ?_ ih
  obtain ⟨h1,h2,h3⟩:=h
  unfold putAt
  by_cases e:p.1=k
  ·rw [if_pos e,if_pos (h1.symm.trans e)];exact ⟨h1,h2,ry⟩
  ·rw [if_neg e,if_neg (fun z=>e (h1.trans z))];exact ⟨h1,h2,h3⟩
theorem KT.put {H:Hp} {kvs:List (List Key × V)} {xs:List (List Key × Addr × Value)} (r:KT H kvs xs) (k:List Key) {b:Addr} {y:V} {u:Value} (hb:H b=some (.tup (k.map kV))) (ry:RelV y u) :
  KT H (putK kvs k y) (storedH xs k b u):=by
 have e:(kvs.any fun kv=>decide (kv.1=k))=(atKey xs k).isSome:=by
  rw [valV_any,(r.val k).isSome_eq,Option.isSome_map]
 unfold putK storedH
 rw [e]
 by_cases q:(atKey xs k).isSome=true
 ·rw [if_pos q,if_pos q];exact r.repl k ry
 ·rw [if_neg q,if_neg q];exact Paired.snoc r ⟨rfl,hb,ry⟩
theorem KT.keeps {H H':Hp} {kvs:List (List Key × V)} {xs:List (List Key × Addr × Value)} (r:KT H kvs xs) (ht:∀ b ys,H b=some (.tup ys)->H' b=some (.tup ys)):KT H' kvs xs:=
 Paired.mapP r fun _ _ z=>⟨z.1,ht _ _ z.2.1,z.2.2⟩
section
variable {P:Program} {w:World} {H:Hp} {h:Heap} {a:Addr}
theorem rd_of {u:HO} (ok:HOk P w H h) (e:Rd H a u):ObjOk P w H h a u:=e.ok ok
theorem dk_rd {kvs:List (Key × V)} (ok:HOk P w H h) (e:Rd H a (.dK kvs)):kvs.length<=sizeLine/\(a==sysModules)=false/\∃ vs,KV kvs vs/\h.DictOf (mixKind P w) a vs:=
 show ObjOk P w H h a (.dK kvs) from rd_of ok e
theorem dk_of {kvs:List (Key × V)} (ok:HOk P w H h) (e:H a=some (.dK kvs)):kvs.length<=sizeLine/\(a==sysModules)=false/\∃ vs,KV kvs vs/\h.DictOf (mixKind P w) a vs:=dk_rd ok (.inl e)
theorem key_of {ks:List Key} (ok:HOk P w H h) (e:H a=some (.tup (ks.map kV))):(tupleKind (mixKind P w)).is h ks a:=by
 obtain ⟨_,its,r,o,h1,h2,n,h3⟩:=(show ObjOk P w H h a (.tup (ks.map kV)) from ok a _ e)
 exact ⟨o,its.toArray,n,h1,h2,h3,by simpa using items_are r⟩
theorem dt_rd {kvs:List (List Key × V)} (ok:HOk P w H h) (e:Rd H a (.dT kvs)):kvs.length<=sizeLine/\(a==sysModules)=false /\
  ∃ xs,KT H kvs xs/\h.DictOfH (tupleKind (mixKind P w)) a xs:=by
 obtain ⟨z,y,xs,r,o,es,ep,h1,h2,h3,h4,h5⟩:=(show ObjOk P w H h a (.dT kvs) from rd_of ok e)
 refine ⟨z,y,xs,r,o,es,ep,h1,h2,h3,h4,fun x hx=>?_,h5⟩
 have all:∀ {l:List (List Key × V)} {m:List (List Key × Addr × Value)},KT H l m->∀ x∈m,(tupleKind (mixKind P w)).is h x.1 x.2.1:=by
  intro l m q
  induction q with
  | nil=>intro x hx;exact nomatch hx
  | @cons p q ps qs hq t ih=>
   intro x hx
   rcases List.mem_cons.mp hx with e | hx
   ·subst e
    exact key_of ok (by rw [<-hq.1];exact hq.2.1)
   ·exact ih x hx
 exact all r x hx
theorem dt_of {kvs:List (List Key × V)} (ok:HOk P w H h) (e:H a=some (.dT kvs)):kvs.length<=sizeLine/\(a==sysModules)=false /\
  ∃ xs,KT H kvs xs/\h.DictOfH (tupleKind (mixKind P w)) a xs:=dt_rd ok (.inl e)
end
def DGet (H:Hp) (a:Addr) (y:V) (r:Option V):Prop:=
 (∃ kvs k,Rd H a (.dK kvs)/\y=kV k/\r=valV kvs k)\/∃ kvs k b,Rd H a (.dT kvs)/\y=.ref b/\H b=some (.tup (k.map kV))/\r=valV kvs k
def DPut (H:Hp) (a:Addr) (y v:V) (H':Hp):Prop:=
 (∃ kvs k,H a=some (.dK kvs)/\y=kV k/\kvs.length<sizeLine/\H'=upd H a (.dK (putK kvs k v))) \/
 ∃ kvs k b,H a=some (.dT kvs)/\y=.ref b/\H b=some (.tup (k.map kV))/\kvs.length<sizeLine/\H'=upd H a (.dT (putK kvs k v))
theorem DGet.k {H:Hp} {a:Addr} {kvs:List (Key × V)} {k:Key} (e:H a=some (.dK kvs)):DGet H a (kV k) (valV kvs k):=.inl ⟨kvs,k,.inl e,rfl,rfl⟩
theorem DPut.k {H:Hp} {a:Addr} {kvs:List (Key × V)} {k:Key} {v:V} (e:H a=some (.dK kvs)) (hl:kvs.length<sizeLine):DPut H a (kV k) v (upd H a (.dK (putK kvs k v))):=.inl ⟨kvs,k,e,rfl,hl,rfl⟩
theorem DPut.t {H:Hp} {a b:Addr} {kvs:List (List Key × V)} {k:List Key} {v:V} (e:H a=some (.dT kvs)) (eb:H b=some (.tup (k.map kV))) (hl:kvs.length<sizeLine) :
  DPut H a (.ref b) v (upd H a (.dT (putK kvs k v))):=.inr ⟨kvs,k,b,e,rfl,eb,hl,rfl⟩
section
variable {X:Cx} {pins:List (Addr × Obj)} {σ:St} {H:Hp} {s:Shared} {a:Addr} {y v:V} {u r:Value} {o:Option V} {A:Around} {E:Value->Shared->Prop}
theorem Inv.big (I:Inv X pins σ H s):sysModules<s.heap.objs.size:=by
 have h:mainGlobals<s.heap.objs.size:=(I.mod.glob.keeps I.bk).lt
 exact Nat.lt_trans (by decide) h
theorem d_getItem {Q:Value->Shared->Prop} (hu:A.units+1<cLine) (I:Inv X pins σ H s) (g:DGet H a y (some v)) (ry:RelV y u) (h:∀ w' s',Inv X pins σ H s'->RelV v w'->Q w' s') :
  wpAny (model X.prog X.w) A (getItem (.ref a) u) Q E s:=by
 rcases g with ⟨kvs,k,e,ey,l⟩ | ⟨kvs,k,b,e,ey,eb,l⟩
 ·subst ey
  obtain ⟨z,hd,vs,rel,dd⟩:=dk_rd I.hok e
  obtain ⟨w',hw,rw'⟩:=RelO.some_of (v:=v) (o:=valueAt vs k) (by rw [l];exact rel.val k)
  exact wpAny_getItem_of (kV_is ry) dd.mapOf hw (h w' _ (I.tok _) rw')
 ·subst ey
  cases (show u=Value.ref b from ry)
  obtain ⟨z,hd,xs,rel,dd⟩:=dt_rd I.hok e
  obtain ⟨w',hw,rw'⟩:=RelO.some_of (v:=v) (o:=(atKey xs k).map (·.2)) (by rw [l];exact rel.val k)
  obtain ⟨p,hp,hp2⟩:=Option.map_eq_some_iff.mp hw
  refine wpAny_getItem_heap (tupleKind_room_in1 hu) (key_of I.hok eb) dd hp ?_
  rw [hp2]
  exact h w' _ (I.tok _) rw'
theorem d_in {Q:Value->Shared->Prop} (hu:A.units+1<cLine) (I:Inv X pins σ H s) (g:DGet H a y o) (ry:RelV y u) (h:∀ s',Inv X pins σ H s'->Q (.bool o.isSome) s') :
  wpAny (model X.prog X.w) A (compareOp .In u (.ref a)) Q E s:=by
 rcases g with ⟨kvs,k,e,ey,l⟩ | ⟨kvs,k,b,e,ey,eb,l⟩
 ·subst ey
  obtain ⟨z,hd,vs,rel,dd⟩:=dk_rd I.hok e
  refine wpAny_in_of (kV_is ry) hd dd.mapOf ?_
  rw [<-(rel.val k).isSome_eq,<-l]
  exact h _ (I.tok _)
 ·subst ey
  cases (show u=Value.ref b from ry)
  obtain ⟨z,hd,xs,rel,dd⟩:=dt_rd I.hok e
  refine wpAny_in_heap (tupleKind_room_in1 hu) (key_of I.hok eb) hd dd ?_
  have q:=(rel.val k).isSome_eq
  rw [Option.isSome_map] at q
  rw [<-q,<-l]
  exact h _ (I.tok _)
theorem d_write {h':Heap} {t':Nat} {ob:HO} (I:Inv X pins σ H s) (mu:Mut (H a)) (hs:Heap.SameBut a s.heap h') (he:∃ q,h'.get? a=some q) (new:ObjOk X.prog X.w (upd H a ob) h' a ob) :
  Inv X pins σ (upd H a ob) {s with heap:=h',toks:=t'}:=
 I.write (x:=a) (e:=a) mu (.inl rfl) (fun b q hb z=>(hs.2 b hb).trans z) he new
theorem dk_new {P:Program} {w:World} {H':Hp} {h':Heap} {kvs:List (Key × V)} {vs:List (Key × Value)} (z:kvs.length<=sizeLine) (hd:(a==sysModules)=false) (rel:KV kvs vs) (dd:h'.DictOf (mixKind P w) a vs) :
  ObjOk P w H' h' a (.dK kvs):=⟨z,hd,vs,rel,dd⟩
theorem d_setItem {H':Hp} {Q:Unit->Shared->Prop} (hu:A.units+1<cLine) (I:Inv X pins σ H s) (g:DPut H a y v H') (ry:RelV y u) (rv:RelV v r) (h:∀ s',Inv X pins σ H' s'->Q () s') :
  wpAny (model X.prog X.w) A (setItem (.ref a) u r) Q E s:=by
 rcases g with ⟨kvs,k,e,ey,l,eH⟩ | ⟨kvs,k,b,e,ey,eb,l,eH⟩
 ·subst ey eH
  obtain ⟨z,hd,vs,rel,dd⟩:=dk_of I.hok e
  have hz:vs.length<=sizeLine:=by rw [<-rel.length];exact z
  have hl:(putK kvs k v).length<=sizeLine:=by have:=length_putK kvs k v;omega
  refine wpAny_setItem_pairs (hsz:=hz) (kV_is ry) dd fun h' dd' hs=>h _ ?_
  have he:∃ q,h'.get? a=some q:=let ⟨q,_,_,hq,_⟩:=dd';⟨q,hq⟩
  exact d_write I (by rw [e];exact True.intro) hs he (dk_new hl hd (rel.put k rv) dd')
 ·subst ey eH
  cases (show u=Value.ref b from ry)
  obtain ⟨z,hd,xs,rel,dd⟩:=dt_of I.hok e
  have hz:xs.length<=sizeLine:=by rw [<-Paired.length rel];exact z
  have hl:(putK kvs k v).length<=sizeLine:=by have:=length_putK kvs k v;omega
  refine wpAny_setItem_heap (hsz:=hz) (tupleKind_room_in1 hu) (key_of I.hok eb) dd fun h' dd' hs=>h _ ?_
  obtain ⟨q,es,ep,hq,h2,h3,h4,_,h5⟩:=dd'
  refine d_write I (by rw [e];exact True.intro) hs ⟨q,hq⟩ ⟨hl,hd,_,(rel.put k eb rv).keeps fun c ys ec=>?_,q,es,ep,hq,h2,h3,h4,h5⟩
  rw [upd_ne (ne_of ec e (fun z=>nomatch z))]
  exact ec
end
def NoSl (i:Expr):Prop:=∀ ov iv,subscripted i false ov iv=operate [ov,iv] (getItem ov iv)
theorem subD_of {prog:Program} {w:World} {A:Around} {E:Value->Shared->Prop} {s:Shared} {env:Env} {value slice:Expr} {pos:Pos} {T id:String} {Q:Value->Shared->Prop}
  (hl:typeLookup (.type T) "__getitem__" = pure (some (.builtin id))) (hs:NoSl slice)
  (h:wpAny (model prog w) A (eval value env) (fun o s₁=>wpAny (model prog w) A (eval slice env) (fun i s₂=>s₂.TypeIs o T/\wpAny (model prog w) A (getItem o i) Q E s₂) E s₁) E s) :
  wpAny (model prog w) A (eval (.Subscript value slice pos) env) Q E s:=by
 refine Subscript_ (wpAny_mono h (fun o s₁ h₁=>wpAny_mono h₁ (fun i s₂ h₂=>?_) fun _ _ x=>x) fun _ _ x=>x)
 obtain ⟨hT,h₂⟩:=h₂
 unfold subscriptTail
 refine wpAny_bind ?_
 rw [getitemInPython_of_ne hT.not_modules]
 refine wpAny_bind (wpAny_specialOf hT hl ?_)
 have fin:wpAny (model prog w) A (subscripted slice false o i) (fun r s₃=>wpAny (model prog w) A (letTemporaryGo value o r >>= fun _=>pure r) Q E s₃) E s₂:=by
  rw [hs o i]
  exact wpAny_operating (wpAny_mono h₂ (fun r s₃ h₃=>wpAny_bind (wpAny_letTemporaryGo (wpAny_pure h₃))) fun _ _ x=>x)
 first
  | exact wpAny_pure (wpAny_bind fin)
  | exact wpAny_bind (wpAny_pure (wpAny_bind fin))
  | exact wpAny_bind fin
theorem dict_typeIs {X:Cx} {pins:List (Addr × Obj)} {σ:St} {H:Hp} {s:Shared} {a:Addr} {y:V} {o:Option V} (I:Inv X pins σ H s) (g:DGet H a y o):s.TypeIs (.ref a) "dict":=by
 rcases g with ⟨kvs,k,e,_,_⟩ | ⟨kvs,k,b,e,_,_,_⟩
 ·obtain ⟨_,_,vs,_,dd⟩:=dk_rd I.hok e
  exact dd.typeIs
 ·obtain ⟨_,_,xs,_,dd⟩:=dt_rd I.hok e
  exact dd.typeIs
def tDGet (td ty:TE):TE:=fun σ H Q=>td σ H fun x H1=>ty σ H1 fun y H2=>∃ a v,x=.ref a/\DGet H2 a y (some v)/\Q v H2
def tDIn (ty td:TE):TE:=fun σ H Q=>ty σ H fun y H1=>td σ H1 fun x H2=>∃ a o,x=.ref a/\DGet H2 a y o/\Q (.bl o.isSome) H2
def sDPut (td ty tv:TE):TS:=fun D σ H=>tv σ H fun v H1=>td σ H1 fun x H2=>ty σ H2 fun y H3=>∃ a H4,x=.ref a/\DPut H3 a y v H4/\D.nx σ H4
section
variable {X:Cx} {o i e value:Expr} {pos pos' tpos:Pos} {td ty tv:TE}
theorem pe_dget (hu:X.A.units+1<cLine) (ho:PE X o td) (hi:PE X i ty) (hs:NoSl i):PE X (.Subscript o i pos) (tDGet td ty):=by
 intro pins s σ H Q I h
 refine subD_of PySem.F.slot_dict_getitem.lookup hs (thn (ho pins s σ H _ I h) fun u s1 ⟨x,H1,I1,rx,q1⟩=>thn (hi pins s1 σ H1 _ I1 q1) fun iv s2 ⟨y,H2,I2,ry,a,v,ex,g,q2⟩=>?_)
 subst ex
 obtain rfl:u=Value.ref a:=rx
 exact ⟨dict_typeIs I2 g,d_getItem hu I2 g ry fun w' s3 I3 rw'=>⟨v,H2,I3,rw',q2⟩⟩
theorem pc_din (hu:X.A.units+1<cLine) (hi:PE X i ty) (ho:PE X o td):PC X .In i o (tDIn ty td):=by
 intro pins s σ H Q I h
 refine thn (hi pins s σ H _ I h) fun iv s1 ⟨y,H1,I1,ry,q1⟩=>thn (ho pins s1 σ H1 _ I1 q1) fun u s2 ⟨x,H2,I2,rx,a,ov,ex,g,q2⟩=>?_
 subst ex
 obtain rfl:u=Value.ref a:=rx
 exact d_in hu I2 g ry fun s3 I3=>⟨.bl ov.isSome,H2,I3,rfl,q2⟩
theorem ps_dput (hu:X.A.units+1<cLine) (ho:PE X o td) (hi:PE X i ty) (hv:PE X value tv) (hs:swapsWith value (some (.Subscript o i pos')) pos.line X.env=pure false) :
  PS X (.Assign [.Subscript o i pos'] value pos) (sDPut td ty tv):=by
 intro pins s σ H D I h
 refine wpAny_Assign_Subscript (thn (hv pins s σ H _ I h) fun r s1 ⟨v,H1,I1,rv,q1⟩=>thn (ho pins s1 σ H1 _ I1 q1) fun u s2 ⟨x,H2,I2,rx,q2⟩=>thn (hi pins s2 σ H2 _ I2 q2) fun iv s3 ⟨y,H3,I3,ry,a,H4,ex,g,q3⟩=>?_) hs
 subst ex
 obtain rfl:u=Value.ref a:=rx
 exact d_setItem hu I3 g ry rv fun s4 I4=>⟨σ,H4,I4,q3⟩
end
theorem dk_empty {P:Program} {w:World} {H:Hp} (h:Heap) (hb:sysModules<h.objs.size):ObjOk P w H (h.push {cls:=.type "dict",data:=.dict #[]}) h.objs.size (.dK []):=
 ⟨Nat.zero_le _,beq_eq_false_iff_ne.mpr (Ne.symm (Nat.ne_of_lt hb)),[],.nil,Heap.DictOf.new h⟩
theorem dt_empty {P:Program} {w:World} {H:Hp} (h:Heap) (hb:sysModules<h.objs.size):ObjOk P w H (h.push {cls:=.type "dict",data:=.dict #[]}) h.objs.size (.dT []):=
 ⟨Nat.zero_le _,beq_eq_false_iff_ne.mpr (Ne.symm (Nat.ne_of_lt hb)),[],.nil,_,#[],0,Heap.get?_push_size _ rfl,⟨rfl,rfl,rfl⟩,rfl,rfl,List.nodup_nil⟩
def tDNewK:TE:=fun _ H Q=>∀ p,H p=none->Q (.ref p) (upd H p (.dK []))
def tDNewT:TE:=fun _ H Q=>∀ p,H p=none->Q (.ref p) (upd H p (.dT []))
section
variable {X:Cx} {pos:Pos}
theorem pe_dnewK:PE X (.Dict [] [] pos) tDNewK:=fun pins s σ H Q I h=>
 wpAny_Dict_empty ⟨.ref s.heap.objs.size,_,I.laid (a:=s.heap.objs.size) (o:=.dK []) (t':=s.toks) (fun _ _ q=>Heap.get?_push_of_some _ q) (Nat.le_refl _) (dk_empty s.heap I.big),rfl,h _ (I.hok.fresh (Nat.le_refl _))⟩
theorem pe_dnewT:PE X (.Dict [] [] pos) tDNewT:=fun pins s σ H Q I h=>
 wpAny_Dict_empty ⟨.ref s.heap.objs.size,_,I.laid (a:=s.heap.objs.size) (o:=.dT []) (t':=s.toks) (fun _ _ q=>Heap.get?_push_of_some _ q) (Nat.le_refl _) (dt_empty s.heap I.big),rfl,h _ (I.hok.fresh (Nat.le_refl _))⟩
end
end L2
namespace L2
open PySem PySem.Spec PyProof.Rows
end L2
namespace L2
open PySem PySem.Spec PyProof.Rows
theorem boot_reversed5:bootBuiltins "reversed" = some (.type "reversed"):=by decide +kernel
section
variable {X:Cx} {pins:List (Addr × Obj)} {σ:St} {H:Hp} {s:Shared} {h':Heap}
theorem Inv.turnedNew {t':Nat} {ch:List Addr} {T:Addr} {ob:HO} (I:Inv X pins σ H s) (k:∀ b o,b∉ch->s.heap.get? b=some o->h'.get? b=some o) (hf:∀ b∈ch,FpOk X pins H b) (hT:s.heap.objs.size<=T)
  (new:ObjOk X.prog X.w (upd H T ob) h' T ob):Inv X pins σ (upd H T ob) {s with heap:=h',toks:=t'}:=by
 have hn:H T=none:=I.hok.fresh hT
 have nit:∀ b u,H b=some u->b∉ch:=fun b u e z=>by
  have q:=(hf b z).1
  rw [q] at e;cases e
 refine I.step (g':=s.gens) (d':=s.drawn) (ch:=ch) (fun b hb=>⟨(hf b hb).2.2.2.1,(hf b hb).2.1,(hf b hb).2.2.2.2.1,(hf b hb).2.2.2.2.2⟩) (fun b o _ _ hc e _=>k b o hc e) (fun b o _ _ hc e _=>⟨o.slots,k b o hc e⟩)
  (fun b o _ e n=>?_) (fun b o hc e=>⟨o,k b o hc e⟩) (fun b xs e=>?_) (fun b o u e=>?_) (fun b ps e=>⟨#[],?_⟩) (fun m hm=>?_) (fun b u e=>?_) I.bare
 ·rw [upd_ne (Nat.ne_of_lt (Nat.lt_of_lt_of_le (Heap.lt_size e) hT))];exact n
 ·rw [upd_ne (ne_of_none e hn)];exact e
 ·rw [upd_ne (ne_of_none e hn)];exact e
 ·rw [upd_ne (ne_of_none e hn),e];simp
 ·obtain ⟨o,es,ep,ho,r⟩:=hm
  exact ⟨o,es,ep,k _ o (fun z=>(hf _ z).2.1 rfl) ho,r⟩
 ·by_cases hb:b=T
  ·subst hb
   rw [upd_same] at e
   cases e
   exact new
  ·rw [upd_ne hb] at e
   refine (I.hok b u e).stay (fun c v hc q=>k c v ?_ q) (fun c q=>by rw [upd_ne (ne_of_none q hn)];exact q) fun c xs q=>by rw [upd_ne (ne_of_none q hn)];exact q
   rcases hc with z | z
   ·rw [z];exact nit b u e
   ·exact nit c _ z
theorem Inv.lock {d:Addr} {u:HO} (I:Inv X pins σ H s) (h:H d=some u) (mu:Mut (some u)):∃ od,Inv X pins σ (upd H d (.frz od u)) s:=by
 have x:=I.hok d u h
 have ex:∃ od,s.heap.get? d=some od:=by
  cases u with
  | lst xs=>obtain ⟨_,_,_,_,e⟩:=x;exact ⟨_,e⟩
  | dK kvs=>obtain ⟨_,_,_,_,o,_,_,e,_⟩:=x;exact ⟨o,e⟩
  | dT kvs=>obtain ⟨_,_,_,_,o,_,_,e,_⟩:=x;exact ⟨o,e⟩
  | set S n=>obtain ⟨o,_,_,_,e,_⟩:=x;exact ⟨o,e⟩
  | ins C dx fs=>obtain ⟨_,_,_,e,_⟩:=x;exact ⟨_,e⟩
  | ext φ=>obtain ⟨_,⟨_,e⟩,_⟩:=x;exact ⟨_,e⟩
  | _=>exact False.elim mu
 obtain ⟨od,e⟩:=ex
 have new:ObjOk X.prog X.w (upd H d (.frz od u)) s.heap d (.frz od u):=by
  refine ⟨e,x.stay (fun b v _ q=>q) (fun b q=>?_) fun b xs q=>?_⟩
  ·rw [upd_ne (fun z=>by rw [z,h] at q;cases q;exact mu)];exact q
  ·rw [upd_ne (fun z=>by rw [z,h] at q;cases q;exact mu)];exact q
 exact ⟨od,I.write (x:=d) (e:=d) (t':=s.toks) (h':=s.heap) (by rw [h];exact mu) (.inl rfl) (fun b v _ q=>q) ⟨od,e⟩ new⟩
theorem Inv.nofrz {d:Addr} {u:HO} (I:Inv X pins σ H s) (h:H d=some u) (mu:Mut (some u)):∀ o' u',X.H_0 d≠some (.frz o' u'):=fun o' u' e=>by
 have q:=I.base.frzs d o' u' e
 rw [h] at q
 cases q
 exact mu
theorem Inv.unlock {d:Addr} {od:Obj} {u:HO} (I:Inv X pins σ H s) (h:H d=some (.frz od u)) (hn:∀ o' u',X.H_0 d≠some (.frz o' u')):Inv X pins σ (upd H d u) s:=by
 have neH:∀ b o,H b=some o->(∀ o' u',o≠.frz o' u')->b≠d:=fun b o e hne z=>by
  rw [z,h] at e
  cases e
  exact hne _ _ rfl
 have neN:∀ b,H b=none->b≠d:=fun b e z=>by rw [z,h] at e;cases e
 refine ⟨I.ok,I.os,I.bare,⟨I.base.keep,I.base.slot,fun b o e n hx=>?_,I.base.there,fun b xs e=>?_,fun b o x e=>?_,fun b ps e=>?_⟩,I.loc,I.cell,?_,fun x c e=>?_,fun p hp=>?_,fun b o e=>?_,I.len⟩
 ·rw [upd_ne (neN b (I.base.free b o e n hx))];exact I.base.free b o e n hx
 ·have q:=I.base.tups b xs e
  rw [upd_ne (neH b _ q (fun _ _ z=>nomatch z))];exact q
 ·have q:=I.base.frzs b o x e
  rw [upd_ne (fun z=>by rw [z] at e;exact hn _ _ e)];exact q
 ·obtain ⟨m,q⟩:=I.base.tbls b ps e
  exact ⟨m,by rw [upd_ne (neH b _ q (fun _ _ z=>nomatch z))];exact q⟩
 ·rw [upd_ne (neN _ I.free)];exact I.free
 ·rw [upd_ne (neN c (I.freeC x c e))];exact I.freeC x c e
 ·obtain ⟨e,n,r⟩:=I.pin p hp
  exact ⟨e,by rw [upd_ne (neN _ n)];exact n,r⟩
 ·by_cases hb:b=d
  ·rw [hb,upd_same] at e
   cases e
   rw [hb]
   obtain ⟨_,x⟩:=I.hok d _ h
   exact x.stay (fun c v _ q=>q) (fun c q=>by rw [upd_ne (neH c _ q (fun _ _ z=>nomatch z))];exact q) fun c xs q=>by rw [upd_ne (neH c _ q (fun _ _ z=>nomatch z))];exact q
  ·rw [upd_ne hb] at e
   exact (I.hok b o e).stay (fun c v _ q=>q) (fun c q=>by rw [upd_ne (neH c _ q (fun _ _ z=>nomatch z))];exact q) fun c xs q=>by rw [upd_ne (neH c _ q (fun _ _ z=>nomatch z))];exact q
end
def tLock (t:TS):TS:=fun D σ H=>∃ d u,H d=some u/\Mut (some u)/\∀ od,t ⟨fun σ' H'=>H' d=some (.frz od u)/\D.nx σ' (upd H' d u),fun v H'=>H' d=some (.frz od u)/\D.rt v (upd H' d u),fun σ' H'=>H' d=some (.frz od u)/\D.bk σ' (upd H' d u),fun σ' H'=>H' d=some (.frz od u)/\D.ct σ' (upd H' d u)⟩ σ (upd H d (.frz od u))
def tLockE (t:TE):TE:=fun σ H Q=>∃ d u,H d=some u/\Mut (some u)/\∀ od,t σ (upd H d (.frz od u)) fun v H'=>H' d=some (.frz od u)/\Q v (upd H' d u)
section
variable {X:Cx}
theorem ps_lock {st:Stmt} {t:TS} (h:PS X st t):PS X st (tLock t):=by
 intro pins s σ H D I hw
 obtain ⟨d,u,hd,mu,hw⟩:=hw
 obtain ⟨od,I1⟩:=I.lock hd mu
 refine thn (h pins s σ _ _ I1 (hw od)) fun f s1 q=>?_
 cases f with
 | next=>obtain ⟨σ',H',I2,e,q⟩:=q;exact ⟨σ',_,I2.unlock e (I.nofrz hd mu),q⟩
 | brk=>obtain ⟨σ',H',I2,e,q⟩:=q;exact ⟨σ',_,I2.unlock e (I.nofrz hd mu),q⟩
 | cont=>obtain ⟨σ',H',I2,e,q⟩:=q;exact ⟨σ',_,I2.unlock e (I.nofrz hd mu),q⟩
 | ret v=>obtain ⟨x,σ',H',I2,r,e,q⟩:=q;exact ⟨x,σ',_,I2.unlock e (I.nofrz hd mu),r,q⟩
theorem pe_lock {e:Expr} {t:TE} (h:PE X e t):PE X e (tLockE t):=by
 intro pins s σ H Q I hw
 obtain ⟨d,u,hd,mu,hw⟩:=hw
 obtain ⟨od,I1⟩:=I.lock hd mu
 refine thn (h pins s σ _ _ I1 (hw od)) fun v s1 ⟨x,H1,I2,r,e2,q⟩=>?_
 exact ⟨x,_,I2.unlock e2 (I.nofrz hd mu),r,q⟩
theorem pi_one {tg:Expr} {pins:List (Addr × Obj)} {σ:St} {H:Hp} {s:Shared} {R:It->Hp->Prop} {J:It} {tn:Nat->Heap->Prop} {tk:Nat} (I:Inv X pins σ H s) (o:Obj)
  (T:Turn X.prog X.w X.K tg J [s.heap.objs.size] s.heap.objs.size tn) (st:tn 0 (s.heap.push o)) (q:R J H):PIE X pins σ tg R (.ref s.heap.objs.size) {s with heap:=s.heap.push o,toks:=tk}:=by
 refine ⟨s.heap.objs.size,[s.heap.objs.size],tn,J,H,rfl,I.kept fun b ob e=>Heap.get?_push_of_some _ e,T,st,fun b hb=>?_,q⟩
 have e:b=s.heap.objs.size:=by simpa using hb
 subst e
 exact I.fpOk (Nat.le_refl _) (I.hok.fresh (Nat.le_refl _))
end
def Itv (K:PySem.W.Frag) (a:Addr) (n:Nat):It:=
 ⟨fun i H=>i<n/\∃ (xs:List V) (x:V),SqL K H a xs/\xs[n-1-i]?=some x,fun i H x H'=>H'=H/\∀ xs,SqL K H a xs->xs[n-1-i]?=some x,fun i _=>n<=i⟩
theorem turn_rev {P:Program} {w:World} {K:PySem.W.Frag} {tg:Expr} (a it:Addr) (n:Nat):Turn P w K tg (Itv K a n) [it] it (fun i h=>i<=n/\h.IsRevIter it a ((n:Int)-1-(i:Nat))) where
 mem:=by simp
 obj:=fun i h st b hb=>by
  have e:b=it:=by simpa using hb
  subst e
  obtain ⟨_,o,e,c,d⟩:=st
  exact ⟨o,e,fun v z=>by rw [d] at z;cases z⟩
 keep:=fun i h h' st k=>⟨st.1,st.2.at fun o e=>k it (by simp) o e⟩
 item:=by
  intro X hP hw hK hc i pins s σ H E I hf st hg
  subst hP hw hK
  obtain ⟨hin,xs,x,hq,hx⟩:=hg
  obtain ⟨its,rv,p,hz⟩:=I.list hq
  obtain ⟨u,hu,ru⟩:=rv.get hx
  obtain ⟨f0,f1,f2,f3,f4,f5⟩:=hf it (by simp)
  obtain ⟨_,hit⟩:=st
  have e1:(n:Int)-1-((i:Nat):Int)=((n-1-i:Nat):Int):=by omega
  rw [e1] at hit
  refine wpAny_pyNext_rev_item hit p.isList (x:=u) (by simpa using hu) fun h' st' sb=>?_
  have e2:((n-1-i:Nat):Int)-1=(n:Int)-1-((i+1:Nat):Int):=by omega
  rw [e2] at st'
  have I1:Inv X pins σ H {s with heap:=h'}:=I.turned (t':=s.toks) (fun b o hb e=>(sb.2 b hb).trans e) f0 f1 f3 f4 f5
  obtain ⟨o,e,c,d⟩:=id st'
  exact ⟨u,rfl,go_of (s:={s with heap:=h'}) e c d (by decide) ⟨x,H,I1,ru,⟨rfl,fun ys hy=>by rw [I.list_inj hy hq];exact hx⟩,⟨hin,st'⟩,fun b hb=>(hf b hb).1⟩⟩
 done:=by
  intro X hP hw hK hc i pins s σ H E I hf st hg
  subst hP hw hK
  obtain ⟨f0,f1,f2,f3,f4,f5⟩:=hf it (by simp)
  obtain ⟨hin,hit⟩:=st
  have hge:n<=i:=hg
  have e1:(n:Int)-1-((i:Nat):Int) = -1:=by omega
  rw [e1] at hit
  exact wpAny_pyNext_rev_end (I.ok.hd hc) hit fun h' eb=>⟨rfl,I.turned (t':=s.toks) (fun b o hb e=>eb b o hb e) f0 f1 f3 f4 f5⟩
 self:=fun A i s Q E st h=>wpAny_pyIter_revIter st.2 h
def iRev (K:PySem.W.Frag) (ta:TA):TI:=fun σ H R=>ta σ H fun vs H1=>∃ (a:Addr) (xs:List V),vs=[.ref a]/\SqL K H1 a xs/\R (Itv K a xs.length) H1
section
variable {X:Cx} {tg:Expr}
theorem pi_reversed {e:Expr} {ta:TA} {p pos:Pos} (hg:Gl X "reversed") (hm:X.mg "reversed" = none) (ha:PA X [e] ta) (hs:starEach [e] X.env=[(false,eval e X.env)]:=by rfl):PI X tg (.Call (.Name "reversed" p) [e] [] pos) (iRev X.K ta):=by
 intro pins s σ H R I h
 refine Call_ (ld_blt I hg hm boot_reversed5 (PyProof.Rows.callWith_type1 (thn (ha pos pins s σ H _ I h) fun us s1 ⟨vs,H1,I1,r1,q1⟩=>?_) hs rfl))
 obtain ⟨a,xs,e,hq,q⟩:=q1
 subst e
 cases r1 with
 | cons r rr=>
  cases rr
  cases r
  obtain ⟨its,rv,p',hz⟩:=I1.list hq
  have hl:=rv.length
  have e1:((its.toArray.size:Nat):Int)-1=(xs.length:Int)-1-((0:Nat):Int):=by simp only [List.size_toArray];omega
  refine call_reversed_list p'.isList (wpAny_pyIter_revIter (l:=a) (i:=((its.toArray.size:Nat):Int)-1) ⟨_,Heap.get?_push_size _ rfl,rfl,rfl⟩ ?_)
  refine pi_one (tk:=s1.toks) I1 _ (turn_rev a _ xs.length) ⟨Nat.zero_le _,?_⟩ q
  rw [<-e1]
  exact ⟨_,Heap.get?_push_size _ rfl,rfl,rfl⟩
end
section
variable {prog:Program} {w:World} {A:Around} {E:Value->Shared->Prop} {s:Shared}
theorem iter_keys {d:Addr} {o:Obj} {es:Array DictEntry} {ep:Nat} {Q:Value->Shared->Prop} (hd:(d==sysModules)=false) (ho:s.heap.get? d=some o) (hc:o.ExactDict) (hdat:o.data=.dict es ep)
  (hQ:Q (.ref s.heap.objs.size) {s with heap:=s.heap.push {cls:=.type "dict_keyiterator",data:=.fields #[.ref d,.int 0 0,.int es.size 0,.int ep 0]}}) :
  wpAny (model prog w) A (pyIter (.ref d)) Q E s:=by
 have hT:s.TypeIs (.ref d) "dict":=⟨o,ho,hc.1⟩
 refine wpAny_pyIter_slot hT F.slot_dict_iter (wpAny_call_entry F.slot_dict_iter hT F.entry_dict_iter ?_ (F.args_dict_iter_1 _))
 unfold Builtin.«dict.__iter__»
 refine wpAny_bind ?_
 unfold Builtin.Dict.dictSlotNone
 refine wpAny_bind (wpAny_notOrdered_dict hT ?_)
 show wpAny _ _ (pure (Value.ref d)) _ _ s
 refine wpAny_pure ?_
 show wpAny _ _ (Builtin.Dict.showsAll d >>= _) _ _ s
 unfold Builtin.Dict.showsAll
 rw [if_neg (by rw [hd];exact Bool.false_ne_true)]
 refine wpAny_bind (wpAny_pure ?_)
 refine wpAny_bind (wpAny_dictEntries ho hdat ?_)
 refine wpAny_bind (wpAny_dictEpoch ho hdat ?_)
 refine wpAny_bind (wpAny_newObj_type (wpAny_pure ⟨_,rfl,"dict_keyiterator",_,⟨_,Heap.get?_push_size _ rfl,rfl⟩,F.slot_dict_keyiterator_next.lookup,?_⟩))
 simpa [rawInt] using hQ
theorem next_key_item {it d:Addr} {i n ep:Nat} {od:Obj} {es:Array DictEntry} {en:DictEntry} {Q:Option Value->Shared->Prop} (hit:s.heap.IsKeyIter it d i n ep) (hod:s.heap.get? d=some od) (hdd:od.data=.dict es ep)
  (hsz:es.size=n) (hx:es[i]?=some en) (hQ:∀ h',h'.IsKeyIter it d (i+1) n ep->Heap.SameBut it s.heap h'->Q (some en.key) {s with heap:=h'}):wpAny (model prog w) A (pyNext (.ref it)) Q E s:=by
 obtain ⟨o,ho,hc,hd⟩:=id hit
 unfold pyNext
 refine wpAny_bind (wpAny_attempt (wpAny_callSpecial?_slot (name:=Str.ofString "__next__") hit.typeIs F.slot_dict_keyiterator_next
  (wpAny_call_entry F.slot_dict_keyiterator_next hit.typeIs F.entry_dict_keyiterator_next ?_ (F.args_dict_keyiterator_next_1 _))))
 refine wpAny_bind (wpAny_pure ?_)
 refine wpAny_bind ?_
 refine wpAny_bind ?_
 first | refine wpAny_bind (wpAny_typeNameOfWhole_keyiter hit.typeIs (wpAny_pure ?_)) | refine wpAny_bind (wpAny_typeNameOf_keyiter hit.typeIs (wpAny_pure ?_))
 refine wpAny_bind (wpAny_fieldsOf ho hd ?_)
 have hown:Builtin.Dict_items.ownsTuple "dict_keyiterator" = false:=by decide
 simp only [hown,Bool.false_eq_true,if_false]
 show wpAny _ _ (if (Value.ref d==Value.none)=true then _ else _) _ _ s
 rw [if_neg (show ¬ ((Value.ref d==Value.none)=true) from Bool.false_ne_true)]
 refine wpAny_bind (wpAny_pure ?_)
 refine wpAny_bind (wpAny_dictEntries hod hdd ?_)
 rw [if_neg (by rw [hsz];simp)]
 refine wpAny_bind (wpAny_pure ?_)
 refine wpAny_bind (wpAny_dictEpoch hod hdd ?_)
 rw [if_neg (by simp)]
 refine wpAny_pure ?_
 obtain ⟨hlt',hen⟩:=Array.getElem?_eq_some_iff.mp hx
 simp only [show ¬ ((i:Int)<0) from by omega,if_false,Int.toNat_natCast,Array.getElem?_eq_getElem hlt']
 refine wpAny_bind ?_
 first | refine wpAny_bind (wpAny_typeNameOfWhole_keyiter hit.typeIs (wpAny_pure ?_)) | refine wpAny_bind (wpAny_typeNameOf_keyiter hit.typeIs (wpAny_pure ?_))
 refine wpAny_bind (wpAny_isOneOf_keyiter hit.typeIs ?_)
 show wpAny _ _ (setField (.ref it) 1 (rawInt ((i:Int)+1)) >>= _) _ _ s
 refine wpAny_bind (wpAny_setField ho hd (by simp) ?_)
 have hit':(s.heap.update it (Obj.mapFields (·.setIfInBounds 1 (rawInt ((i:Int)+1))))).IsKeyIter it d (i+1) n ep:=
  ⟨_,Heap.get?_update_self _ ho (Obj.isFreed_of_fields (Obj.data_mapFields hd _)),(Obj.cls_mapFields ..).trans hc,by rw [Obj.data_mapFields hd];simp [rawInt]⟩
 refine wpAny_bind (wpAny_holding ?_)
 refine wpAny_bind (wpAny_isOneOf_keyiter (s:={s with heap:=s.heap.update it (Obj.mapFields (·.setIfInBounds 1 (rawInt ((i:Int)+1))))}) hit'.typeIs ?_)
 show wpAny _ _ (pure es[i].key) _ _ _
 rw [hen]
 exact wpAny_pure (wpAny_pure ⟨_,rfl,wpAny_pure (hQ _ hit' (Heap.SameBut.update ..))⟩)
theorem next_key_end {it d:Addr} {i n ep:Nat} {od:Obj} {es:Array DictEntry} {Q:Option Value->Shared->Prop} (hh:A.handled=none) (hit:s.heap.IsKeyIter it d i n ep) (hod:s.heap.get? d=some od) (hdd:od.data=.dict es ep)
  (hsz:es.size=n) (hge:n<=i) (hQ:∀ h',Heap.ExtBut it s.heap h'->Q none {s with heap:=h'}):wpAny (model prog w) A (pyNext (.ref it)) Q E s:=by
 obtain ⟨o,ho,hc,hd⟩:=id hit
 unfold pyNext
 refine wpAny_bind (wpAny_attempt (wpAny_callSpecial?_slot (name:=Str.ofString "__next__") hit.typeIs F.slot_dict_keyiterator_next
  (wpAny_call_entry F.slot_dict_keyiterator_next hit.typeIs F.entry_dict_keyiterator_next ?_ (F.args_dict_keyiterator_next_1 _))))
 refine wpAny_bind (wpAny_pure ?_)
 refine wpAny_bind ?_
 refine wpAny_bind ?_
 first | refine wpAny_bind (wpAny_typeNameOfWhole_keyiter hit.typeIs (wpAny_pure ?_)) | refine wpAny_bind (wpAny_typeNameOf_keyiter hit.typeIs (wpAny_pure ?_))
 refine wpAny_bind (wpAny_fieldsOf ho hd ?_)
 have hown:Builtin.Dict_items.ownsTuple "dict_keyiterator" = false:=by decide
 simp only [hown,Bool.false_eq_true,if_false]
 show wpAny _ _ (if (Value.ref d==Value.none)=true then _ else _) _ _ s
 rw [if_neg (show ¬ ((Value.ref d==Value.none)=true) from Bool.false_ne_true)]
 refine wpAny_bind (wpAny_pure ?_)
 refine wpAny_bind (wpAny_dictEntries hod hdd ?_)
 rw [if_neg (by rw [hsz];simp)]
 refine wpAny_bind (wpAny_pure ?_)
 refine wpAny_bind (wpAny_dictEpoch hod hdd ?_)
 rw [if_neg (by simp)]
 refine wpAny_pure ?_
 have hge':es.size<=i:=by rw [hsz];exact hge
 simp only [show ¬ ((i:Int)<0) from by omega,if_false,Int.toNat_natCast,Array.getElem?_eq_none hge']
 refine wpAny_bind ?_
 first | refine wpAny_bind (wpAny_typeNameOfWhole_keyiter hit.typeIs (wpAny_pure ?_)) | refine wpAny_bind (wpAny_typeNameOf_keyiter hit.typeIs (wpAny_pure ?_))
 show wpAny _ _ (setField (.ref it) 0 .none >>= _) _ _ s
 refine wpAny_bind (wpAny_setField ho hd (by simp) ?_)
 show wpAny _ _ (newExc (.type "StopIteration") [] >>= _) _ _ _
 refine wpAny_bind ?_
 simp only [newExc,newTuple]
 refine wpAny_bind (wpAny_newObj_type ?_ (by size_fits))
 refine wpAny_bind (m:=firstArgMember _ _) (wpAny_of_eq (a:=Value.none) (by first | rfl | (simp only [firstArgMember];rfl)) ?_)
 refine wpAny_newObj_type ?_ (by size_fits)
 simp only [raiseNew]
 refine wpAny_bind (wpAny_handled ?_)
 rw [show A.in1.handled=none from hh]
 refine wpAny_bind (wpAny_pure (wpAny_throw ?_))
 refine wpAny_bind (wpAny_isInstance (T:="StopIteration") (b:=true) ⟨_,Heap.get?_push_size _ rfl,rfl⟩ isSubtype_stop ?_)
 exact wpAny_pure (hQ _ (((Heap.SameBut.update ..).extBut.push _).push _))
end
theorem kv_get {κ:Type} {kvs:List (κ × V)} {vs:List (κ × Value)} (h:KV kvs vs):∀ {i:Nat} {k:κ} {v:V},kvs[i]?=some (k,v)->∃ u,vs[i]?=some (k,u)/\RelV v u:=by
 unfold KV at h
 induction h with
 | nil=>intro i k v e;simp at e
 | @cons a b l₁ l₂ r t ih=>
  intro i k v e
  cases i with
  | zero=>
   simp only [List.getElem?_cons_zero,Option.some.injEq] at e
   subst e
   refine ⟨b.2,?_,r.2⟩
   simp only [List.getElem?_cons_zero]
   exact congrArg some (Prod.ext r.1.symm rfl)
  | succ j=>
   simp only [List.getElem?_cons_succ] at e ⊢
   exact ih e
theorem paired_get {α β:Type} {G:α->β->Prop} {l₁:List α} {l₂:List β} (h:Paired G l₁ l₂):∀ {i:Nat} {a:α},l₁[i]?=some a->∃ b,l₂[i]?=some b/\G a b:=by
 induction h with
 | nil=>intro i a e;simp at e
 | @cons a b l₁ l₂ r t ih=>
  intro i a' e
  cases i with
  | zero=>
   simp only [List.getElem?_cons_zero,Option.some.injEq] at e
   subst e
   exact ⟨b,rfl,r⟩
  | succ j=>
   simp only [List.getElem?_cons_succ] at e ⊢
   exact ih e
theorem relV_key {k:Key} {u:Value} (h:keyIs k u=true):RelV (kV k) u:=by
 rcases keyIs_shape h with ⟨i,t,rfl,rfl⟩ | ⟨x,t,rfl,rfl⟩
 ·exact ⟨t,rfl⟩
 ·exact ⟨t,rfl⟩
section
variable {X:Cx} {pins:List (Addr × Obj)} {σ:St} {H:Hp} {s:Shared} {d:Addr} {o:Obj}
theorem Inv.frzK {kvs:List (Key × V)} (I:Inv X pins σ H s) (h:H d=some (.frz o (.dK kvs))) :
  (d==sysModules)=false/\s.heap.get? d=some o/\o.ExactDict/\∃ (es:Array DictEntry) (ep:Nat) (vs:List (Key × Value)),o.data=.dict es ep/\es.size=kvs.length/\KV kvs vs/\s.heap.DictAt (mixKind X.prog X.w) d vs ep:=by
 obtain ⟨hd,z,hs,vs,kv,o',es,ep,ho,hx,hdt,r⟩:=I.hok d _ h
 rw [hd] at ho
 cases ho
 refine ⟨hs,hd,hx,es,ep,vs,hdt,?_,kv,o,es,hd,hx,hdt,r⟩
 have l1:=r.2.1.length
 have l2:kvs.length=vs.length:=Paired.length kv
 rw [Array.length_toList] at l1
 omega
theorem Inv.frzT {kvs:List (List Key × V)} (I:Inv X pins σ H s) (h:H d=some (.frz o (.dT kvs))) :
  (d==sysModules)=false/\s.heap.get? d=some o/\o.ExactDict/\∃ (es:Array DictEntry) (ep:Nat),o.data=.dict es ep/\es.size=kvs.length /\
   ∀ (i:Nat) (k:List Key) (v:V),kvs[i]?=some (k,v)->∃ (en:DictEntry) (q:Addr),es[i]?=some en/\en.key=.ref q/\H q=some (.tup (k.map kV)):=by
 obtain ⟨hd,z,hs,xs,pr,o',es,ep,ho,hx,hdt,he,_⟩:=I.hok d _ h
 rw [hd] at ho
 cases ho
 refine ⟨hs,hd,hx,es,ep,hdt,?_,fun i k v e=>?_⟩
 ·have l1:es.size=xs.length:=size_of_entries he
  have l2:kvs.length=xs.length:=Paired.length pr
  omega
 ·obtain ⟨b,hb,e1,e2,_⟩:=paired_get pr e
  have q:=entry_at he i
  rw [hb] at q
  exact ⟨_,b.2.1,q,rfl,e2⟩
end
def Itk (d:Addr) (o:Obj) (kvs:List (Key × V)):It:=
 ⟨fun i H=>H d=some (.frz o (.dK kvs))/\i<kvs.length,fun i H x H'=>H'=H/\∃ k v,kvs[i]?=some (k,v)/\x=kV k,fun i H=>H d=some (.frz o (.dK kvs))/\kvs.length<=i⟩
def Itkt (d:Addr) (o:Obj) (kvs:List (List Key × V)):It:=
 ⟨fun i H=>H d=some (.frz o (.dT kvs))/\i<kvs.length,fun i H x H'=>H'=H/\∃ (k:List Key) (v:V) (q:Addr),kvs[i]?=some (k,v)/\x=.ref q/\H q=some (.tup (k.map kV)),fun i H=>H d=some (.frz o (.dT kvs))/\kvs.length<=i⟩
def Iti (d:Addr) (o:Obj) (kvs:List (Key × V)):It:=
 ⟨fun i H=>H d=some (.frz o (.dK kvs))/\i<kvs.length,fun i H x H'=>∃ T k v,kvs[i]?=some (k,v)/\x=.ref T/\H T=none/\H'=upd H T (.tup [kV k,v]),fun i H=>H d=some (.frz o (.dK kvs))/\kvs.length<=i⟩
theorem dict_ep {o:Obj} {es es':Array DictEntry} {ep ep':Nat} (h:o.data=.dict es ep) (h':o.data=.dict es' ep'):es'=es/\ep'=ep:=by
 rw [h] at h'
 cases h'
 exact ⟨rfl,rfl⟩
section
variable {P:Program} {w:World} {K:PySem.W.Frag} {tg:Expr} {d:Addr} {o:Obj} {es:Array DictEntry} {ep:Nat}
theorem turn_keys {kvs:List (Key × V)} (it:Addr) (hod:o.data=.dict es ep):Turn P w K tg (Itk d o kvs) [it] it (fun i h=>h.IsKeyIter it d i kvs.length ep) where
 mem:=by simp
 obj:=fun i h st b hb=>by
  have e:b=it:=by simpa using hb
  subst e
  obtain ⟨oi,e,c,dd⟩:=st
  exact ⟨oi,e,fun v z=>by rw [dd] at z;cases z⟩
 keep:=fun i h h' st k=>st.at fun oi e=>k it (by simp) oi e
 item:=by
  intro X hP hw hK hc i pins s σ H E I hf st hg
  subst hP hw hK
  obtain ⟨hd,hi⟩:=hg
  obtain ⟨f0,f1,f2,f3,f4,f5⟩:=hf it (by simp)
  obtain ⟨hs,hgd,hx,es',ep',vs,hdt,hsz,kv,hm⟩:=I.frzK hd
  obtain ⟨rfl,rfl⟩:=dict_ep hod hdt
  obtain ⟨⟨k,v⟩,hkv⟩:∃ p,kvs[i]?=some p:=⟨kvs[i],List.getElem?_eq_getElem hi⟩
  obtain ⟨u,hu,ru⟩:=kv_get kv hkv
  have hl:kvs.length=vs.length:=Paired.length kv
  rw [hl] at st
  refine wpAny_pyNext_dict_item st hm hu fun key h' hkey st' sb=>?_
  have I1:Inv X pins σ H {s with heap:=h'}:=I.turned (t':=s.toks) (fun b ob hb e=>(sb.2 b hb).trans e) f0 f1 f3 f4 f5
  obtain ⟨oi,e,c,dd⟩:=id st'
  refine ⟨key,rfl,go_of (s:={s with heap:=h'}) e c dd (by decide) ⟨kV k,H,I1,relV_key (show keyIs k key=true from hkey),⟨rfl,k,v,hkv,rfl⟩,?_,fun b hb=>(hf b hb).1⟩⟩
  show h'.IsKeyIter it d (i+1) kvs.length _
  rw [hl]
  exact st'
 done:=by
  intro X hP hw hK hc i pins s σ H E I hf st hg
  subst hP hw hK
  obtain ⟨hd,hi⟩:=hg
  obtain ⟨f0,f1,f2,f3,f4,f5⟩:=hf it (by simp)
  obtain ⟨hs,hgd,hx,es',ep',vs,hdt,hsz,kv,hm⟩:=I.frzK hd
  obtain ⟨rfl,rfl⟩:=dict_ep hod hdt
  exact next_key_end (I.ok.hd hc) st hgd hdt hsz hi fun h' eb=>⟨rfl,I.turned (t':=s.toks) (fun b ob hb e=>eb b ob hb e) f0 f1 f3 f4 f5⟩
 self:=fun A i s Q E st h=>wpAny_pyIter_keyiter st h
theorem turn_keysT {kvs:List (List Key × V)} (it:Addr) (hod:o.data=.dict es ep):Turn P w K tg (Itkt d o kvs) [it] it (fun i h=>h.IsKeyIter it d i kvs.length ep) where
 mem:=by simp
 obj:=fun i h st b hb=>by
  have e:b=it:=by simpa using hb
  subst e
  obtain ⟨oi,e,c,dd⟩:=st
  exact ⟨oi,e,fun v z=>by rw [dd] at z;cases z⟩
 keep:=fun i h h' st k=>st.at fun oi e=>k it (by simp) oi e
 item:=by
  intro X hP hw hK hc i pins s σ H E I hf st hg
  subst hP hw hK
  obtain ⟨hd,hi⟩:=hg
  obtain ⟨f0,f1,f2,f3,f4,f5⟩:=hf it (by simp)
  obtain ⟨hs,hgd,hx,es',ep',hdt,hsz,ent⟩:=I.frzT hd
  obtain ⟨rfl,rfl⟩:=dict_ep hod hdt
  obtain ⟨⟨k,v⟩,hkv⟩:∃ p,kvs[i]?=some p:=⟨kvs[i],List.getElem?_eq_getElem hi⟩
  obtain ⟨en,q,hen,hkey,hq⟩:=ent i k v hkv
  refine next_key_item st hgd hdt hsz hen fun h' st' sb=>?_
  have I1:Inv X pins σ H {s with heap:=h'}:=I.turned (t':=s.toks) (fun b ob hb e=>(sb.2 b hb).trans e) f0 f1 f3 f4 f5
  obtain ⟨oi,e,c,dd⟩:=id st'
  exact ⟨en.key,rfl,go_of (s:={s with heap:=h'}) e c dd (by decide) ⟨.ref q,H,I1,hkey,⟨rfl,k,v,q,hkv,rfl,hq⟩,st',fun b hb=>(hf b hb).1⟩⟩
 done:=by
  intro X hP hw hK hc i pins s σ H E I hf st hg
  subst hP hw hK
  obtain ⟨hd,hi⟩:=hg
  obtain ⟨f0,f1,f2,f3,f4,f5⟩:=hf it (by simp)
  obtain ⟨hs,hgd,hx,es',ep',hdt,hsz,ent⟩:=I.frzT hd
  obtain ⟨rfl,rfl⟩:=dict_ep hod hdt
  exact next_key_end (I.ok.hd hc) st hgd hdt hsz hi fun h' eb=>⟨rfl,I.turned (t':=s.toks) (fun b ob hb e=>eb b ob hb e) f0 f1 f3 f4 f5⟩
 self:=fun A i s Q E st h=>by
  refine wpAny_pyIter_slot st.typeIs F.slot_dict_keyiterator_iter (wpAny_call_entry F.slot_dict_keyiterator_iter st.typeIs F.entry_dict_keyiterator_iter ?_ (F.args_dict_keyiterator_iter_1 _))
  show wpAny _ _ (ret (.ref it)) _ _ s
  exact wpAny_pure ⟨_,rfl,"dict_keyiterator",_,st.typeIs,F.slot_dict_keyiterator_next.lookup,h⟩
theorem turn_items {kvs:List (Key × V)} {elts:List Expr} {kk:Nat} {tpos:Pos} (it:Addr) (hod:o.data=.dict es ep) :
  Turn P w K (.Tuple elts kk tpos) (Iti d o kvs) [it] it (fun i h=>∃ ok ov,IsItemIter h it d i kvs.length ep ok ov) where
 mem:=by simp
 obj:=fun i h st b hb=>by
  have e:b=it:=by simpa using hb
  subst e
  obtain ⟨ok,ov,e⟩:=st
  exact ⟨_,e,fun v z=>nomatch z⟩
 keep:=fun i h h' st k=>let ⟨ok,ov,e⟩:=st;⟨ok,ov,k it (by simp) _ e⟩
 item:=by
  intro X hP hw hK hc i pins s σ H E I hf st hg
  subst hP hw hK
  obtain ⟨hd,hi⟩:=hg
  obtain ⟨hs,hgd,hx,es',ep',vs,hdt,hsz,kv,hm⟩:=I.frzK hd
  obtain ⟨rfl,rfl⟩:=dict_ep hod hdt
  obtain ⟨⟨k,v⟩,hkv⟩:∃ p,kvs[i]?=some p:=⟨kvs[i],List.getElem?_eq_getElem hi⟩
  obtain ⟨u,hu,ru⟩:=kv_get kv hkv
  have hl:kvs.length=vs.length:=Paired.length kv
  obtain ⟨ok,ov,he⟩:=st
  rw [hl] at he
  have hlt:it<s.heap.objs.size:=Heap.lt_size he
  refine wpAny_pyNext_items_item he hm hu fun key h' hkey ho hT hz hk=>?_
  refine ⟨_,rfl,wpAny_letOwnedTupleGo_items (s:={s with heap:=h'}) ho fun h'' he' sb=>?_⟩
  have hT2:h''.get? s.heap.objs.size=some {cls:=.type "tuple",data:=.seq #[key,u]}:=(sb.2 _ (Nat.ne_of_gt hlt)).trans hT
  have new:ObjOk X.prog X.w (upd H s.heap.objs.size (.tup [kV k,v])) h'' s.heap.objs.size (.tup [kV k,v]):=
   ⟨by show 2<=sizeLine;decide,[key,u],.cons (relV_key (show keyIs k key=true from hkey)) (.cons ru .nil),⟨_,hT2,rfl,_,rfl⟩⟩
  have I1:Inv X pins σ (upd H s.heap.objs.size (.tup [kV k,v])) {s with heap:=h''}:=
   I.turnedNew (t':=s.toks) (ch:=[it]) (fun b ob hb e=>(sb.2 b (by simpa using hb)).trans (hk b ob (by simpa using hb) e)) hf (Nat.le_refl _) new
  refine ⟨.ref s.heap.objs.size,_,I1,rfl,⟨_,k,v,hkv,rfl,I.hok.fresh (Nat.le_refl _),rfl⟩,⟨key,u,?_⟩,fun b hb=>?_⟩
  ·rw [hl];exact he'
  ·have e:b=it:=by simpa using hb
   rw [e,upd_ne (Nat.ne_of_lt hlt)]
   exact (hf it (by simp)).1
 done:=by
  intro X hP hw hK hc i pins s σ H E I hf st hg
  subst hP hw hK
  obtain ⟨hd,hi⟩:=hg
  obtain ⟨f0,f1,f2,f3,f4,f5⟩:=hf it (by simp)
  obtain ⟨hs,hgd,hx,es',ep',vs,hdt,hsz,kv,hm⟩:=I.frzK hd
  obtain ⟨rfl,rfl⟩:=dict_ep hod hdt
  have hl:kvs.length=vs.length:=Paired.length kv
  obtain ⟨ok,ov,he⟩:=st
  rw [hl] at he
  exact wpAny_pyNext_items_end (I.ok.hd hc) he hm (List.getElem?_eq_none (by omega)) fun h' eb=>⟨rfl,I.turned (t':=s.toks) (fun b ob hb e=>eb b ob hb e) f0 f1 f3 f4 f5⟩
 self:=fun A i s Q E st h=>let ⟨_,_,e⟩:=st;PySem.W.kcp_self e h
end
def iKeys (td:TE):TI:=fun σ H R=>td σ H fun x H1=>∃ d o,x=.ref d/\((∃ kvs,H1 d=some (.frz o (.dK kvs))/\R (Itk d o kvs) H1)\/∃ kvs,H1 d=some (.frz o (.dT kvs))/\R (Itkt d o kvs) H1)
def iItems (td:TE):TI:=fun σ H R=>td σ H fun x H1=>∃ d o kvs,x=.ref d/\H1 d=some (.frz o (.dK kvs))/\R (Iti d o kvs) H1
section
variable {X:Cx} {tg e:Expr} {td:TE} {apos cpos:Pos}
theorem pi_keys (he:PE X e td):PI X tg e (iKeys td):=by
 intro pins s σ H R I h
 refine thn (he pins s σ H _ I h) fun u s1 ⟨x,H1,I1,rx,d,o,ex,q⟩=>?_
 subst ex
 obtain rfl:u=Value.ref d:=rx
 rcases q with ⟨kvs,hd,q⟩ | ⟨kvs,hd,q⟩
 ·obtain ⟨hs,hgd,hx,es,ep,vs,hdt,hsz,kv,hm⟩:=I1.frzK hd
  refine iter_keys hs hgd hx hdt (pi_one (tk:=s1.toks) I1 _ (turn_keys _ hdt) ⟨_,Heap.get?_push_size _ rfl,rfl,?_⟩ q)
  rw [hsz]<;>rfl
 ·obtain ⟨hs,hgd,hx,es,ep,hdt,hsz,ent⟩:=I1.frzT hd
  refine iter_keys hs hgd hx hdt (pi_one (tk:=s1.toks) I1 _ (turn_keysT _ hdt) ⟨_,Heap.get?_push_size _ rfl,rfl,?_⟩ q)
  rw [hsz]<;>rfl
theorem pi_items {elts:List Expr} {kk:Nat} {tpos:Pos} (he:PE X e td) (hbase:attributeBase e "items" X.env (eval e X.env)=eval e X.env:=by rfl) (hline:(apos.endLine==cpos.line)=true:=by rfl) :
  PI X (.Tuple elts kk tpos) (.Call (.Attribute e "items" apos) [] [] cpos) (iItems td):=by
 intro pins s σ H R I h
 refine wpAny_Call_method (T:="dict") (id:="dict.items") hbase rfl hline F.plainAttrs_dict F.slot_dict_items F.type_dict_items (thn (he pins s σ H _ I h) fun u s1 ⟨x,H1,I1,rx,d,o,kvs,ex,hd,q⟩=>?_)
 subst ex
 obtain rfl:u=Value.ref d:=rx
 obtain ⟨hs,hgd,hx,es,ep,vs,hdt,hsz,kv,hm⟩:=I1.frzK hd
 have hl:kvs.length=vs.length:=Paired.length kv
 refine ⟨hm.dictOf.typeIs,hm.dictOf.mapOf.noDict,?_⟩
 have I2:Inv X pins σ H1 {s1 with heap:=s1.heap.push {cls:=.type "dict_items",data:=.fields #[.ref d]}}:=I1.kept (t':=s1.toks) fun b ob q=>Heap.get?_push_of_some _ q
 have fin:wpAny (model X.prog X.w) X.A (pyIter (.ref s1.heap.objs.size)) (PIE X pins σ (.Tuple elts kk tpos) R) X.xe {s1 with heap:=s1.heap.push {cls:=.type "dict_items",data:=.fields #[.ref d]}}:=by
  refine wpAny_pyIter_items (d:=d) (knd:=mixKind X.prog X.w) ⟨_,Heap.get?_push_size _ rfl,rfl,rfl⟩ (hm.push _) (pi_one (tk:=s1.toks) I2 _ (turn_items _ hdt) ⟨.none,.none,?_⟩ q)
  rw [hl]
  exact Heap.get?_push_size _ rfl
 show wpAny _ _ (callWith cpos (.builtin "dict.items") [.ref d] [] []) _ X.xe s1
 exact method_meetsIn F.slot_dict_items F.entry_dict_items rfl (PySem.evalArgs_none ⟨rfl,hm.dictOf.typeIs,F.args_dict_items_1 _,_,meets_dict_items (mixKind X.prog X.w) d hs,⟨vs,hm.dictOf⟩,fin⟩)
end
end L2
section
namespace Bits
open PySem PyProof.Rows
end Bits
end
section
namespace TL
open PySem PySem.Builtin PySem.Builtin.Str PySem.StrLaws
end TL
end
namespace L2
open PySem PySem.Spec PyProof.Rows
end L2
namespace L2
open PySem PySem.Spec PyProof.Rows
end L2
namespace Att
open PySem PySem.W PySem.Calls PyProof.Rows
theorem ints_of_wellAll {P:Params} {h:Heap}:∀ (ns:List Int) (vs:List Value),WellAll P h vs (ns.map WData.int)->IntsAre vs ns:=by
 intro ns
 induction ns with
 | nil=>
  intro vs w
  rw [List.map_nil] at w
  cases w
  exact .nil
 | cons n ns ih=>
  intro vs w
  rw [List.map_cons] at w
  cases w with
  | cons a b=>
   cases a
   exact .cons _ _ (ih _ b)
end Att
namespace L2
open PySem PySem.Spec PyProof.Rows
theorem vals_ints:∀ {vs:List Value} {ns:List Int},IntsAre vs ns->Vals (ns.map V.int) vs
 | _,_,.nil=>.nil
 | _,_,.cons n t h=>.cons ⟨t,rfl⟩ (vals_ints h)
end L2
namespace L2
open PySem PySem.Spec PyProof.Rows
abbrev KOf {K:PySem.W.Frag} {h:Heap} (_:K.In h):PySem.W.Frag:=K
end L2
namespace L2
open PySem PySem.Spec PyProof.Rows
def inClass (s:Stmt) (j:Nat):Stmt:=match s with
 | .ClassDef _ _ _ body _ _ _ _ _ _ _=>body.getD j (.Pass ⟨0,0,0,0⟩)
 | _=>.Pass ⟨0,0,0,0⟩
def defArgs (s:Stmt):Arguments:=match s with
 | .FunctionDef _ a _ _ _ _ _ _ _ _=>a
 | _=>{posonlyargs:=[],args:=[],vararg:=none,kwonlyargs:=[],kw_defaults:=[],kwarg:=none,defaults:=[]}
def defBody (s:Stmt):List Stmt:=match s with
 | .FunctionDef _ _ b _ _ _ _ _ _ _=>b
 | _=>[]
def defScope (s:Stmt):Scope:=match s with
 | .FunctionDef _ _ _ _ _ _ sc _ _ _=>sc
 | _=>{kind:=.function,names:=[],isGenerator:=false,isCoroutine:=false}
structure Fun (K:PySem.W.Frag) (x qual:Str) (st:Stmt) (f:Addr) (fd:FuncData):Prop where
 ex:∃ (oc:Value) (od:Option Addr) (kV doc pm:Value) (an:Option Addr) (cdv ct:Value) (osl:Array (Option Value)),
  fd=PySem.W.fnOf x qual (defArgs st) (defBody st) (defScope st) .none kV doc pm an cdv ct/\K.lookup f=some ⟨oc,od,.func fd,osl⟩/\PySem.W.codeIn K cdv qual=true
 kp:PySem.W.keepIn K (.ref f)=true
section
variable {P:Program} {w:World} {K:PySem.W.Frag} {mg:Str->Option Value} {base:Heap}
theorem Fun.binds {x qual:Str} {st:Stmt} {f:Addr} {fd:FuncData} {ps:List Str} (F:Fun K x qual st f fd)
  (h:∀ (kV doc pm:Value) (an:Option Addr) (cdv ct:Value) (us:List Value),us.length=ps.length->bindArgs (PySem.W.fnOf x qual (defArgs st) (defBody st) (defScope st) .none kV doc pm an cdv ct) ⟨us,[]⟩=pure (ps.zip us)):Binds K fd ps []:=by
 obtain ⟨oc,od,kV,doc,pm,an,cdv,ct,osl,rfl,lk,hcd⟩:=F.ex
 exact .all (h kV doc pm an cdv ct)
theorem fun_mk {x qual:Str} {st:Stmt} {f:Addr} {oc:Value} {od an:Option Addr} {osl:Array (Option Value)} {kV doc pm cdv ct:Value} (l:K.lookup f=some ⟨oc,od,.func (PySem.W.fnOf x qual (defArgs st) (defBody st) (defScope st) .none kV doc pm an cdv ct),osl⟩)
  (c:PySem.W.codeIn K cdv qual=true) (k:PySem.W.keepIn K (.ref f)=true):Fun K x qual st f (PySem.W.fnOf x qual (defArgs st) (defBody st) (defScope st) .none kV doc pm an cdv ct):=⟨⟨oc,od,kV,doc,pm,an,cdv,ct,osl,rfl,l,c⟩,k⟩
end
theorem hu_of {A:Around} {k:Nat} (hr:Room k A):A.units+1<cLine:=Nat.lt_of_le_of_lt (Nat.add_le_add_left (by decide:1<=64) _) hr.units
section
variable {X:Cx}
theorem pv (i:Nat) {x:Str} {pos:Pos} (hN:X.N[i]?=some x:=by rfl) (hv:Vis X.env.scope x:=by first | exact Or.inl rfl | exact Or.inr (Or.inl rfl) | exact Or.inr (Or.inr rfl)) (hd:(x==("__debug__" : Str))=false:=by decide)
  (hcd:(x==("__classdict__" : Str))=false:=by decide):PE X (.Name x pos) (tVar i):=pe_var hN hv hd hcd
end
theorem iteF {A B:Prop} (h:B):if false=true then A else B:=by
 rw [if_neg Bool.false_ne_true]
 exact h
theorem iteT {A B:Prop} (h:A):if true=true then A else B:=by
 rw [if_pos rfl]
 exact h
theorem ite2 {c A B:Prop} [Decidable c] (h1:c->A) (h2:¬ c->B):if c then A else B:=by
 by_cases h:c
 ·rw [if_pos h]
  exact h1 h
 ·rw [if_neg h]
  exact h2 h
def Same (H H':Hp):Prop:=∀ b o,H b=some o->H' b=some o
theorem Same.trans {H H1 H2:Hp} (a:Same H H1) (b:Same H1 H2):Same H H2:=fun c o h=>b c o (a c o h)
theorem Same.free {H H':Hp} (e:Same H H') {l:Addr} (h:H' l=Option.none):H l=Option.none:=by
 cases q:H l with
 | none=>rfl
 | some o=>
  rw [e l o q] at h
  cases h
theorem Same.seq {K:PySem.W.Frag} {H H':Hp} {a:Addr} {xs:List V} (e:Same H H') (h:SqL K H a xs):SqL K H' a xs:=by
 rcases h with (h | ⟨o,h⟩) | h
 ·exact .inl (.inl (e _ _ h))
 ·exact .inl (.inr ⟨o,e _ _ h⟩)
 ·exact .inr h
section
variable {κ:Type} [DecidableEq κ]
theorem nd_snoc:∀ {l:List κ} {k:κ},l.Nodup->¬ k∈l->(l++[k]).Nodup
 | [],k,_,_=>by simp
 | a :: r,k,h,hk=>by
  obtain ⟨h1,h2⟩:=List.nodup_cons.mp h
  show (a :: (r++[k])).Nodup
  refine List.nodup_cons.mpr ⟨fun m=>?_,nd_snoc h2 fun m=>hk (List.mem_cons.mpr (Or.inr m))⟩
  rcases List.mem_append.mp m with q | q
  ·exact h1 q
  ·exact hk (List.mem_cons.mpr (Or.inl (List.mem_singleton.mp q).symm))
end
theorem nd_ix {α:Type} {l:List α} (hN:l.Nodup) {i j:Nat} {x:α} (a:l[i]?=some x) (b:l[j]?=some x):i=j:=by
 obtain ⟨h1,e1⟩:=List.getElem?_eq_some_iff.mp a
 obtain ⟨h2,e2⟩:=List.getElem?_eq_some_iff.mp b
 exact (List.getElem_inj hN).mp (e1.trans e2.symm)
theorem Same.made {H H1:Hp} {x dx C:Addr} (nx:H x=Option.none) (nd:H dx=Option.none) (k:∀ b o,(upd (upd H dx (.own x)) x (.ins C dx [])) b=some o->b≠x->H1 b=some o):Same H H1:=fun b o e=>
 k b o (by rw [upd_ne (ne_of_none e nx),upd_ne (ne_of_none e nd)];exact e) (ne_of_none e nx)
end L2
set_option Elab.async false
set_option linter.all false
set_option maxRecDepth 100000
namespace L2
open PySem PySem.Spec PyProof.Rows
def keep2 (o o':Obj):Prop:=∀ vs,o.data=.fields vs->∃ vs',o'.data=.fields vs'/\vs'[2]?=vs[2]?
def K2 (h h':Heap):Prop:=∀ b o,h.get? b=some o->∀ vs,o.data=.fields vs->∃ o' vs',h'.get? b=some o'/\o'.data=.fields vs'/\vs'[2]?=vs[2]?
theorem K2.refl (h:Heap):K2 h h:=fun _ o e vs d=>⟨o,vs,e,d,rfl⟩
theorem K2.trans {h1 h2 h3:Heap} (a:K2 h1 h2) (b:K2 h2 h3):K2 h1 h3:=fun c o e vs d=>by
 obtain ⟨o1,v1,e1,d1,q1⟩:=a c o e vs d
 obtain ⟨o2,v2,e2,d2,q2⟩:=b c o1 e1 v1 d1
 exact ⟨o2,v2,e2,d2,q2.trans q1⟩
theorem K2.push {h h':Heap} (a:K2 h h') (ob:Obj):K2 h (h'.push ob):=fun c o e vs d=>by
 obtain ⟨o1,v1,e1,d1,q1⟩:=a c o e vs d
 exact ⟨o1,v1,Heap.get?_push_of_some _ e1,d1,q1⟩
theorem K2.update {h h':Heap} (a:K2 h h') {c:Addr} {f:Obj->Obj} (hf:∀ o,keep2 o (f o)):K2 h (h'.update c f):=fun b o e vs d=>by
 obtain ⟨o1,v1,e1,d1,q1⟩:=a b o e vs d
 by_cases hb:c=b
 ·subst hb
  obtain ⟨v2,d2,q2⟩:=hf o1 v1 d1
  exact ⟨_,v2,Heap.get?_update_self f e1 (Obj.isFreed_of_fields d2),d2,q2.trans q1⟩
 ·exact ⟨o1,v1,by rw [Heap.get?_update_other _ _ hb];exact e1,d1,q1⟩
inductive Mild {α:Type}:Sem α->Prop
 | pure (a:α):Mild (.pure a)
 | raise (e:Value):Mild (.raise e)
 | uns (w:String):Mild (.unsupported w)
 | load {a:Addr} {p:Option Value} {k:Obj->Sem α} (h:∀ o,Mild (k o)):Mild (.load a p k)
 | upd {a:Addr} {p:Option Value} {f:Obj->Obj} {k:Unit->Sem α} (hf:∀ o,keep2 o (f o)) (h:∀ u,Mild (k u)):Mild (.update a p f k)
 | alloc {o:Obj} {k:Addr->Sem α} (h:∀ a,Mild (k a)):Mild (.alloc o k)
 | stack {k:List (Code × Pos)->Sem α} (h:∀ l,Mild (k l)):Mild (.stack k)
theorem Mild.bind {α β:Type} {m:Sem α} {f:α->Sem β} (hm:Mild m) (hf:∀ a,Mild (f a)):Mild (m >>= f):=by
 show Mild (Sem.bind m f)
 induction hm with
 | pure a=>exact hf a
 | raise e=>exact .raise e
 | uns w=>exact .uns w
 | load h ih=>exact .load ih
 | upd g h ih=>exact .upd g ih
 | alloc h ih=>exact .alloc ih
 | stack h ih=>exact .stack ih
theorem Mild.wp {α:Type} {t:Sem α} (hm:Mild t) {M:Model} {Γ : PySem.Ctx} {Q:α->Pos->Shared->Prop} {E:Value->Pos->Shared->Prop} {h0:Heap}:∀ {p:Pos} {s:Shared},K2 h0 s.heap->Sem.wp M Γ t Q E p s ->
  Sem.wp M Γ t (fun a p s'=>Q a p s'/\K2 h0 s'.heap) E p s:=by
 induction hm with
 | pure a=>intro p s k h;simp only [Sem.wp] at h ⊢;exact ⟨h,k⟩
 | raise e=>intro p s k h;simp only [Sem.wp] at h ⊢;exact h
 | uns w=>intro p s k h;simp only [Sem.wp] at h
 | load hh ih=>intro p s k h;simp only [Sem.wp] at h ⊢;obtain ⟨o,e,q⟩:=h;exact ⟨o,e,ih o k q⟩
 | upd g hh ih=>intro p s k h;simp only [Sem.wp] at h ⊢;exact ⟨h.1,ih () (k.update g) h.2⟩
 | alloc hh ih=>intro p s k h;simp only [Sem.wp] at h ⊢;exact ih _ (k.push _) h
 | stack hh ih=>intro p s k h;simp only [Sem.wp] at h ⊢;exact ih _ k h
theorem Mild.any {α:Type} {t:Sem α} (hm:Mild t) {M:Model} {A:Around} {Q:α->Shared->Prop} {E:Value->Shared->Prop} {s:Shared} (h:wpAny M A t Q E s):wpAny M A t (fun a s'=>Q a s'/\K2 s.heap s'.heap) E s:=
 fun Γ p hΓ=>hm.wp (K2.refl _) (h Γ p hΓ)
theorem mild_load {a:Addr}:Mild (load a):=.load fun _=>.pure _
theorem mild_stack:Mild stack:=.stack fun _=>.pure _
theorem mild_fieldsOf (v:Value):Mild (fieldsOf v):=by
 unfold fieldsOf
 split
 ·refine .bind mild_load fun o=>?_
  split
  ·exact .pure _
  ·exact .uns _
 ·exact .uns _
theorem mild_field (v:Value) (i:Nat):Mild (field v i):=by
 unfold field
 refine .bind (mild_fieldsOf v) fun vs=>?_
 split
 ·exact .pure _
 ·exact .uns _
theorem keep2_map {i:Nat} {v:Value} (hi:i≠2) (o:Obj):keep2 o (Obj.mapFields (·.setIfInBounds i v) o):=fun vs d=>
 ⟨_,Obj.data_mapFields d _,by rw [Array.getElem?_setIfInBounds_ne hi]⟩
theorem mild_setField {v x:Value} {i:Nat} (hi:i≠2):Mild (setField v i x):=by
 unfold setField
 split
 ·unfold updateField
  refine .bind mild_load fun o=>?_
  split
  ·split
   ·exact .upd (fun o=>keep2_map hi o) fun _=>.pure _
   ·exact .uns _
  ·exact .uns _
 ·exact .uns _
theorem mild_setFlight {e:Value} {f:Option Addr}:Mild (setFlight e f):=by
 unfold setFlight
 refine .bind (mild_field _ _) fun tb=>?_
 split
 ·exact mild_setField (by decide)
 ·exact .pure _
theorem mild_import (env:Env) (outer:List Env):Mild (behindIsImport env outer):=by
 unfold behindIsImport
 split
 ·exact .pure _
 ·split
  ·exact .pure _
  ·exact .bind (mild_field _ _) fun _=>.pure _
theorem mild_caller:Mild underTheClaimsCaller:=.bind mild_stack fun _=>.pure _
theorem mild_back (env:Env) (b:Bool) (l:List Env):Mild (keptBack env b l):=by
 unfold keptBack
 split
 ·split
  ·exact .pure _
  ·exact .bind mild_caller fun _=>.pure _
 ·exact .pure _
theorem mild_ready:∀ l:List Env,Mild (readyFrames l)
 | []=>.pure _
 | env :: outer=>by
  unfold readyFrames
  split
  ·refine .bind mild_load fun o=>?_
   split
   ·exact .pure _
   ·refine .bind (mild_import _ _) fun b=>.bind (mild_back _ _ _) fun v=>.bind (.upd (fun o vs d=>⟨vs,d,rfl⟩) fun _=>.pure _) fun _=>mild_ready outer
  ·exact .uns _
theorem mild_frameOf (env:Env):Mild (PySem.frameOf env):=by
 unfold PySem.frameOf
 refine .bind (.bind mild_stack fun _=>.pure _) fun l=>.bind ?_ fun o=>?_
 ·unfold frameObject
  split
  ·exact .pure _
  ·exact .bind (mild_ready _) fun _=>.pure _
 ·split
  ·exact .pure _
  ·exact .uns _
theorem mild_place (f:Addr) (b:Bool):Mild (entryPlaceOf f b):=by
 unfold entryPlaceOf
 refine .bind mild_stack fun l=>?_
 split<;>exact .pure _
theorem mild_newFields (t:String) (vs:List Value):Mild (newFields t vs):=by
 unfold newFields newObj newObjAsIs
 dsimp only
 by_cases h:vs.toArray.size > sizeLine+2
 ·rw [if_pos h]
  exact .bind (.uns _) fun _=>.bind (.alloc fun _=>.pure _) fun _=>.pure _
 ·rw [if_neg h]
  exact .bind (.alloc fun _=>.pure _) fun _=>.pure _
theorem mild_entry (a b c d e:Value) (l:List Value):Mild (EntryCells.newEntry a b c d e l):=mild_newFields _ _
theorem mild_note (e:Value) (env:Env):Mild (noteFrame e env):=by
 unfold noteFrame
 split
 ·refine .bind (mild_field _ _) fun head=>?_
  have tl:∀ f b,Mild (do setField e 1 (<-EntryCells.newEntry head (<-PySem.frameOf env) .none (rawInt f) .none (<-entryPlaceOf f b))):=fun f b=>
   .bind (mild_frameOf _) fun _=>.bind (mild_place _ _) fun _=>.bind (mild_entry _ _ _ _ _ _) fun _=>mild_setField (by decide)
  split
  ·refine .bind (mild_field _ _) fun x=>?_
   split
   ·exact .pure _
   ·exact .bind (mild_setField (by decide)) fun _=>tl _ _
  ·exact tl _ _
 ·exact .uns _
theorem mild_leaving (env:Env) (e:Value):Mild (leaving env e):=.bind (mild_note _ _) fun _=>mild_setFlight
end L2
set_option Elab.async false
set_option linter.all false
set_option maxRecDepth 100000
namespace L2
open PySem PySem.Spec PyProof.Rows
theorem ObjOk.there {P:Program} {w:World} {H:Hp} {h:Heap} {a:Addr} {o:HO} (x:ObjOk P w H h a o):∃ ob,h.get? a=some ob:=by
 cases o with
 | lst xs=>obtain ⟨_,_,_,_,e⟩:=x;exact ⟨_,e⟩
 | tup xs=>obtain ⟨_,_,_,ob,e,_⟩:=x;exact ⟨_,e⟩
 | dK kvs=>obtain ⟨_,_,_,_,ob,_,_,e,_⟩:=x;exact ⟨_,e⟩
 | dT kvs=>obtain ⟨_,_,_,_,ob,_,_,e,_⟩:=x;exact ⟨_,e⟩
 | set S n=>obtain ⟨ob,_,_,_,e,_⟩:=x;exact ⟨_,e⟩
 | ins C dx fs=>obtain ⟨_,_,_,e,_⟩:=x;exact ⟨_,e⟩
 | own y=>exact x
 | xd fs=>obtain ⟨_,⟨_,_,_,e,_⟩,_⟩:=x;exact ⟨_,e⟩
 | rng lo hi=>obtain ⟨_,_,_,e⟩:=x;exact ⟨_,e⟩
 | frz ob u=>obtain ⟨e,_⟩:=x;exact ⟨_,e⟩
 | tbl ps=>exact ⟨_,show h.get? a=some _ from x⟩
 | met f y=>exact ⟨_,show h.get? a=some _ from x⟩
 | ext φ=>obtain ⟨_,e,_⟩:=x;exact e
theorem HOk.none_of {P:Program} {w:World} {H:Hp} {h:Heap} {a:Addr} (x:HOk P w H h) (e:h.get? a=none):H a=none:=by
 cases q:H a with
 | none=>rfl
 | some o=>
  obtain ⟨ob,z⟩:=(x a o q).there
  rw [e] at z;cases z
section
variable {X:Cx} {pins:List (Addr × Obj)} {σ:St} {H H':Hp} {s:Shared} {h':Heap}
theorem Inv.fsFree (I:Inv X pins σ H s):∀ b∈X.fs,H b=none:=fun b hb=>by
 obtain ⟨_,o,ho,_⟩:=I.ok.funs.mem hb
 exact I.base.free b o ho (I.ok.frf b hb) fun z=>I.ok.exfs b z hb
theorem Inv.old (I:Inv X pins σ H s) (hex:X.ex=[]) {b:Addr} (e:s.heap.get? b=none):X.s_0.heap.get? b=none:=by
 cases q:X.s_0.heap.get? b with
 | none=>rfl
 | some o=>
  obtain ⟨o',z⟩:=I.base.there b o q (by rw [hex];simp)
  rw [e] at z;cases z
theorem Inv.stepN {ch:List Addr} (I:Inv X pins σ H s)
  (hch:∀ b∈ch,X.s_0.heap.get? b=none/\H b=none/\b≠X.env.locals/\b∉X.fs/\(∀ x c,X.env.cells.lookup x=some c->c≠b)/\∀ p∈X.pn++pins,p.1≠b)
  (keep:∀ b o,b≠X.env.locals->b∉X.fs->b∉ch->s.heap.get? b=some o->h'.get? b=some o)
  (slot:∀ b o,(b=X.env.locals\/b∈X.fs)->s.heap.get? b=some o->∃ sl,h'.get? b=some {o with slots:=sl}):Inv X pins σ H {s with heap:=h'}:=by
 have neL:∀ b o,X.s_0.heap.get? b=some o->b≠X.env.locals:=fun b o e=>Nat.ne_of_lt (Nat.lt_of_lt_of_le (Heap.lt_size e) I.ok.above)
 have neC:∀ b o,X.s_0.heap.get? b=some o->b∉ch:=fun b o e hb=>by
  have z:=(hch b hb).1
  rw [e] at z;cases z
 have any:∀ b o,b∉ch->s.heap.get? b=some o->∃ sl,h'.get? b=some {o with slots:=sl}:=fun b o hc e=>by
  by_cases h1:b=X.env.locals\/b∈X.fs
  ·exact slot b o h1 e
  ·exact ⟨o.slots,keep b o (fun z=>h1 (.inl z)) (fun z=>h1 (.inr z)) hc e⟩
 have cellK:∀ x c,X.env.cells.lookup x=some c->∀ v,s.heap.IsCell c v->h'.IsCell c v:=fun x c e v ⟨o,ho,hd⟩=>by
  have nch:c∉ch:=fun z=>(hch c z).2.2.2.2.1 x c e rfl
  obtain ⟨sl,q⟩:=any c o nch ho
  exact ⟨_,q,hd⟩
 refine ⟨I.ok,I.os,I.bare,⟨fun b o e n hb hx=>?_,fun b o e n hb hx=>?_,fun b o e n hx=>I.base.free b o e n hx,fun b o e hx=>?_,fun b xs e=>I.base.tups b xs e,fun b o xs e=>I.base.frzs b o xs e,fun b ps e=>I.base.tbls b ps e⟩,?_,fun x c e=>?_,I.free,fun x c e=>I.freeC x c e,fun p hp=>?_,fun b o e=>?_,I.len⟩
 ·exact keep b o (neL b o e) hb (neC b o e) (I.base.keep b o e n hb hx)
 ·obtain ⟨sl,e1⟩:=I.base.slot b o e n hb hx
  obtain ⟨sl',e2⟩:=slot b _ (.inr hb) e1
  exact ⟨sl',e2⟩
 ·obtain ⟨o',e1⟩:=I.base.there b o e hx
  obtain ⟨sl,e2⟩:=any b o' (neC b o e) e1
  exact ⟨_,e2⟩
 ·obtain ⟨m,⟨o,es,ep,ho,r⟩,hl⟩:=I.loc
  obtain ⟨sl,e⟩:=slot _ o (.inl rfl) ho
  refine ⟨m,⟨_,es,ep,e,r⟩,fun i x v e1 e2 e3=>?_⟩
  obtain ⟨u,ru,l⟩:=hl i x v e1 e2 e3
  refine ⟨u,ru,?_⟩
  rcases l with l | ⟨k,c,e,z⟩
  ·exact .inl l
  ·exact .inr ⟨k,c,e,cellK x c e _ z⟩
 ·obtain ⟨v,z⟩:=I.cell x c e
  exact ⟨v,cellK x c e v z⟩
 ·obtain ⟨e,n,ne,nf,d⟩:=I.pin p hp
  exact ⟨keep p.1 p.2 ne nf (fun z=>(hch p.1 z).2.2.2.2.2 p hp rfl) e,n,ne,nf,d⟩
 ·have nt:∀ c u,H c=some u->c≠X.env.locals/\c∉X.fs/\c∉ch:=fun c u q=>
   ⟨fun z=>(by rw [z,I.free] at q;cases q),fun z=>(by rw [I.fsFree c z] at q;cases q),fun z=>(by rw [(hch c z).2.1] at q;cases q)⟩
  refine (I.hok b o e).stay (fun c u hc q=>?_) (fun _ q=>q) fun _ _ q=>q
  have n3:c≠X.env.locals/\c∉X.fs/\c∉ch:=by
   rcases hc with z | z
   ·rw [z];exact nt b o e
   ·exact nt c _ z
  exact keep c u n3.1 n3.2.1 n3.2.2 q
end
def C2 (h:Heap) (a:Addr):Prop:=∃ (o:Obj) (vs:Array Value),h.get? a=some o/\o.data=.fields vs/\vs[2]?=some .none
theorem C2.on {h h':Heap} {a:Addr} (c:C2 h a) (k:K2 h h'):C2 h' a:=by
 obtain ⟨o,vs,e,d,q⟩:=c
 obtain ⟨o',vs',e',d',q'⟩:=k a o e vs d
 exact ⟨o',vs',e',d',q'.trans q⟩
def Rec (h:Heap) (a C:Addr) (a0:Value) (T:Addr) (fl:Value):Prop:=
 ∃ (oe:Obj) (vs:Array Value) (oT:Obj) (ts:Array Value),h.get? a=some oe/\(oe.cls=.ref C/\vs[0]?=some a0)/\oe.data=.fields vs/\vs[1]?=some (.ref T)/\T≠a/\h.get? T=some oT/\oT.data=.fields ts/\ts[3]?=some fl
structure Fly (h0 h:Heap) (H:Hp) (a C:Addr) (q:Option Addr):Prop where
 new:h0.get? a=none
 fr:H a=none
 ex:∃ a0 T,h0.get? T=none/\H T=none/\Rec h a C a0 T .none
 c2:q=none->C2 h a
def CXE (P:Program) (w:World):CXT:=fun outer H s E e s'=>∃ a C q H',e=.ref a/\s'.os=s.os/\AllBare s'.gens/\Un (frs outer) [] H H' s.heap s'.heap/\HOk P w H' s'.heap/\Fly s.heap s'.heap H' a C q/\E (.ref C) q H'
def Off (X:Cx) (pins:List (Addr × Obj)) (H:Hp) (b:Addr):Prop:=
 X.s_0.heap.get? b=none/\H b=none/\b≠X.env.locals/\b∉X.fs/\(∀ x c,X.env.cells.lookup x=some c->c≠b)/\∀ p∈X.pn++pins,p.1≠b
structure Aloft (X:Cx) (pins:List (Addr × Obj)) (H:Hp) (h:Heap) (a C:Addr) (a0:Value) (fl:Value):Prop where
 na:Off X pins H a
 ex:∃ T,Off X pins H T/\Rec h a C a0 T fl
def HeldAt (base:Heap) (l:List Env) (e:Addr) (cls a0 fl:Value) (h:Heap):Prop:=
 base.StaysIn h/\base.get? e=none/\h.FunFrames base l/\h.TracedAtW base e cls a0 fl
section
variable {X:Cx} {pins:List (Addr × Obj)} {σ:St} {H H':Hp} {s s':Shared} {M:Model} {E:XK} {E':Value->Shared->Prop} {a C:Addr} {a0 fl e:Value} {q:Option Addr}
theorem frs_in {l:List Env} {as:List Addr} (h:∀ b∈frs l,b∈as):∀ env∈l,∀ a,env.frame=some a->a∈as:=fun env he a hf=>h a (List.mem_filterMap.mpr ⟨env,he,hf⟩)
structure Own (X:Cx):Prop where
 st:X.stack=X.env :: X.outer
 fr:X.env.frame=some X.env.locals
 ex:X.ex=[]
theorem Own.mem (O:Own X) {b:Addr}:b∈frs X.stack↔b=X.env.locals\/b∈X.fs:=by
 rw [O.st]
 show b∈frs (X.env :: X.outer)↔_
 unfold frs
 rw [List.filterMap_cons,O.fr]
 exact List.mem_cons
theorem Inv.off (O:Own X) (I:Inv X pins σ H s) {b:Addr} (e:s.heap.get? b=none):Off X pins H b:=by
 refine ⟨I.old O.ex e,I.hok.none_of e,fun z=>?_,fun z=>?_,fun x c q z=>?_,fun p hp z=>?_⟩
 ·obtain ⟨m,⟨o,es,ep,ho,_⟩,_⟩:=I.loc
  rw [<-z,e] at ho;cases ho
 ·obtain ⟨_,o',ho',_⟩:=I.stack.mem (O.mem.mpr (.inr z))
  rw [e] at ho';cases ho'
 ·obtain ⟨v,o,ho,_⟩:=I.cell x c q
  rw [z,e] at ho;cases ho
 ·have:=(I.pin p hp).1
  rw [z,e] at this;cases this
theorem ground (O:Own X) (I:Inv X pins σ H s) (F:Aloft X pins H s.heap a C a0 fl):∃ B:Heap,HeldAt B (X.env :: X.outer) a (.ref C) a0 fl s.heap /\
  ∀ (h2:Heap) (fl2:Value),B.StaysIn h2->h2.TracedAtW B a (.ref C) a0 fl2->s.heap.UpToSlots h2->Inv X pins σ H {s with heap:=h2}/\Aloft X pins H h2 a C a0 fl2:=by
 obtain ⟨T,oT',oe,vs,oT,ts,g1,g2,g3,g4,g7,g8,g9,g10⟩:=F.ex
 have n1:a∉frs X.stack:=fun z=>(O.mem.mp z).elim F.na.2.2.1 F.na.2.2.2.1
 have n2:T∉frs X.stack:=fun z=>(O.mem.mp z).elim oT'.2.2.1 oT'.2.2.2.1
 have hfl:HeldAt (PySem.W.hideAll s.heap (a :: T :: frs X.stack)) (X.env :: X.outer) a (.ref C) a0 fl s.heap:=by
  refine ⟨fun b o q=>PySem.W.of_hideAll _ q,PySem.W.hideAll_none _ (by simp),?_,oe,vs,T,oT,ts,g1,g2,g3,g4,PySem.W.hideAll_none _ (by simp),g7,g8,g9,g10⟩
  have:=PySem.W.funFrames_hide (as:=a :: T :: frs X.stack) I.stack (frs_in fun b hb=>by simp [hb])
  rw [O.st] at this ⊢
  exact this
 refine ⟨_,hfl,fun h2 fl2 hst htr hsm=>?_⟩
 have hid:∀ b o,s.heap.get? b=some o->b∉frs X.stack->b≠a->b≠T->(PySem.W.hideAll s.heap (a :: T :: frs X.stack)).get? b=some o:=fun b o q m1 m2 m3=>PySem.W.hideAll_get _ q (by
  intro z
  rcases List.mem_cons.mp z with z | z
  ·exact m2 z
  ·rcases List.mem_cons.mp z with z | z
   ·exact m3 z
   ·exact m1 z)
 have sl:∀ b o,s.heap.get? b=some o->b∈frs X.stack->(∀ vs,o.data≠.fields vs)/\∃ sl,h2.get? b=some {o with slots:=sl}:=fun b o q n=>by
  obtain ⟨_,o',ho',hd⟩:=I.stack.mem n
  rw [q] at ho';cases ho'
  exact ⟨hd,hsm b o q hd⟩
 have J2:Inv X pins σ H {s with heap:=h2}:=I.stepN (ch:=[a,T]) (fun b hb=>by
   simp only [List.mem_cons,List.not_mem_nil,or_false] at hb
   rcases hb with z | z
   ·rw [z];exact F.na
   ·rw [z];exact oT')
  (fun b o m1 m2 m3 q=>hst b o (hid b o q (fun z=>(O.mem.mp z).elim m1 m2) (fun z=>m3 (by simp [z])) fun z=>m3 (by simp [z]))) fun b o hb q=>(sl b o q (O.mem.mpr hb)).2
 refine ⟨J2,F.na,?_⟩
 obtain ⟨oe',vs',T',oT2,ts',k1,k2,k3,k4,k5,k6,k7,k8,k9⟩:=htr
 refine ⟨T',?_,oe',vs',oT2,ts',k1,k2,k3,k4,k6,k7,k8,k9⟩
 by_cases z:T'=T
 ·rw [z];exact oT'
 ·cases q:s.heap.get? T' with
  | none=>exact I.off O q
  | some o=>
   by_cases hT:T'∈frs X.stack
   ·obtain ⟨hd,sl',y⟩:=sl T' o q hT
    rw [k7] at y
    cases y
    exact absurd k8 (hd ts')
   ·rw [hid T' o q hT k6 z] at k5
    cases k5
theorem Aloft.fly (F:Aloft X pins H s.heap a C a0 .none) (c:q=none->C2 s.heap a):Fly X.s_0.heap s.heap H a C q:=by
 obtain ⟨T,oT,r⟩:=F.ex
 exact ⟨F.na.1,F.na.2.1,⟨a0,T,oT.1,oT.2.1,r⟩,c⟩
theorem cxe_mk (O:Own X) (I:Inv X pins σ H s) (F:Aloft X pins H s.heap a C a0 .none) (c:q=none->C2 s.heap a) (hE:E (.ref C) q H):CXE X.prog X.w X.outer X.H_0 X.s_0 E (.ref a) s:=by
 have hb:=I.base
 rw [O.ex] at hb
 exact ⟨a,C,q,H,rfl,I.os,I.bare,hb,I.hok,F.fly c,hE⟩
theorem came (O:Own X) (I:Inv X pins σ H s) (hc:CXE X.prog X.w X.stack H s E e s'):∃ a C q H' a0,e=.ref a/\Inv X pins σ H' s'/\Aloft X pins H' s'.heap a C a0 .none/\(q=none->C2 s'.heap a)/\E (.ref C) q H':=by
 obtain ⟨a,C,q,H',rfl,os,bare,un,hok,F,hE⟩:=hc
 have J:Inv X pins σ H' s':=I.call' (ch:=[]) os un hok bare (fun b z=>absurd z (by simp))
 obtain ⟨a0,T,hT,hHT,r⟩:=F.ex
 have r':=r
 obtain ⟨oe,vs,oT,ts,g1,g2,g3,g4,g7,g8,g9,g10⟩:=r'
 have fa:∀ b vs',(∃ ob:Obj,s'.heap.get? b=some ob/\ob.data=.fields vs')->b∉frs X.stack:=fun b vs' ⟨ob,q,d⟩ hb=>by
  obtain ⟨_,o',ho',hd⟩:=J.stack.mem hb
  rw [q] at ho';cases ho'
  exact hd vs' d
 have own:∀ b,s.heap.get? b=none->H' b=none->b∉frs X.stack->Off X pins H' b:=fun b k0 kH kf=>by
  refine ⟨I.old O.ex k0,kH,fun z=>kf (O.mem.mpr (.inl z)),fun z=>kf (O.mem.mpr (.inr z)),fun x c q z=>?_,fun p hp z=>?_⟩
  ·obtain ⟨v,o,ho,_⟩:=I.cell x c q
   rw [z,k0] at ho;cases ho
  ·have:=(I.pin p hp).1
   rw [z,k0] at this;cases this
 exact ⟨a,C,q,H',a0,rfl,J,⟨own a F.new F.fr (fa a vs ⟨oe,g1,g3⟩),T,own T hT hHT (fa T ts ⟨oT,g8,g9⟩),r⟩,F.c2,hE⟩
theorem Inv.frms (O:Own X) (I:Inv X pins σ H s):X.A.frames=some (X.env :: X.outer):=by rw [I.ok.frames,O.st]
theorem pass_leaves (O:Own X) (I:Inv X pins σ H s) (hc:CXE X.prog X.w X.stack H s E e s') :
  wpAny M X.A (leaving X.env e) (fun _ s''=>CXE X.prog X.w X.outer X.H_0 X.s_0 E e s'') E' s':=by
 obtain ⟨a,C,q,H',a0,rfl,J,F,c,hE⟩:=came O I hc
 obtain ⟨B,hB,far⟩:=ground O J F
 refine thn ((mild_leaving X.env (.ref a)).any (wpAny_leaves_onW (Q:=fun _ s2=>∃ h2,s2 = {s' with heap:=h2}/\Heap.FlyingW B X.outer a (.ref C) a0 h2/\s'.heap.UpToSlots h2) (J.frms O) O.fr hB fun h2 hf hsm=>⟨h2,rfl,hf,hsm⟩)) fun _ s2 ⟨⟨h2,e2,hf,hsm⟩,k2⟩=>?_
 subst e2
 obtain ⟨J2,F2⟩:=far h2 .none hf.1 hf.2.2.2 hsm
 exact cxe_mk O J2 F2 (fun z=>(c z).on k2) hE
theorem held_leaves (O:Own X) (I:Inv X pins σ H s) (F:Aloft X pins H s.heap a C a0 (rawInt X.env.locals)) (c:q=none->C2 s.heap a) (hE:E (.ref C) q H) :
  wpAny M X.A (leaving X.env (.ref a)) (fun _ s''=>CXE X.prog X.w X.outer X.H_0 X.s_0 E (.ref a) s'') E' s:=by
 obtain ⟨B,hB,far⟩:=ground O I F
 unfold leaving
 refine wpAny_bind (wpAny_noteFrame_againW O.fr hB.2.2.2 ?_)
 refine thn (mild_setFlight.any (wpAny_landsW (Q:=fun _ s2=>∃ h2,s2 = {s with heap:=h2}/\Heap.FlyingW B (X.env :: X.outer) a (.ref C) a0 h2/\s.heap.UpToSlots h2) hB fun h2 hf hsm=>⟨h2,rfl,hf,hsm⟩)) fun _ s2 ⟨⟨h2,e2,hf,hsm⟩,k2⟩=>?_
 subst e2
 obtain ⟨J2,F2⟩:=far h2 .none hf.1 hf.2.2.2 hsm
 exact cxe_mk O J2 F2 (fun z=>(c z).on k2) hE
theorem made_leaves (O:Own X) (I:Inv X pins σ H s) {hm:Heap} (hx:Heap.MadeExcOf s.heap hm a (.ref C) []) (hE:E (.ref C) none H) :
  wpAny M X.A (leaving X.env (.ref a)) (fun _ s''=>CXE X.prog X.w X.outer X.H_0 X.s_0 E (.ref a) s'') E' {s with heap:=hm}:=by
 have hkb:(PySem.W.hideAll s.heap (frs X.stack)).StaysIn s.heap:=fun b o q=>PySem.W.of_hideAll _ q
 have hl:s.heap.FunFrames (PySem.W.hideAll s.heap (frs X.stack)) (X.env :: X.outer):=by
  have:=PySem.W.funFrames_hide (as:=frs X.stack) I.stack (frs_in fun b hb=>hb)
  rw [O.st] at this ⊢
  exact this
 refine thn ((mild_leaving X.env (.ref a)).any (wpAny_leaves_madeW (Q:=fun _ s2=>∃ h2 t,s2 = {s with heap:=h2}/\Heap.FlyingW (PySem.W.hideAll s.heap (frs X.stack)) X.outer a (.ref C) (.ref t) h2/\hm.UpToSlots h2) (I.frms O) O.fr hkb hl hx fun h2 t hfl _ _ hsm=>⟨h2,t,rfl,hfl,hsm⟩)) fun _ s2 ⟨⟨h2,t,e2,hfl,hsm⟩,k2⟩=>?_
 subst e2
 have kp:∀ b o,s.heap.get? b=some o->b∉frs X.stack->h2.get? b=some o:=fun b o q n=>hfl.1 b o (PySem.W.hideAll_get _ q n)
 have sl:∀ b o,s.heap.get? b=some o->b∈frs X.stack->(∀ vs,o.data≠.fields vs)/\∃ sl,h2.get? b=some {o with slots:=sl}:=fun b o q n=>by
  obtain ⟨_,o',ho',hd⟩:=I.stack.mem n
  rw [q] at ho';cases ho'
  exact ⟨hd,hsm b o (hx.keeps b o q) hd⟩
 have J:Inv X pins σ H {s with heap:=h2}:=I.stepN (ch:=[]) (fun b hb=>absurd hb (by simp)) (fun b o n1 n2 _ q=>kp b o q fun z=>(O.mem.mp z).elim n1 n2) fun b o hb q=>(sl b o q (O.mem.mpr hb)).2
 obtain ⟨_,_,_,oe,vs,T,oT,ts,g1,g2,g3,g4,g5,g6,g7,g8,g9⟩:=hfl
 have nT:s.heap.get? T=none:=by
  cases q:s.heap.get? T with
  | none=>rfl
  | some o=>
   by_cases hT:T∈frs X.stack
   ·obtain ⟨hd,sl',z⟩:=sl T o q hT
    rw [g7] at z
    cases z
    exact absurd g8 (hd ts)
   ·rw [PySem.W.hideAll_get _ q hT] at g5
    cases g5
 obtain ⟨t',ht',_,_⟩:=hx.there
 have c0:C2 hm a:=⟨_,_,ht',rfl,rfl⟩
 exact cxe_mk (q:=none) O J (a:=a) (C:=C) (a0:=.ref t) ⟨I.off O hx.new,T,I.off O nT,oe,vs,oT,ts,g1,g2,g3,g4,g6,g7,g8,g9⟩ (fun _=>c0.on k2) hE
end
structure Takes (X:Cx) (E:XK):Prop where
 made:∀ (pins:List (Addr × Obj)) (σ:St) (H:Hp) (s:Shared) (hm:Heap) (a C:Addr),Inv X pins σ H s->Heap.MadeExcOf s.heap hm a (.ref C) []->E (.ref C) none H->X.xe (.ref a) {s with heap:=hm}
 pass:Passes (CXE X.prog X.w) X E
 held:∀ (pins:List (Addr × Obj)) (σ:St) (H:Hp) (s:Shared) (a C:Addr) (a0:Value) (q:Option Addr),Inv X pins σ H s->Aloft X pins H s.heap a C a0 (rawInt X.env.locals)->(q=none->C2 s.heap a)->E (.ref C) q H->X.xe (.ref a) s
theorem takes_body {P:Program} {w:World} {K:PySem.W.Frag} {mg:Str->Option Value} {base:Heap} {N:List Str} {qual:Str} {scope:Scope} {f:Addr} {cd:Value} {A:Around} {outer:List Env} {s:Shared} {H:Hp} {E:XK} :
  Takes (cxOf (CXE P w) P w K mg base N qual scope f cd A outer s H E) E:=by
 have O:Own (cxOf (CXE P w) P w K mg base N qual scope f cd A outer s H E):=⟨rfl,rfl,rfl⟩
 exact ⟨fun pins σ H' s' hm a C I hx hE=>made_leaves O I hx hE,fun pins σ H' s' e s'' I hc=>pass_leaves O I hc,fun pins σ H' s' a C a0 q I F c hE=>held_leaves O I F c hE⟩
abbrev excMro:List Value:=[.type "Exception",.type "BaseException",.type "object"]
structure Xc (K:PySem.W.Frag) (mg:Str->Option Value) (x:Str) (C:Addr):Prop where
 mgx:mg x=some (.ref C)
 exc:PySem.W.excIn K C excMro "Exception.__new__" = true
theorem Xc.own {K:PySem.W.Frag} {mg:Str->Option Value} {x:Str} {C:Addr} {h:Heap} (c:Xc K mg x C) (KX:K.In h):OwnCls x C excMro "Exception.__new__" mg h:=by
 refine ⟨c.mgx,?_⟩
 have z:=c.exc
 unfold PySem.W.excIn at z
 split at z
 ·rename_i dd cl sl lk
  split at z
  ·rename_i C1 bm k0 k1 k2 k3 n1 k5 hm hs
   simp only [Bool.and_eq_true,beq_iff_eq,Bool.not_eq_true'] at z
   obtain ⟨⟨⟨⟨⟨rfl,rfl⟩,ndel⟩,tl⟩,okN⟩,noI⟩:=z
   obtain ⟨nm,bs,mro,ns,qn,hd,sn,sub,ab,col,del⟩:=cl
   dsimp only at hm ndel okN noI
   subst hm
   subst ndel
   obtain ⟨sll⟩:=sl
   have es:sll=[k0,k1,k2,k3,some (.builtin "Exception.__new__"),k5]:=hs
   subst es
   have n1:=PySem.W.isNs_of_in KX okN
   exact ⟨bm,ns,nm,qn,bs,hd,sn,sub,ab,col,dd,k0,k1,k2,k3,k5,_,KX _ _ lk,Heap.Ns.of_isNs n1,PySem.W.nsMap_none_of_in KX okN noI,PySem.W.tail_of_in KX tl⟩
  ·cases z
 ·cases z
theorem ps_raise {X:Cx} {E:XK} {x:Str} {C:Addr} {np cpos pos:Pos} (T:Takes X E) (c:Xc X.K X.mg x C) (hg:Gl X x) (hc:X.calm=true) (hd:(x==("__debug__" : Str))=false:=by decide) :
  PS X (.Raise (some (.Call (.Name x np) [] [] cpos)) none pos) (fun _ _ H=>E (.ref C) none H):=by
 intro pins s σ H D I h
 have hh:=I.ok.hd hc
 obtain ⟨tl,N,nm,q,bs,hdct,sn,sub,ab,col,dd,k0,k1,k2,k3,k5,mN,hC,hN,hni,TL⟩:=(c.own I.kIn).obj
 have ev:wpAny (model X.prog X.w) X.A (evalArgs (.ref C) true (backTo cpos (starEach [] X.env)) []) (fun b s2=>b.kw=[]/\b.pos.length<=sizeLine/\s2.heap.get? C=some (excClassObj nm q C N bs tl hdct sn sub ab col dd k0 k1 k2 k3 k5 "Exception.__new__")/\s2.heap.Ns N mN /\
   OwnTail s2.heap excMro tl/\∀ hm a,Heap.MadeExcOf s2.heap hm a (.ref C) b.pos->X.xe (.ref a) {s2 with heap:=hm}) X.xe s:=
  evalArgs_empty ⟨rfl,Nat.zero_le _,hC,hN,TL,fun hm a hx=>T.made pins σ H s hm a C I hx h⟩
 exact wpAny_Raise_call_subT PySem.F.excBase_Exception (mN:=mN) (TL.hasType PySem.F.excBase_Exception.hasBase) hh rfl hni (ld_glob I hg c.mgx ⟨rfl,ev⟩ hd)
def Cx.caught (X:Cx) (a:Addr):Cx:={X with A:=X.A.mark (some (.ref a)),calm:=false,xe:=fun _ _=>False}
section
variable {X:Cx} {pins:List (Addr × Obj)} {σ:St} {H:Hp} {s:Shared} {a:Addr}
theorem Cx.Ok.caught (ok:X.Ok):(X.caught a).Ok:=
 ⟨ok.mod,ok.kind,ok.glob,ok.blt,ok.above,ok.inj,ok.has,ok.cab,fun z=>Bool.noConfusion z,ok.frames,ok.stk,ok.exf,ok.bs,ok.bsz,ok.noex,ok.exfs,ok.funs,ok.frf⟩
theorem Cx.Ok.uncaught (ok:X.Ok):True:=trivial
theorem Inv.caught (I:Inv X pins σ H s):Inv (X.caught a) pins σ H s:=⟨I.ok.caught,I.os,I.bare,I.base,I.loc,I.cell,I.free,I.freeC,I.pin,I.hok,I.len⟩
theorem Inv.uncaught (ok:X.Ok) (I:Inv (X.caught a) pins σ H s):Inv X pins σ H s:=⟨ok,I.os,I.bare,I.base,I.loc,I.cell,I.free,I.freeC,I.pin,I.hok,I.len⟩
theorem SP.uncaught (ok:X.Ok) {D:Ends} {f:Flow} (h:SP (X.caught a) pins D f s):SP X pins D f s:=by
 cases f with
 | next=>obtain ⟨σ',H',I,q⟩:=h;exact ⟨σ',H',I.uncaught ok,q⟩
 | brk=>obtain ⟨σ',H',I,q⟩:=h;exact ⟨σ',H',I.uncaught ok,q⟩
 | cont=>obtain ⟨σ',H',I,q⟩:=h;exact ⟨σ',H',I.uncaught ok,q⟩
 | ret u=>obtain ⟨v,σ',H',I,r,q⟩:=h;exact ⟨v,σ',H',I.uncaught ok,r,q⟩
end
structure Cl1 (X:Cx) (h:ExceptHandler) (C:Addr) (t:TS):Prop where
 ex:∃ x np b0 suite pos,h=.ExceptHandler (some (.Name x np)) none (b0 :: suite) pos/\Gl X x/\X.mg x=some (.ref C)/\(x==("__debug__" : Str))=false/\∀ a,PSs (X.caught a) (b0 :: suite) t
section
variable {X:Cx} {pins:List (Addr × Obj)} {σ:St} {H:Hp} {s:Shared} {a C C1:Addr} {E:Value->Shared->Prop} {h1:ExceptHandler} {rest:List ExceptHandler} {t:TS} {D:Ends} {a0:Value} {q:Option Addr}
theorem looks_type {M:Model} {h:Heap} {oe:Obj} (e:h.get? a=some oe):PySem.W.Looks M h (typeOf (.ref a)) oe.cls:=(PySem.W.Looks.ld e).andThen .now
theorem handle_no (I:Inv X pins σ H s) (c:Cl1 X h1 C1 t) (hm:PySem.W.exmOne X.K (.ref C) (.ref C1)=some false) (he:∃ oe,s.heap.get? a=some oe/\oe.cls=.ref C)
  (hr:wpAny (model X.prog X.w) X.A (handleBy (.ref a) X.env rest) (SP X pins D) E s):wpAny (model X.prog X.w) X.A (handleBy (.ref a) X.env (h1 :: rest)) (SP X pins D) E s:=by
 obtain ⟨x,np,b0,suite,pos,rfl,hg,hmg,hd,hb⟩:=c.ex
 obtain ⟨oe,he,hcl⟩:=he
 refine wpAny_handleBy_cons (codeAny_handlers_test (ld_glob (X:=X.caught a) I.caught hg hmg ?_ hd)) (by intro q;cases q)
 have L:=looks_type (M:=model X.prog X.w) he
 rw [hcl] at L
 exact (PySem.W.exm_one I.kIn L hm) _ _ _ _ (fun _ _ q=>q) hr
theorem Aloft.cls {h:Heap} {fl:Value} (F:Aloft X pins H h a C a0 fl):∃ oe,h.get? a=some oe/\oe.cls=.ref C:=by
 obtain ⟨T,_,oe,vs,oT,ts,g1,g2,_⟩:=F.ex
 exact ⟨oe,g1,g2.1⟩
theorem handle_yes (O:Own X) (I:Inv X pins σ H s) (c:Cl1 X h1 C1 t) (hm:PySem.W.exmOne X.K (.ref C) (.ref C1)=some true) (F:Aloft X pins H s.heap a C a0 .none) (q:t D σ H) :
  wpAny (model X.prog X.w) X.A (handleBy (.ref a) X.env (h1 :: rest)) (SP X pins D) E s:=by
 obtain ⟨x,np,b0,suite,pos,rfl,hg,hmg,hd,hb⟩:=c.ex
 obtain ⟨oe,he,hcl⟩:=F.cls
 refine wpAny_handleBy_cons (codeAny_handlers_test (ld_glob (X:=X.caught a) I.caught hg hmg ?_ hd)) (by intro q;cases q)
 have L:=looks_type (M:=model X.prog X.w) he
 rw [hcl] at L
 refine (PySem.W.exm_one I.kIn L hm) _ _ _ _ (fun _ _ q=>q) (codeAny_handlers_suite ?_)
 obtain ⟨B,hB,far⟩:=ground O I F
 refine lands_againW hB fun h2 hf2 hsm=>?_
 have J:=(far h2 .none hf2.1 hf2.2.2.2 hsm).1
 exact wpAny_mono (hb a pins _ σ H D J.caught q) (fun f s2 z=>z.uncaught I.ok) fun _ _ z=>False.elim z
theorem handle_none (O:Own X) (I:Inv X pins σ H s) {E:XK} (T:Takes X E) (F:Aloft X pins H s.heap a C a0 .none) (c:q=none->C2 s.heap a) (hE:E (.ref C) q H) :
  wpAny (model X.prog X.w) X.A (handleBy (.ref a) X.env []) (SP X pins D) X.xe s:=by
 obtain ⟨T',oT,oe,vs,oT2,ts,g1,g2,g3,g4,g5⟩:=F.ex
 obtain ⟨B,hB,far⟩:=ground O I F
 refine wpAny_handleBy_nil ?_
 unfold PySem.passOn
 refine wpAny_bind (wpAny_field g1 g3 g4 ?_)
 rw [if_neg (show ¬ ((Value.ref T'==Value.none)=true) from by simp)]
 rw [O.fr]
 refine wpAny_bind (thn (mild_setFlight.any (PySem.W.setFlight_onW (L:=X.env.locals) (Q:=fun _ s2=>∃ h2,s2 = {s with heap:=h2}/\Heap.HeldW B (X.env :: X.outer) a (.ref C) a0 X.env.locals h2/\s.heap.UpToSlots h2) hB fun h2 hf hsm=>⟨h2,rfl,hf,hsm⟩)) fun _ s2 ⟨⟨h2,e2,hf,hsm⟩,k2⟩=>?_)
 subst e2
 obtain ⟨J2,F2⟩:=far h2 (rawInt X.env.locals) hf.1 hf.2.2.2 hsm
 exact wpAny_throw (T.held pins σ H _ a C a0 q J2 F2 (fun z=>(c z).on k2) hE)
end
def tryXe (X:Cx) (pins:List (Addr × Obj)) (D:Ends) (hs:List ExceptHandler):Value->Shared->Prop:=fun e s1=>
 wpAny (model X.prog X.w) X.A (noteFrame e X.env) (fun _ s2=>wpAny (model X.prog X.w) X.A (setFlight e none) (fun _ s3=>wpAny (model X.prog X.w) X.A (handleBy e X.env hs) (SP X pins D) X.xe s3) X.xe s2) X.xe s1
abbrev Cx.tried (X:Cx) (pins:List (Addr × Obj)) (xe:Value->Shared->Prop):Cx:={X with xe:=xe,pn:=X.pn++pins}
section
variable {X:Cx} {pins pins':List (Addr × Obj)} {σ:St} {H:Hp} {s:Shared} {xe:Value->Shared->Prop}
theorem Cx.Ok.tried (ok:X.Ok):(X.tried pins xe).Ok:=
 ⟨ok.mod,ok.kind,ok.glob,ok.blt,ok.above,ok.inj,ok.has,ok.cab,ok.hd,ok.frames,ok.stk,ok.exf,ok.bs,ok.bsz,ok.noex,ok.exfs,ok.funs,ok.frf⟩
theorem Inv.tried (I:Inv X pins σ H s):Inv (X.tried pins xe) [] σ H s:=⟨I.ok.tried,I.os,I.bare,I.base,I.loc,I.cell,I.free,I.freeC,fun p hp=>I.pin p (by
 rw [List.append_nil] at hp
 exact hp),I.hok,I.len⟩
theorem Inv.untried (ok:X.Ok) (I:Inv (X.tried pins xe) pins' σ H s):Inv X pins σ H s:=⟨ok,I.os,I.bare,I.base,I.loc,I.cell,I.free,I.freeC,fun p hp=>I.pin p (List.mem_append_left _ hp),I.hok,I.len⟩
theorem SP.untried (ok:X.Ok) {D:Ends} {f:Flow} (h:SP (X.tried pins xe) pins' D f s):SP X pins D f s:=by
 cases f with
 | next=>obtain ⟨σ',H',I,q⟩:=h;exact ⟨σ',H',I.untried ok,q⟩
 | brk=>obtain ⟨σ',H',I,q⟩:=h;exact ⟨σ',H',I.untried ok,q⟩
 | cont=>obtain ⟨σ',H',I,q⟩:=h;exact ⟨σ',H',I.untried ok,q⟩
 | ret u=>obtain ⟨v,σ',H',I,r,q⟩:=h;exact ⟨v,σ',H',I.untried ok,r,q⟩
end
theorem try_comes {X:Cx} {pins pins':List (Addr × Obj)} {σ:St} {H:Hp} {s s2:Shared} {e:Value} {xe:Value->Shared->Prop} {E:XK} {D:Ends} {hs:List ExceptHandler} (O:Own X) (ok:X.Ok) (I1:Inv (X.tried pins xe) pins' σ H s) (hc:CXE X.prog X.w X.stack H s E e s2)
  (k:∀ (a C:Addr) (q:Option Addr) (H':Hp) (a0:Value) (h5:Heap),Inv X pins σ H' {s2 with heap:=h5}->Aloft X pins H' h5 a C a0 .none->(q=none->C2 h5 a)->E (.ref C) q H' ->
   wpAny (model X.prog X.w) X.A (handleBy (.ref a) X.env hs) (SP X pins D) X.xe {s2 with heap:=h5}):tryXe X pins D hs e s2:=by
 have I2:Inv X pins σ H s:=I1.untried ok
 obtain ⟨a,C,q,H',a0,rfl,J,F,c,hE⟩:=came O I2 hc
 obtain ⟨B,hB,far⟩:=ground O J F
 unfold tryXe
 refine thn ((mild_note (.ref a) X.env).any (wpAny_looks_onW (Q:=fun _ s3=>∃ h2,s3 = {s2 with heap:=h2}/\Heap.HeldW B (X.env :: X.outer) a (.ref C) a0 X.env.locals h2/\s2.heap.UpToSlots h2) (J.frms O) O.fr hB fun h2 hf hsm=>⟨h2,rfl,hf,hsm⟩)) fun _ s3 ⟨⟨h4,e4,hh4,sm4⟩,k4⟩=>?_
 subst e4
 refine thn (mild_setFlight.any (wpAny_landsW (Q:=fun _ s3=>∃ h2,s3 = {s2 with heap:=h2}/\Heap.FlyingW B (X.env :: X.outer) a (.ref C) a0 h2/\h4.UpToSlots h2) hh4 fun h2 hf hsm=>⟨h2,rfl,hf,hsm⟩)) fun _ s3 ⟨⟨h5,e5,hf5,sm5⟩,k5⟩=>?_
 subst e5
 obtain ⟨J5,F5⟩:=far h5 .none hf5.1 hf5.2.2.2 (sm4.trans sm5)
 exact k a C q H' a0 h5 J5 F5 (fun z=>(c z).on (k4.trans k5)) hE
inductive Cls2 (X:Cx):List ExceptHandler->List (Addr × TS)->Prop
 | nil:Cls2 X [] []
 | cons {h:ExceptHandler} {C:Addr} {t:TS} {hs:List ExceptHandler} {ts:List (Addr × TS)} (c:Cl1 X h C t) (r:Cls2 X hs ts):Cls2 X (h :: hs) ((C,t) :: ts)
def Pick (K:PySem.W.Frag) (C:Addr) (D:Ends) (H:Hp):List (Addr × TS)->Prop
 | []=>False
 | (C1,t) :: r=>(PySem.W.exmOne K (.ref C) (.ref C1)=some true/\∀ σ,t D σ H)\/(PySem.W.exmOne K (.ref C) (.ref C1)=some false/\Pick K C D H r)
theorem handle_pick {X:Cx} {pins:List (Addr × Obj)} {σ:St} {H:Hp} {s:Shared} {a C:Addr} {E:Value->Shared->Prop} {D:Ends} {a0:Value} (O:Own X) (I:Inv X pins σ H s) (F:Aloft X pins H s.heap a C a0 .none) :
  ∀ {hs:List ExceptHandler} {ts:List (Addr × TS)},Cls2 X hs ts->Pick X.K C D H ts->wpAny (model X.prog X.w) X.A (handleBy (.ref a) X.env hs) (SP X pins D) E s
 | _,_,.nil,q=>q.elim
 | _,_,.cons c r,.inl ⟨m,q⟩=>handle_yes O I c m F (q σ)
 | _,_,.cons c r,.inr ⟨m,q⟩=>handle_no I c m F.cls (handle_pick O I F r q)
theorem ps_tryN {X:Cx} {body:List Stmt} {h1:ExceptHandler} {hs:List ExceptHandler} {ts:List (Addr × TS)} {pos:Pos} {tb:(XK->TS)} (O:Own X) (c:Cls2 X (h1 :: hs) ts)
  (hb:∀ (pins:List (Addr × Obj)) (xe:Value->Shared->Prop) (E:XK),Passes (CXE X.prog X.w) (X.tried pins xe) E->PSs (X.tried pins xe) body (tb E)) :
  PS X (.Try body (h1 :: hs) [] [] pos) (fun D σ H=>tb (fun c _ H'=>∃ C,c=.ref C/\Pick X.K C D H' ts) D σ H):=by
 intro pins s σ H D I h
 refine wpAny_Try_except ?_
 refine wpAny_mono (hb pins (tryXe X pins D (h1 :: hs)) _ (fun pins' σ' H1 s1 e s2 I1 hc=>?_) [] s σ H D I.tried h) (fun f s1 q=>?_) fun e s1 q=>q
 ·exact try_comes O I.ok I1 hc fun a C q H' a0 h5 J F _ hE=>by
   obtain ⟨C',e1,p⟩:=hE
   obtain rfl:C=C':=by injection e1
   exact handle_pick O J F c p
 ·have q':=SP.untried I.ok q
  cases f with
  | next=>exact wpAny_execs_nil q'
  | brk=>exact q'
  | cont=>exact q'
  | ret v=>exact q'
end L2
set_option Elab.async false
set_option linter.all false
set_option maxRecDepth 100000
set_option maxHeartbeats 2000000
namespace L2
open PySem PySem.Spec PyProof.Rows
theorem entry_unchain:entryFor table "proto.unchain" = some Builtin.«proto.unchain»:=entryFor_of_fast (by kernel_rfl)
section
variable {M:Model} {A:Around} {E:Value->Shared->Prop} {env:Env}
variable {nm q:Str} {C N:Addr} {bs bm:List Value} {hdct:Bool} {sn:List Str} {sub:List Value} {ab:Bool} {col:Option Bool} {dd:Option Addr} {k0 k1 k2 k3 k5:Option Value} {newId:String}
theorem raise_from {prog:Program} {w:World} {s:Shared} {x c:Sem Value} {Q:Flow->Shared->Prop} {a:Addr} (hbase:bm.contains (.type "BaseException")=true) (hh:A.handled=some (.ref a))
  (hcn:∀ (R:Value->Shared->Prop) (s:Shared),R .none s->wpAny (model prog w) A c R E s)
  (h:wpAny (model prog w) A x (fun v s₁=>∃ e t,v=.ref e/\e≠a/\e≠C/\C2 s₁.heap a/\s₁.heap.get? C=some (excClassObj nm q C N bs bm hdct sn sub ab col dd k0 k1 k2 k3 k5 newId) /\
   s₁.heap.get? e=some {cls:=.ref C,data:=.fields #[.ref t,.none,.none,.none,.bool false,.none]} /\
   ∀ h2:Heap,Heap.SameBut e s₁.heap h2->h2.get? e=some {cls:=.ref C,data:=.fields #[.ref t,.none,.ref a,.none,.bool true,.none]}->E (.ref e) {s₁ with heap:=h2}) E s) :
  wpAny (model prog w) A (raiseStmt env (some x) (some c)) Q E s:=by
 have hcB:(Value.ref C :: bm).contains (.type "BaseException")=true:=by rw [List.contains_cons,hbase,Bool.or_true]
 unfold raiseStmt
 refine wpAny_bind (wpAny_mono h (fun v s₁ h₁=>?_) fun _ _ x=>x)
 obtain ⟨e,t,rfl,ha,hc,⟨oa,va,ha1,ha2,ha3⟩,hC,he,hE⟩:=h₁
 refine wpAny_bind (wpAny_holding (hcn _ _ ?_))
 obtain ⟨hp,g,d,tk,os⟩:=s₁
 repeat (first | with_reducible refine wpAny_loadPart_at he ?_ | with_reducible refine wpAny_loadPart_at hC ?_ | (with_reducible refine wpAny_isSubtype_exc hC ?_;rw [hcB]) | wp_step)
 have hne:(Value.ref a != Value.ref e)=true:=by
  rw [bne_iff_ne]
  intro z
  injection z with z
  exact ha z.symm
 have e1:=Heap.get?_update_self (Obj.mapFields fun x=>x.setIfInBounds 3 Value.none) he rfl
 have e2:=Heap.get?_update_self (Obj.mapFields fun x=>x.setIfInBounds 4 (Value.bool true)) e1 rfl
 have a2:((hp.update e (Obj.mapFields fun x=>x.setIfInBounds 3 Value.none)).update e (Obj.mapFields fun x=>x.setIfInBounds 4 (Value.bool true))).get? a=some oa:=by
  rw [Heap.get?_update_other _ _ ha,Heap.get?_update_other _ _ ha]
  exact ha1
 generalize hH:(hp.update e (Obj.mapFields fun x=>x.setIfInBounds 3 Value.none)).update e (Obj.mapFields fun x=>x.setIfInBounds 4 (Value.bool true))=hq at e2 a2
 unfold raiseNew
 refine wpAny_bind (wpAny_handled ?_)
 rw [hh]
 simp only [hne,if_true]
 refine wpAny_bind (wpAny_holding (wpAny_runValue (codeAny_builtin entry_unchain ?_)))
 show wpAny _ _ (Builtin.«proto.unchain» ⟨[.ref e,.ref a,.ref a,.bool false],[]⟩) _ _ _
 unfold Builtin.«proto.unchain»
 refine wpAny_bind (wpAny_field a2 ha2 ha3 ?_)
 rw [if_pos (show (Value.none==Value.none)=true from rfl)]
 refine wpAny_pure ?_
 refine wpAny_bind ?_
 show wpAny _ _ (setField (.ref e) 2 (.ref a)) _ _ _
 refine wpAny_setField e2 rfl (by show 2<6;decide) (wpAny_throw (hE _ ?_ (Heap.get?_update_self _ e2 rfl)))
 subst hH
 have s1:=Heap.SameBut.update (h:=hp) (a:=e) (f:=Obj.mapFields fun x=>x.setIfInBounds 3 Value.none)
 have s2:=Heap.SameBut.update (h:=hp.update e (Obj.mapFields fun x=>x.setIfInBounds 3 Value.none)) (a:=e) (f:=Obj.mapFields fun x=>x.setIfInBounds 4 (Value.bool true))
 have s3:=Heap.SameBut.update (h:=(hp.update e (Obj.mapFields fun x=>x.setIfInBounds 3 Value.none)).update e (Obj.mapFields fun x=>x.setIfInBounds 4 (Value.bool true))) (a:=e) (f:=Obj.mapFields fun x=>x.setIfInBounds 2 (Value.ref a))
 exact ⟨s3.1.trans (s2.1.trans s1.1),fun b hb=>(s3.2 b hb).trans ((s2.2 b hb).trans (s1.2 b hb))⟩
end
theorem setFlight_at {M:Model} {A:Around} {E:Value->Shared->Prop} {s:Shared} {B:Heap} {e L:Addr} {cls a0 fl:Value} {Q:Unit->Shared->Prop} (hkb:B.StaysIn s.heap) (ht:s.heap.TracedAtW B e cls a0 fl)
  (h:∀ h',B.StaysIn h'->h'.TracedAtW B e cls a0 (rawInt L)->s.heap.UpToSlots h'->Q () {s with heap:=h'}):wpAny M A (setFlight (.ref e) (some L)) Q E s:=by
 obtain ⟨oe,vs,T,oT,ts,g1,g2,g3,g4,g5,g6,g7,g8,g9⟩:=ht
 have ne:∀ b o,s.heap.get? b=some o->(∀ vs,o.data≠.fields vs)->T≠b:=fun b o e n z=>by
  rw [<-z,g7] at e;cases e;exact n _ g8
 unfold setFlight
 refine wpAny_bind (wpAny_field g1 g3 g4 ?_)
 rw [if_pos (by rfl)]
 refine wpAny_setField g7 g8 (Array.getElem?_eq_some_iff.mp g9).1 (h _ (fun b o q=>?_) ?_ fun b o q n=>?_)
 ·rw [Heap.get?_update_other _ _ (fun z=>by rw [<-z,g5] at q;cases q)]
  exact hkb b o q
 ·have hd:=Obj.data_mapFields g8 (·.setIfInBounds 3 (rawInt L))
  refine ⟨oe,vs,T,_,_,?_,g2,g3,g4,g5,g6,Heap.get?_update_self _ g7 (Obj.isFreed_of_fields hd),hd,?_⟩
  ·rw [Heap.get?_update_other _ _ g6];exact g1
  ·have z:=(Array.getElem?_eq_some_iff.mp g9).1
   simp [z]
 ·refine ⟨o.slots,?_⟩
  rw [Heap.get?_update_other _ _ (ne b o q n)]
  exact q
section
variable {X:Cx} {pins:List (Addr × Obj)} {σ:St} {H:Hp} {s:Shared} {a C C1 C':Addr} {rest:List ExceptHandler} {D:Ends} {a0:Value} {x y:Str} {np np2 cpos p2 rpos hpos:Pos} {j:Nat}
theorem handle_raise (O:Own X) (I:Inv X pins σ H s) {E:XK} (T:Takes X E) (hg:Gl X x) (hmg:X.mg x=some (.ref C1)) (hd:(x==("__debug__" : Str))=false) (hm:PySem.W.exmOne X.K (.ref C) (.ref C1)=some true)
  (F:Aloft X pins H s.heap a C a0 .none) (c2:C2 s.heap a) (cY:Xc X.K X.mg y C') (hgy:Gl X y) (hdy:(y==("__debug__" : Str))=false) (hE:E (.ref C') (some 0) H) :
  wpAny (model X.prog X.w) X.A (handleBy (.ref a) X.env (.ExceptHandler (some (.Name x np)) none [.Raise (some (.Call (.Name y np2) [] [] cpos)) (some (.Constant .none j p2)) rpos] hpos :: rest)) (SP X pins D) X.xe s:=by
 obtain ⟨oe,he,hcl⟩:=F.cls
 refine wpAny_handleBy_cons (codeAny_handlers_test (ld_glob (X:=X.caught a) I.caught hg hmg ?_ hd)) (by intro q;cases q)
 have L:=looks_type (M:=model X.prog X.w) he
 rw [hcl] at L
 refine (PySem.W.exm_one I.kIn L hm) _ _ _ _ (fun _ _ q=>q) (codeAny_handlers_suite ?_)
 obtain ⟨B,hB,far⟩:=ground O I F
 refine thn (mild_setFlight.any (lands_againW (Q:=fun _ s2=>∃ h2,s2 = {s with heap:=h2}/\Heap.FlyingW B (X.env :: X.outer) a (.ref C) a0 h2/\s.heap.UpToSlots h2) hB fun h2 hf hsm=>⟨h2,rfl,hf,hsm⟩)) fun _ s2 ⟨⟨h2,e2,hf2,hsm⟩,k2⟩=>?_
 subst e2
 have J:=(far h2 .none hf2.1 hf2.2.2.2 hsm).1
 have c3:C2 h2 a:=c2.on k2
 obtain ⟨tl,N,nm,q,bs,hdct,sn,sub,ab,col,dd,k0,k1,k2,k3,k5,mN,hC,hN,hni,TL⟩:=(cY.own J.kIn).obj
 have hhd:(X.A.mark (some (.ref a))).handled=some (.ref a):=rfl
 have key:∀ (hm:Heap) (e t:Addr),Heap.MadeExcOf h2 hm e (.ref C') []->hm.get? e=some {cls:=.ref C',data:=.fields #[.ref t,.none,.none,.none,.bool false,.none]} ->
   ∀ h3:Heap,Heap.SameBut e hm h3->h3.get? e=some {cls:=.ref C',data:=.fields #[.ref t,.none,.ref a,.none,.bool true,.none]} ->
   notedBy (model X.prog X.w) (X.A.mark (some (.ref a))) X.env (fun x s2=>cameBackBy (model X.prog X.w) X.A X.env X.xe x s2) (.ref e) {s with heap:=h3}:=by
  intro hm e t hx het h3 hsb he3
  have kp3:∀ b o,h2.get? b=some o->h3.get? b=some o:=fun b o q=>by
   rw [hsb.2 b (fun z=>by rw [z,hx.new] at q;cases q)]
   exact hx.keeps b o q
  have hfr:(X.A.mark (some (.ref a))).frames=some (X.env :: X.outer):=J.frms O
  have hkb:(PySem.W.hideAll h2 (frs X.stack)).StaysIn h3:=fun b o q=>kp3 b o (PySem.W.of_hideAll _ q)
  have hl:h3.FunFrames (PySem.W.hideAll h2 (frs X.stack)) (X.env :: X.outer):=by
   have z:=PySem.W.funFrames_hide (as:=frs X.stack) J.stack (frs_in fun b hb=>hb)
   rw [O.st] at z ⊢
   exact z.of_keeps fun b o q _=>⟨o,kp3 b o q,rfl⟩
  have hen:(PySem.W.hideAll h2 (frs X.stack)).get? e=none:=by
   cases z:(PySem.W.hideAll h2 (frs X.stack)).get? e with
   | none=>rfl
   | some o=>
    have z2:=PySem.W.of_hideAll _ z
    rw [hx.new] at z2;cases z2
  unfold notedBy noteFrame
  rw [O.fr]
  refine wpAny_bind (wpAny_field (x:=Value.none) he3 rfl rfl ?_)
  rw [if_neg (show ¬ ((Value.none != Value.none)=true) by decide)]
  refine wpAny_entryW (a0:=.ref t) hfr hl O.fr he3 hkb hen rfl (by show 1<6;decide) rfl fun h4 hN=>?_
  obtain ⟨m1,m2,m3,m4⟩:=hN
  unfold cameBackBy
  have m3':=m3
  obtain ⟨oe',vs',T',oT',ts',g1,g2,g3,g4,g5,g6,g7,g8,g9⟩:=m3'
  refine wpAny_bind (wpAny_field g1 g3 g4 ?_)
  rw [if_neg (show ¬ ((Value.ref T'==Value.none)=true) from by simp)]
  rw [O.fr]
  refine setFlight_at m1 m3 fun h5 n1 n3 n4=>?_
  have sl:∀ b o,h2.get? b=some o->b∈frs X.stack->(∀ vs,o.data≠.fields vs)/\∃ sl,h5.get? b=some {o with slots:=sl}:=fun b o q n=>by
   obtain ⟨_,o',ho',hd⟩:=J.stack.mem n
   have ho':h2.get? b=some o':=ho'
   rw [q] at ho';cases ho'
   obtain ⟨sl1,y1⟩:=m4 b o (kp3 b o q) hd
   obtain ⟨sl2,y2⟩:=n4 b _ y1 hd
   exact ⟨hd,sl2,y2⟩
  have J5:Inv X pins σ H {s with heap:=h5}:=Inv.stepN (s:={s with heap:=h2}) (h':=h5) (ch:=[]) J (fun b hb=>absurd hb (by simp)) (fun b o m1 m2 _ q=>n1 b o (PySem.W.hideAll_get _ q fun z=>(O.mem.mp z).elim m1 m2)) fun b o hb q=>(sl b o q (O.mem.mpr hb)).2
  obtain ⟨oe5,vs5,T5,oT5,ts5,u1,u2,u3,u4,u5,u6,u7,u8,u9⟩:=n3
  have nT:h2.get? T5=none:=by
   cases q:h2.get? T5 with
   | none=>rfl
   | some o=>
    by_cases hT:T5∈frs X.stack
    ·obtain ⟨hd,sl',z⟩:=sl T5 o q hT
     rw [u7] at z
     cases z
     exact absurd u8 (hd ts5)
    ·rw [PySem.W.hideAll_get _ q hT] at u5
     cases u5
  exact T.held pins σ H _ e C' (.ref t) (some 0) J5 ⟨J.off O hx.new,T5,J.off O nT,oe5,vs5,oT5,ts5,u1,u2,u3,u4,u6,u7,u8,u9⟩ (fun z=>by cases z) hE
 refine wpAny_execs_cons (wpAny_mono ?_ (fun f s2 z=>False.elim z) fun _ _ z=>z)
 rw [arm_exec_Raise]
 refine wpAny_bind (wpAny_standAt ?_)
 show wpAny _ _ (raiseStmt X.env (some (do let v <-eval (.Call (.Name y np2) [] [] cpos) X.env;standAt rpos;pure v)) (some (do let v <-eval (.Constant .none j p2) X.env;standAt rpos;pure v))) _ _ _
 refine raise_from (a:=a) (C:=C') (nm:=nm) (q:=q) (N:=N) (bs:=bs) (hdct:=hdct) (sn:=sn) (sub:=sub) (ab:=ab) (col:=col) (dd:=dd) (k0:=k0) (k1:=k1) (k2:=k2) (k3:=k3) (k5:=k5) (newId:="Exception.__new__") (TL.hasType PySem.F.excBase_Exception.hasBase) hhd (fun R s hR=>?_) ?_
 ·exact wpAny_bind (Constant_none (wpAny_bind (wpAny_standAt (wpAny_pure hR))))
 ·refine wpAny_bind (wpAny_Call_ofName (ld_glob (X:=X.caught a) J.caught hgy cY.mgx ?_ hdy))
  unfold callWith
  refine wpAny_bind (wpAny_holding (evalArgs_empty (wpAny_bind (wpAny_standAt ?_))))
  refine wpAny_bind (wpAny_keeperOf_exc hC ?_)
  refine wpAny_bind (wpAny_call_exc_subT PySem.F.excBase_Exception TL hC hN hni fun hm e hx=>wpAny_bind (wpAny_holding (wpAny_point (wpAny_pure (wpAny_bind (wpAny_standAt (wpAny_pure ?_)))))))
  obtain ⟨t,ht,_,_⟩:=hx.there
  obtain ⟨oa,va,ha1,ha2,ha3⟩:=c3
  exact ⟨e,t,rfl,(fun z=>by rw [<-z,hx.new] at ha1;cases ha1),(fun z=>by rw [z] at hx;have:=hx.new;rw [hC] at this;cases this),⟨oa,va,hx.keeps _ _ ha1,ha2,ha3⟩,hx.keeps _ _ hC,ht,key hm e t hx ht⟩
end
theorem ps_tryR {X:Cx} {body:List Stmt} {C1 C':Addr} {x y:Str} {np np2 cpos p2 rpos hpos pos:Pos} {j:Nat} {tb:(XK->TS)} {E:XK} (O:Own X) (T:Takes X E) (hg:Gl X x) (hmg:X.mg x=some (.ref C1)) (hd:(x==("__debug__" : Str))=false)
  (cY:Xc X.K X.mg y C') (hgy:Gl X y) (hdy:(y==("__debug__" : Str))=false)
  (hb:∀ (pins:List (Addr × Obj)) (xe:Value->Shared->Prop) (E:XK),Passes (CXE X.prog X.w) (X.tried pins xe) E->PSs (X.tried pins xe) body (tb E)) :
  PS X (.Try body [.ExceptHandler (some (.Name x np)) none [.Raise (some (.Call (.Name y np2) [] [] cpos)) (some (.Constant .none j p2)) rpos] hpos] [] [] pos)
   (fun D σ H=>tb (fun c q H'=>∃ C,c=.ref C/\((PySem.W.exmOne X.K (.ref C) (.ref C1)=some true/\q=none/\E (.ref C') (some 0) H')\/(PySem.W.exmOne X.K (.ref C) (.ref C1)=some false/\E (.ref C) q H'))) D σ H):=by
 intro pins s σ H D I h
 refine wpAny_Try_except ?_
 refine wpAny_mono (hb pins (tryXe X pins D _) _ (fun pins' σ' H1 s1 e s2 I1 hc=>?_) [] s σ H D I.tried h) (fun f s1 q=>?_) fun e s1 q=>q
 ·exact try_comes O I.ok I1 hc fun a C q H' a0 h5 J F c hE=>by
   obtain ⟨C2',e1,p⟩:=hE
   obtain rfl:C=C2':=by injection e1
   rcases p with ⟨m,rfl,e2⟩ | ⟨m,e2⟩
   ·exact handle_raise O J T hg hmg hd m F (c rfl) cY hgy hdy e2
   ·obtain ⟨oe,he,hcl⟩:=F.cls
    refine wpAny_handleBy_cons (codeAny_handlers_test (ld_glob (X:=X.caught a) J.caught hg hmg ?_ hd)) (by intro q;cases q)
    have L:=looks_type (M:=model X.prog X.w) he
    rw [hcl] at L
    exact (PySem.W.exm_one J.kIn L m) _ _ _ _ (fun _ _ q=>q) (handle_none O J T F c e2)
 ·have q':=SP.untried I.ok q
  cases f with
  | next=>exact wpAny_execs_nil q'
  | brk=>exact q'
  | cont=>exact q'
  | ret v=>exact q'
end L2
set_option Elab.async false
set_option linter.all false
set_option maxRecDepth 100000
set_option maxHeartbeats 2000000
namespace L2
open PySem PySem.Spec PyProof.Rows
def cxLam (CX:CXT) (P:Program) (w:World) (K:PySem.W.Frag) (mg:Str->Option Value) (base:Heap) (N:List Str) (qual:Str) (scope:Scope) (f:Addr) (cd:Value) (cl:List (Str × Addr)) (A:Around) (outer:List Env) (s:Shared) (H:Hp) (E:XK):Cx where
 prog:=P
 w:=w
 K:=K
 mg:=mg
 base:=base
 A:=A.deeper (PySem.W.envX qual scope s.heap.objs.size f cd cl)
 N:=N
 s_0:=s
 H_0:=H
 env:=PySem.W.envX qual scope s.heap.objs.size f cd cl
 outer:=outer
 stack:=PySem.W.envX qual scope s.heap.objs.size f cd cl :: outer
 ex:=[]
 calm:=true
 fn:=fun _=>false
 pn:=[]
 xe:=fun e s'=>wpAny (model P w) (A.deeper (PySem.W.envX qual scope s.heap.objs.size f cd cl)) (leaving (PySem.W.envX qual scope s.heap.objs.size f cd cl) e) (fun _ s''=>CX outer H s E e s'') (fun e' s''=>CX outer H s E e' s'') s'
theorem takes_lam {P:Program} {w:World} {K:PySem.W.Frag} {mg:Str->Option Value} {base:Heap} {N:List Str} {qual:Str} {scope:Scope} {f:Addr} {cd:Value} {cl:List (Str × Addr)} {A:Around} {outer:List Env} {s:Shared} {H:Hp} {E:XK} :
  Takes (cxLam (CXE P w) P w K mg base N qual scope f cd cl A outer s H E) E:=by
 have O:Own (cxLam (CXE P w) P w K mg base N qual scope f cd cl A outer s H E):=⟨rfl,rfl,rfl⟩
 exact ⟨fun pins σ H' s' hm a C I hx hE=>made_leaves O I hx hE,fun pins σ H' s' e s'' I hc=>pass_leaves O I hc,fun pins σ H' s' a C a0 q I F c hE=>held_leaves O I F c hE⟩
structure LamAt (base:Heap) (f:Addr) (qual:Str) (params:Arguments) (body:Expr) (scope:Scope) (N:List Str) (vs:List V) (pm:Value) (c:Addr) (ctv:Value) (cl:List (Str × Addr)):Prop where
 ob:base.get? f=some (PySem.W.kla_obj "<lambda>" qual params body scope cl pm c ctv)
 code:base.CodeRec (.ref c) qual
 inj:∀ x y c,cl.lookup x=some c->cl.lookup y=some c->x=y
 has:∀ x,scope.names.lookup x=some .free->∃ c,cl.lookup x=some c
 cell:∀ x c,cl.lookup x=some c->∃ v,base.IsCell c v
 val:∀ (i:Nat) (x:Str) (v:V),N[i]?=some x->vs[i]?=some v->∃ c u,cl.lookup x=some c/\base.IsCell c (some u)/\RelV v u
 len:vs.length=N.length
structure LamScope (N:List Str) (scope:Scope):Prop where
 kind:scope.kind=.function
 co:scope.isCoroutine=false
 gen:scope.isGenerator=false
 nocell:∀ x∈scope.names,x.2≠.cell
 freeB:(N.all fun x=>decide (scope.names.lookup x=some .free))=true
theorem LamScope.free {N:List Str} {scope:Scope} (S:LamScope N scope):∀ x∈N,scope.names.lookup x=some .free:=fun x hx=>of_decide_eq_true (List.all_eq_true.mp S.freeB x hx)
theorem IsCell.keeps {h h':Heap} {c:Addr} {v:Option Value} (x:h.IsCell c v) (k:∀ b o,h.get? b=some o->h'.get? b=some o):h'.IsCell c v:=let ⟨o,e,d⟩:=x;⟨o,k _ _ e,d⟩
theorem lam_ok {CX:CXT} {P:Program} {w:World} {K:PySem.W.Frag} {mg:Str->Option Value} {base:Heap} {k:Nat} {f:Addr} {qual:Str} {params:Arguments} {body:Expr} {scope:Scope} {N:List Str} {vs:List V} {pm:Value} {c:Addr} {ctv:Value} {cl:List (Str × Addr)} {sp:Hp->VK->XK->Prop}
  (L:LamAt base f qual params body scope N vs pm c ctv cl) (S:LamScope N scope)
  (hbody:∀ (A:Around) (outer:List Env) (s:Shared) (H:Hp) (Q:VK) (E:XK),Room k (A.deeper (PySem.W.envX qual scope s.heap.objs.size f (.ref c) cl))->sp H Q E ->
   ∃ t,PE (cxLam CX P w K mg base N qual scope f (.ref c) cl A outer s H E) body t/\t (vs.map some) H Q) :
  FnOk P w K mg base CX (k+1) f (PySem.W.kla_fn "<lambda>" qual params body scope cl pm (.ref c) ctv) [] (fun us H Q E=>us=[]/\sp H Q E):=by
 refine ⟨fun us H Q E h=>by rw [h.1];rfl,fun A outer s H args us vs' Q E hr e0 hb r hsp=>?_⟩
 have bk:∀ b o,base.get? b=some o->s.heap.get? b=some o:=fun b o e=>(e0.bs b o e).1
 have lim:s.heap.NoLimit:=e0.mod.nolimit.keeps bk
 have hcd:s.heap.CodeRec (.ref c) qual:=L.code.keeps bk
 refine PySem.W.kla_callFunE hr.depth (bk _ _ L.ob) rfl S.co S.gen rfl hcd (hb _ _ _ _ ?_)
 refine wpAny_newFunctionEnv S.nocell (fun x hx=>absurd (show x∈([]:List (Str × Value)) from hx) (by simp)) (fun h1 hns hsb=>⟨lim.fresh _ hsb,?_⟩) S.kind
 show codeAny _ _ (.expr body (PySem.W.envX qual scope s.heap.objs.size f (.ref c) cl)) _ _
 have kp:∀ b o,s.heap.get? b=some o->h1.get? b=some o:=fun b o e=>hsb.extBut b o (Nat.ne_of_lt (Heap.lt_size e)) (Heap.get?_push_of_some _ e)
 obtain ⟨t,ht,hq⟩:=hbody A outer s H Q E (hr.deeper _) hsp.2
 have noA:∀ b:Addr,b∉(cxLam CX P w K mg base N qual scope f (.ref c) cl A outer s H E).ex:=fun b z=>absurd (show b∈([]:List Addr) from z) (by simp)
 have cbase:∀ x c',cl.lookup x=some c'->∃ o,base.get? c'=some o:=fun x c' e=>by
  obtain ⟨v,o,e1,_⟩:=L.cell x c' e
  exact ⟨o,e1⟩
 have I:Inv (cxLam CX P w K mg base N qual scope f (.ref c) cl A outer s H E) [] (vs.map some) H {s with heap:=h1,toks:=s.toks+([]:List (Str × Value)).length}:=by
  refine ⟨⟨e0.mod,S.kind,rfl,rfl,Nat.le_refl _,fun y z c' h1 h2=>L.inj y z c' h1 h2,fun y hy=>?_,fun y c' h=>Bool.noConfusion h,fun _=>hr.hd,Around.frames_deeper e0.frames,.inr ⟨rfl,rfl⟩,fun b z=>absurd z (noA b),e0.bs,e0.bsz,fun b _ _=>noA b,fun b z=>absurd z (noA b),e0.funs,e0.frf⟩,
   rfl,e0.bare,Un.kept kp,⟨_,hns,fun i y v h1 h2 h3=>?_⟩,fun y c' h=>?_,e0.hok.fresh (Nat.le_refl _),fun y c' h=>?_,fun p hp=>absurd (show p∈([]:List (Addr × Obj)) from hp) (by simp),e0.hok.kept kp,?_⟩
  ·have hy:scope.names.lookup y=some .cell\/scope.names.lookup y=some .free:=hy
   rcases hy with hy | hy
   ·exact absurd rfl (S.nocell _ (PySem.mem_of_lookup hy))
   ·exact L.has y hy
  ·have h2:vs[i]?=some v:=by
    rw [List.getElem?_map] at h2
    cases e:vs[i]? with
    | none=>rw [e] at h2;cases h2
    | some u=>rw [e] at h2;cases h2;rfl
   obtain ⟨c',u,e1,e2,e3⟩:=L.val i y v h1 h2
   exact ⟨u,e3,.inr ⟨.inr (S.free y (List.mem_of_getElem? h1)),c',e1,IsCell.keeps (IsCell.keeps e2 bk) kp⟩⟩
  ·obtain ⟨v,e1⟩:=L.cell y c' h
   exact ⟨v,IsCell.keeps (IsCell.keeps e1 bk) kp⟩
  ·obtain ⟨o,e1⟩:=cbase y c' h
   exact (e0.bs _ _ e1).2
  ·rw [List.length_map]
   exact L.len
 exact PySem.W.kla_codeExpr (wpAny_mono (ht [] _ _ H Q I hq) (fun u s' ⟨v,H',J,rv,q⟩=>⟨v,H',J.os,J.bare,J.base,J.hok,rv,q⟩) fun e s' hs=>hs)
theorem pe_callV {X:Cx} {CX:CXT} {k i:Nat} {f:Addr} {fd:FuncData} {o:Obj} {sp:Sp} {E:XK} {x:Str} {p pos:Pos} (F:FnOk X.prog X.w X.K X.mg X.base CX k f fd [] sp) (hr:Room k X.A) (hN:X.N[i]?=some x) (hv:Vis X.env.scope x)
  (ho:X.base.get? f=some o) (hd:o.data=.func fd) (hb:∀ s:Shared,BindsTo s fd ⟨[],[]⟩ []) (hx:Passes CX X E) (hdb:(x==("__debug__" : Str))=false:=by decide) (hcd:(x==("__classdict__" : Str))=false:=by decide) :
  PE X (.Call (.Name x p) [] [] pos) (fun σ H Q=>σ[i]?=some (some (.ref f))/\sp [] H Q E):=by
 intro pins s σ H Q I ⟨hi,h⟩
 refine wpAny_Call_Name_kw (thn (pe_var hN hv hdb hcd pins s σ H (fun v H'=>v=.ref f/\H'=H) I ⟨_,hi,rfl,rfl⟩) fun u s1 ⟨v,H1,I1,r,q⟩=>?_)
 obtain ⟨rfl,rfl⟩:=q
 obtain rfl:u=.ref f:=r
 refine PySem.W.callWith_of (P:=fun h=>h.get? f=some o) rfl (fun h e=>⟨.frame,.inl rfl,?_⟩) (evalArgs_nil3 ⟨I1.bk _ _ ho,?_⟩)
 ·refine (PySem.W.Looks.ld (part:=none) e).andThen ?_
  simp only [hd]
  exact .now
 ·refine wpAny_call (codeAny_mono (F.run X.A X.stack s1 H1 ⟨[],[]⟩ [] [] Q E hr I1.env0 (hb s1) .nil h) fun r s' hq=>?_)
  cases r with
  | error e=>exact hx pins σ H1 s1 e s' I1 hq
  | ok fl=>
   cases fl with
   | ret u=>exact I1.after hq
   | next=>exact False.elim hq
   | brk=>exact False.elim hq
   | cont=>exact False.elim hq
structure Maker (X:Cx) (c0 P0:Addr):Prop where
 code:X.env.code=.ref c0
 hd:PySem.W.CodeHd X.base c0 P0
 bm:∃ bm ob,X.mg "__builtins__" = some (.ref bm)/\bm≠builtinsNs/\X.base.get? bm=some ob/\ob.cls=.type "module"/\ob.dict=some builtinsNs/\ob.data=.plain
theorem pe_lamcall {X:Cx} {CX:CXT} {E:XK} {x p0:Str} {f0:Addr} {params:Arguments} {body:Expr} {scope:Scope} {p pos lpos:Pos} {c0 P0:Addr} (O:Own X) (M:Maker X c0 P0) (S:LamScope X.N scope) (hg:Gl X x) (hm:X.mg x=some (.ref f0)) (hk:PySem.W.keepIn X.K (.ref f0)=true) (hx:Passes CX X E)
  (hcelB:(scope.names.all fun y=>decide (y.2=.free->X.env.scope.names.lookup y.1=some .cell))=true) (hcellB:(X.N.all fun y=>decide (X.env.scope.names.lookup y=some .cell))=true) (hfn:X.fn=fun _=>true) (hdef:defaultsOf params X.env=([],[]))
  (hdb:(x==("__debug__" : Str))=false:=by decide)
  (he:starEach [Expr.Lambda params body scope lpos] X.env=[(false,eval (.Lambda params body scope lpos) X.env)]:=by rfl) :
  PE X (.Call (.Name x p) [.Lambda params body scope lpos] [] pos) (fun σ H Q=>∃ vs:List V,σ=vs.map some/\H P0=some (.tbl #[]) /\
   ∀ (base1:Heap) (f c:Addr) (ctv pm:Value) (cl:List (Str × Addr)) (more:Array Value),X.K.In base1->base1.Ns mainGlobals X.mg->LamAt base1 f (X.env.qual ++ "<lambda>") params body scope X.N vs pm c ctv cl ->
    ∃ k fd sp,FnOk X.prog X.w X.K X.mg base1 CX k f0 fd [p0] sp/\Room k X.A/\Binds X.K fd [p0] []/\sp [.ref f] (upd H P0 (.tbl more)) Q E):=by
 have hcel:∀ y∈scope.names,y.2=.free->X.env.scope.names.lookup y.1=some .cell:=fun y hy=>of_decide_eq_true (List.all_eq_true.mp hcelB y hy)
 have hcell:∀ y∈X.N,X.env.scope.names.lookup y=some .cell:=fun y hy=>of_decide_eq_true (List.all_eq_true.mp hcellB y hy)
 intro pins s σ H Q I ⟨vs,hσ,hP,hQ⟩
 refine wpAny_Call_Name_kw (ld_glob I hg hm ?_ hdb)
 refine PySem.W.callWith_K (h₀:=X.base) I.ok.mod.kin hk ?_ he (by rfl)
 rw [he]
 show wpAny _ _ (spliced ((false,eval (.Lambda params body scope lpos) X.env) :: [])) _ _ s
 refine Calls.spliced_cons (PySem.W.kla_eval hdef ?_)
 have hok:=I.hok P0 _ hP
 have hPo:s.heap.get? P0=some (PySem.W.tabObj #[]):=hok
 have hgs:s.heap.Ns mainGlobals X.mg:=I.mod.glob.keeps I.bk
 have nb:∀ b o,X.base.get? b=some o->b≠P0:=fun b o e z=>by
  have q:=(I.bs b o e).2
  rw [z,hP] at q;cases q
 have hgP:mainGlobals≠P0:=by
  obtain ⟨o,es,ep,e,_⟩:=I.mod.glob
  exact nb _ _ e
 obtain ⟨bm,ob,b1,b2,b3,b4,b5,b6⟩:=M.bm
 have hbG:bm≠mainGlobals:=fun q=>by
  obtain ⟨o,es,ep,e,hd,_⟩:=I.mod.glob
  rw [q,e] at b3;cases b3;rw [hd] at b6;cases b6
 have hclo:closureFor scope X.env=pure (cloFrom X.env.cells scope.names []):=closure_ok fun y hy hf=>I.ok.has y.1 (.inl (hcel y hy hf))
 refine PySem.W.kla_makeFunction (mg:=X.mg) (ps:=#[]) hclo I.ok.glob hgs M.code (M.hd.keeps I.bk) hPo trivial rfl hgP ⟨bm,ob,b1,b2,hbG,nb _ _ b3,I.bk _ _ b3,b4,b5,b6⟩ fun c ctv h1 tk hxt hge hlt hrec htb=>?_
 have kp1:∀ b o,b≠P0->s.heap.get? b=some o->(h1.push (PySem.W.kla_obj "<lambda>" (X.env.qual ++ "<lambda>") params body scope (cloFrom X.env.cells scope.names []) ((X.mg "__name__").getD .none) c ctv)).get? b=some o:=fun b o n e=>Heap.get?_push_of_some _ (hxt b o n e)
 have hf0:=Heap.get?_push_size h1 (o:=PySem.W.kla_obj "<lambda>" (X.env.qual ++ "<lambda>") params body scope (cloFrom X.env.cells scope.names []) ((X.mg "__name__").getD .none) c ctv) rfl
 have hrec2:(h1.push (PySem.W.kla_obj "<lambda>" (X.env.qual ++ "<lambda>") params body scope (cloFrom X.env.cells scope.names []) ((X.mg "__name__").getD .none) c ctv)).CodeRec (.ref c) (X.env.qual ++ "<lambda>"):=hrec.keeps fun b o e=>Heap.get?_push_of_some _ e
 have htb2:=Heap.get?_push_of_some (PySem.W.kla_obj "<lambda>" (X.env.qual ++ "<lambda>") params body scope (cloFrom X.env.cells scope.names []) ((X.mg "__name__").getD .none) c ctv) htb
 have hfs:s.heap.objs.size<=h1.objs.size:=Nat.le_trans hge (Nat.le_of_lt hlt)
 generalize hNe:h1.push (PySem.W.kla_obj "<lambda>" (X.env.qual ++ "<lambda>") params body scope (cloFrom X.env.cells scope.names []) ((X.mg "__name__").getD .none) c ctv)=hN at kp1 hf0 hrec2 htb2
 generalize hm0:(#[] ++ #[rawInt lpos.line,rawInt lpos.col,Value.ref c]:Array Value)=more at htb2
 have hu:Un X.fs [] H (upd H P0 (.tbl more)) s.heap hN:=by
  have np:∀ b,H b=none->b≠P0:=fun b n z=>by rw [z,hP] at n;cases n
  refine ⟨fun b o e n _ _=>kp1 b o (np b n) e,fun b o e n _ _=>⟨o.slots,kp1 b o (np b n) e⟩,fun b o e n _=>by rw [upd_ne (np b n)];exact n,fun b o e _=>?_,fun b xs q=>?_,fun b o u q=>?_,fun b ps q=>?_⟩
  ·by_cases z:b=P0
   ·rw [z];exact ⟨_,htb2⟩
   ·exact ⟨o,kp1 b o z e⟩
  ·rw [upd_ne (ne_of q hP (by intro z;cases z))];exact q
  ·rw [upd_ne (ne_of q hP (by intro z;cases z))];exact q
  ·by_cases z:b=P0
   ·rw [z] at q ⊢
    rw [hP] at q
    cases q
    exact ⟨more,by rw [upd_same];simp⟩
   ·exact ⟨#[],by rw [upd_ne z,q];simp⟩
 have hk1:HOk X.prog X.w (upd H P0 (.tbl more)) hN:=fun b o q=>by
  by_cases z:b=P0
  ·rw [z,upd_same] at q
   cases q
   rw [z]
   exact htb2
  ·rw [upd_ne z] at q
   refine (I.hok b o q).stay (fun d u hd e=>kp1 d u ?_ e) (fun d e=>?_) fun d xs e=>?_
   ·rcases hd with y | y
    ·rw [y];exact z
    ·exact ne_of y hP (by intro z;cases z)
   ·rw [upd_ne (ne_of e hP (by intro z;cases z))];exact e
   ·rw [upd_ne (ne_of e hP (by intro z;cases z))];exact e
 have I2:Inv X pins σ (upd H P0 (.tbl more)) {s with heap:=hN,toks:=tk}:=I.un hu hk1
 have fresh:∀ b,s.heap.objs.size<=b->(upd H P0 (.tbl more)) b=none/\b∉frs X.stack:=fun b hb=>by
  have hn:s.heap.get? b=none:=Heap.get?_none_of_le hb
  refine ⟨?_,fun z=>?_⟩
  ·rw [upd_ne (fun z=>by rw [z,hPo] at hn;cases hn)]
   exact I.hok.fresh hb
  ·obtain ⟨_,o',ho',_⟩:=I.stack.mem z
   rw [hn] at ho';cases ho'
 let B:Heap:=PySem.W.hideAll hN (frs X.stack++trk hN (upd H P0 (.tbl more)))
 have inB:∀ b o,hN.get? b=some o->(upd H P0 (.tbl more)) b=none->b∉frs X.stack->B.get? b=some o:=fun b o e n nf=>PySem.W.hideAll_get _ e fun z=>by
  rcases List.mem_append.mp z with z | z
  ·exact nf z
  ·have q:((upd H P0 (.tbl more)) b).isSome=true:=(List.mem_filter.mp z).2
   rw [n] at q;simp at q
 have ofB:∀ b o,B.get? b=some o->hN.get? b=some o/\(upd H P0 (.tbl more)) b=none:=fun b o e=>by
  have e':hN.get? b=some o:=PySem.W.of_hideAll _ e
  refine ⟨e',?_⟩
  cases q:(upd H P0 (.tbl more)) b with
  | none=>rfl
  | some y=>
   have hm:b∈frs X.stack++trk hN (upd H P0 (.tbl more)):=List.mem_append_right _ (List.mem_filter.mpr ⟨List.mem_range.mpr (Heap.lt_size e'),by simp [q]⟩)
   have z:B.get? b=none:=PySem.W.hideAll_none _ hm
   rw [z] at e;cases e
 have b0B:∀ b o,X.base.get? b=some o->B.get? b=some o:=fun b o e=>inB b o (I2.bs b o e).1 (I2.bs b o e).2 fun z=>by
  have:=(I2.stack.mem z).1
  rw [e] at this;cases this
 have hM:Mod X.K X.mg B:=⟨I.mod.kin.keeps b0B,I.mod.glob.keeps b0B,let ⟨mb,h1,h2⟩:=I.mod.blt;⟨mb,h1.keeps b0B,h2⟩,I.mod.nolimit.keeps b0B⟩
 have e0:Env0 X.prog X.w X.K X.mg B X.A X.stack {s with heap:=hN,toks:=tk} (upd H P0 (.tbl more)):=
  ⟨I.ok.frames,hM,ofB,Nat.le_of_eq (PySem.W.hideAll_size _ _),PySem.W.funFrames_hide I2.stack (frs_in fun b hb=>List.mem_append_left _ hb),I2.stkFree,I2.hok,I2.bare⟩
 have ncell:∀ y d,X.env.cells.lookup y=some d->d∉frs X.stack:=fun y d e z=>by
  rcases O.mem.mp z with z | z
  ·exact I.cne y d e z
  ·obtain ⟨_,o',ho',_⟩:=I.ok.funs.mem z
   exact absurd (Nat.lt_of_lt_of_le (Heap.lt_size ho') (I.ok.cab y d (by rw [hfn]) e)) (Nat.lt_irrefl _)
 have cellB:∀ y d v,X.env.cells.lookup y=some d->hN.IsCell d v->B.IsCell d v:=fun y d v e ⟨o,ho,hd⟩=>⟨o,inB d o ho (I2.freeC y d e) (ncell y d e),hd⟩
 have clo1:∀ y d,(cloFrom X.env.cells scope.names []).lookup y=some d->X.env.cells.lookup y=some d:=fun y d e=>by
  rcases cloFrom_mem (PySem.mem_of_lookup e) with z | ⟨z1,z2⟩
  ·simp at z
  ·obtain ⟨d',e'⟩:=I.ok.has y (.inl (hcel _ z1 rfl))
   rw [e'] at z2 ⊢
   rw [z2];rfl
 have clo2:∀ y,scope.names.lookup y=some .free->∃ d,(cloFrom X.env.cells scope.names []).lookup y=some d:=fun y e=>mem_lookup (cloFrom_has (acc:=[]) (PySem.mem_of_lookup e))
 have LA:LamAt B h1.objs.size (X.env.qual ++ "<lambda>") params body scope X.N vs ((X.mg "__name__").getD .none) c ctv (cloFrom X.env.cells scope.names []):=by
  refine ⟨inB _ _ hf0 (fresh _ hfs).1 (fresh _ hfs).2,?_,fun y z d e1 e2=>I.ok.inj y z d (clo1 y d e1) (clo1 z d e2),clo2,fun y d e=>?_,fun i y v e1 e2=>?_,?_⟩
  ·obtain ⟨c',o,ws,t,e1,e2,e3,e4⟩:=hrec2
   cases e1
   exact ⟨c,o,ws,t,rfl,inB c o e2 (fresh c hge).1 (fresh c hge).2,e3,e4⟩
  ·obtain ⟨v,hv⟩:=I2.cell y d (clo1 y d e)
   exact ⟨v,cellB y d v (clo1 y d e) hv⟩
  ·have hy:=List.mem_of_getElem? e1
   have hc:=hcell y hy
   obtain ⟨m,hn,hl⟩:=I2.loc
   obtain ⟨u,r,l⟩:=hl i y v e1 (by rw [hσ,List.getElem?_map,e2];rfl) (.inr (.inl hc))
   obtain ⟨d,ed⟩:=clo2 y (S.free y hy)
   have ed':=clo1 y d ed
   rcases l with ⟨kl,_⟩ | ⟨_,d',e3,e4⟩
   ·have kl:X.env.scope.names.lookup y=some .local:=kl
    rw [hc] at kl;cases kl
   ·rw [ed'] at e3
    cases e3
    exact ⟨d,u,ed,cellB y d _ ed' e4,r⟩
  ·have z:=I.len
   rw [hσ,List.length_map] at z
   exact z
 obtain ⟨k,fd,sp,F,hr,hbd,hsp⟩:=hQ B h1.objs.size c ctv ((X.mg "__name__").getD .none) (cloFrom X.env.cells scope.names []) more hM.kin hM.glob LA
 refine Calls.spliced_nil ⟨I2.kIn,?_⟩
 have hb2:=hbd {s with heap:=hN,toks:=tk} [.ref h1.objs.size] I2.kIn rfl
 refine wpAny_call (codeAny_mono (F.run X.A X.stack {s with heap:=hN,toks:=tk} (upd H P0 (.tbl more)) ⟨[.ref h1.objs.size],[]⟩ [.ref h1.objs.size] [.ref h1.objs.size] Q E hr e0 hb2 (.cons rfl .nil) hsp) fun r s' hq=>?_)
 cases r with
 | error e=>exact hx pins σ (upd H P0 (.tbl more)) {s with heap:=hN,toks:=tk} e s' I2 hq
 | ok fl=>
  cases fl with
  | ret u=>exact I2.after hq
  | next=>exact False.elim hq
  | brk=>exact False.elim hq
  | cont=>exact False.elim hq
end L2
set_option Elab.async false
set_option linter.all false
set_option maxRecDepth 100000
namespace PySem
open Sem (wp)
open AutoSeq1 (wpAny_loadPart')
theorem kwe_typeCall (a v:Value):checkTypeCall "enumerate" ⟨[a],[("start",v)]⟩=pure ():=by kernel_rfl
theorem kwe_newCall (a v:Value):checkBuiltinCall "enumerate.__new__" ⟨[.type "enumerate",a],[("start",v)]⟩=pure ():=by kernel_rfl
theorem kwe_init (obj a v:Value):argsOk "object.__init__" ⟨[obj,a],[("start",v)]⟩:=by
 first | rfl | decide +kernel | (unfold argsOk;kernel_rfl)
theorem kwe_init_meets {self a v:Value} :
  Meets (Builtin.«object.__init__» ⟨[self,a],[("start",v)]⟩) (fun _ R s=>s.TypeIs self "enumerate"/\R (.ok (.ret .none)) s):=by
 refine Meets.of_wp fun prog w A R s hs=>?_
 obtain ⟨hT,hq⟩:=hs
 have hl:=F.called_enumerate.init.lookup
 have hm:=F.called_enumerate.made
 repeat (any_goals (first | assumption | wp_step))
 exact ⟨_,rfl,hq⟩
set_option maxHeartbeats 4000000 in
theorem kwe_new (l:Addr) (items:Array Value) (n:Nat) (dct:Option Addr) (sl:Array (Option Value)) (t:Tok) :
  Meets (Builtin.«enumerate.__new__» ⟨[.type "enumerate",.ref l],[("start",.int 1 t)]⟩) (fun _ R s=>s.heap.get? l=some {cls:=.type "list",dict:=dct,data:=.seq items n,slots:=sl} /\
   R (.ok (.ret (.ref (s.heap.push {cls:=.type "list_iterator",data:=.fields #[.ref l,.int 0 0]}).objs.size)))
    {s with heap:=(s.heap.push {cls:=.type "list_iterator",data:=.fields #[.ref l,.int 0 0]}).push {cls:=.type "enumerate",data:=.fields #[.none,.bool false,.ref s.heap.objs.size,rawInt 1,.none,.none]}}):=
 .of_wp fun prog w A R s h=>by
  obtain ⟨hp,g,d,tk,os⟩:=s;obtain ⟨hl,h⟩:=h
  have hsub:=sub_enumerate
  have hL:Heap.IsList (Shared.heap ⟨hp,g,d,tk,os⟩) l items:=⟨_,hl,rfl,n,rfl⟩
  wp_walk using wpAny_loadPart' hl
  refine wpAny_stack_any fun st=>wpAny_pure ?_
  split
  ·rename_i c _ _ _ _ _
   cases (c==Value.type "enumerate")
   ·wp_walk using wpAny_loadPart' hl,wpAny_pyIter_list hL
    exact ⟨_,rfl,h⟩
   ·wp_walk using wpAny_loadPart' hl,wpAny_pyIter_list hL
    exact ⟨_,rfl,h⟩
  ·wp_walk using wpAny_loadPart' hl,wpAny_pyIter_list hL
   exact ⟨_,rfl,h⟩
end PySem
set_option Elab.async false
set_option linter.all false
set_option maxRecDepth 100000
namespace PySem
open Sem (wp)
section
variable {prog:Program} {w:World} {A:Around} {E:Value->Shared->Prop} {s:Shared}
theorem kwe_call {l:Addr} {items:Array Value} {t:Tok} {Q:Value->Shared->Prop} (hL:s.heap.IsList l items)
  (h:∀ h2,IsEnum h2 (s.heap.objs.size+1) s.heap.objs.size 1 .none->h2.IsListIter s.heap.objs.size l 0->(∀ b o,s.heap.get? b=some o->h2.get? b=some o)->Q (.ref (s.heap.objs.size+1)) {s with heap:=h2}) :
  wpAny (model prog w) A (call (.type "enumerate") [.ref l] [("start",.int 1 t)]) Q E s:=by
 obtain ⟨⟨c,dct,dt,sl⟩,hl,hc,n,hd⟩:=hL
 obtain rfl:c=.type "list":=hc
 obtain rfl:dt=.seq items n:=hd
 have ft:=F.called_enumerate
 obtain ⟨c,tl,hmro⟩:=ft.mro
 have hmade:=ft.made
 have hsub:=ft.sub
 have hct:=kwe_typeCall (.ref l) (.int 1 t)
 refine wpAny_call (codeAny_of_tree ?_)
 show wpAny _ _ (callAny (.type "enumerate") _) _ _ _
 refine wpAny_pure ⟨Code.quiet_builtin _ (by decide +kernel),codeAny_builtin F.entry_type_call ?_⟩
 rw [Around.under_plain (weight_type_call_type "enumerate" [.ref l] [("start",.int 1 t)]) (units_type_call_type "enumerate" [.ref l] [("start",.int 1 t)])]
 have h1:=ft.notType
 have h2:=ft.canCreate
 repeat (any_goals (first | assumption | wp_step))
 have hz:(s.heap.push {cls:=.type "list_iterator",data:=.fields #[.ref l,.int 0 0]}).objs.size=s.heap.objs.size+1:=Heap.size_push ..
 have he:IsEnum ((s.heap.push {cls:=.type "list_iterator",data:=.fields #[.ref l,.int 0 0]}).push
   {cls:=.type "enumerate",data:=.fields #[.none,.bool false,.ref s.heap.objs.size,rawInt 1,.none,.none]}) (s.heap.objs.size+1) s.heap.objs.size 1 .none:=by
  have z:=Heap.get?_push_size (s.heap.push {cls:=.type "list_iterator",data:=.fields #[.ref l,.int 0 0]})
   (o:={cls:=.type "enumerate",data:=.fields #[.none,.bool false,.ref s.heap.objs.size,rawInt 1,.none,.none]}) rfl
  rw [hz] at z
  exact z
 refine codeAny_mono (codeAny_call_builtin ft.plain F.entry_enumerate_new (wpAny_of_eq (kwe_newCall _ _) (kwe_new l items n dct sl t prog w A.in1 (wants (fun obj s1=>s1.TypeIs obj "enumerate"/\Q obj s1) E) s ⟨hl,?_⟩))) fun r s1 hr=>?_
 ·show _/\_
  rw [hz]
  exact ⟨⟨_,he,rfl⟩,h _ he ⟨_,Heap.get?_push_of_some _ (Heap.get?_push_size _ rfl),rfl,rfl⟩ fun b o x=>Heap.get?_push_of_some _ (Heap.get?_push_of_some _ x)⟩
 ·cases r with
  | error e=>exact hr
  | ok fl=>
   cases fl with
   | ret obj=>
    obtain ⟨hT,hq⟩:=hr
    have hli:=ft.init.lookup
    have hbi:=ft.init.bind obj
    repeat (any_goals (first | assumption | wp_step))
    refine codeAny_mono (codeAny_call_builtin ft.init.plain F.entry_object_init (ft.init.check _ _ _ _ _ _ _ _ hT (kwe_init obj _ _) (kwe_init_meets prog w A.in1 (wants (fun r s2=>r=.none/\Q obj s2) E) s1 ⟨hT,rfl,hq⟩))) fun r2 s2 hr2=>?_
    cases r2 with
    | error e=>exact hr2
    | ok fl2=>
     cases fl2 with
     | ret r=>
      obtain ⟨rfl,hq2⟩:=hr2
      repeat (any_goals (first | assumption | wp_step))
     | _=>exact hr2.elim
   | _=>exact hr.elim
theorem Draws.shift {it:Addr} {fp:List Addr} {n:Nat} {P:Nat->Value->Prop} {St:Nat->Heap->Prop} (D:Draws prog w A it fp n P St):Draws prog w A it fp (n+1) (fun i=>P (i-1)) (fun i h=>1<=i/\St (i-1) h) where
 live:=fun i h st=>D.live _ h st.2
 frame:=fun i h h' st k=>⟨st.1,D.frame _ h h' st.2 k⟩
 item:=fun i s Q E hi st hQ=>D.item (i-1) s Q E (by have:=st.1;omega) st.2 fun x h' tk p st' sb=>hQ x h' tk p ⟨by omega,by
  have e:i+1-1=i-1+1:=by have:=st.1;omega
  rw [e]
  exact st'⟩ sb
 done:=fun s Q E st hE=>D.done s Q E st.2 hE
end
end PySem
namespace L2
open PySem PySem.Spec PyProof.Rows
def Ite1 (K:PySem.W.Frag) (a:Addr):It:=
 ⟨fun i H=>∃ (xs:List V) (x:V),SqL K H a xs/\xs[i]?=some x,fun i H v H'=>∃ T x,v=.ref T/\H T=none/\H'=upd H T (.tup [.int ((i:Nat)+1),x])/\∀ xs,SqL K H a xs->xs[i]?=some x,fun i H=>∃ xs:List V,SqL K H a xs/\xs.length=i⟩
theorem turn_enum1 {P:Program} {w:World} {K:PySem.W.Frag} {elts:List Expr} {kk:Nat} {tpos:Pos} (a e it:Addr) :
  Turn P w K (.Tuple elts kk tpos) (Ite1 K a) [e,it] e (fun i h=>(∃ old,IsEnum h e it ((i+1:Nat):Int) old)/\h.IsListIter it a i/\e≠it) where
 mem:=by simp
 obj:=fun i h st b hb=>by
  obtain ⟨⟨old,he⟩,⟨o,ho,hc,hd⟩,_⟩:=st
  have e':b=e\/b=it:=by simpa using hb
  rcases e' with z | z
  ·rw [z];exact ⟨_,he,fun v q=>nomatch q⟩
  ·rw [z];exact ⟨o,ho,fun v q=>by rw [hd] at q;cases q⟩
 keep:=fun i h h' st k=>let ⟨⟨old,he⟩,hi,hne⟩:=st;⟨⟨old,k e (by simp) _ he⟩,hi.at fun o q=>k it (by simp) o q,hne⟩
 item:=by
  intro X hP hw hK hc i pins s σ H E I hf st hg
  subst hP hw hK
  obtain ⟨⟨old,he⟩,hit,hne⟩:=st
  obtain ⟨xs,x,hq,hx⟩:=hg
  obtain ⟨its,rv,p,hz⟩:=I.list hq
  obtain ⟨u,hu,ru⟩:=rv.get hx
  have hel:e<s.heap.objs.size:=Heap.lt_size he
  have hil:it<s.heap.objs.size:=by obtain ⟨_,q,_⟩:=hit;exact Heap.lt_size q
  have hae:a≠e:=by
   obtain ⟨o,ho,hcl,_⟩:=p.isList
   intro z
   rw [z,he] at ho;cases ho
   have z1:Value.type "enumerate" = Value.type "list":=hcl
   exact absurd z1 (by decide)
  have hai:a≠it:=by
   obtain ⟨o,ho,hcl,_⟩:=p.isList
   obtain ⟨o',ho',hc',_⟩:=hit
   intro z
   rw [z,ho'] at ho;cases ho;rw [hcl] at hc'
   exact absurd hc' (by decide)
  have hlt:i<its.length:=(List.getElem?_eq_some_iff.mp hu).1
  have D:=(Draws.list (prog:=X.prog) (w:=X.w) (A:=X.A.in1) (I.ok.hd hc) it a hai its.toArray).shift
  refine wpAny_pyNext_enum_itemD (i:=i+1) D he ⟨by omega,by simpa using ⟨hit,p.isList⟩⟩ (by simp;omega) hne (by simp;exact ⟨hne,fun z=>hae z.symm⟩) fun y h' tk hy ho hit' hT hsz hk=>?_
  have hit2:h'.IsListIter it a (i+1):=by
   have z:=hit'.2
   simp only [Nat.add_sub_cancel] at z
   exact z.1
  have ey:y=u:=by
   have z:its.toArray[i+1-1]?=some y:=hy
   simp only [Nat.add_sub_cancel,List.getElem?_toArray] at z
   rw [hu] at z
   exact (Option.some.inj z).symm
  subst ey
  refine ⟨_,rfl,wpAny_letOwnedTupleGo_enum (s:={s with heap:=h',toks:=tk+1}) ho fun h'' he' sb=>?_⟩
  have hT2:h''.get? s.heap.objs.size=some {cls:=.type "tuple",data:=.seq #[.int ((i+1:Nat):Int) tk,y]}:=(sb.2 _ (Nat.ne_of_gt hel)).trans hT
  have new:ObjOk X.prog X.w (upd H s.heap.objs.size (.tup [.int ((i:Nat)+1),x])) h'' s.heap.objs.size (.tup [.int ((i:Nat)+1),x]):=
   ⟨by show 2<=sizeLine;decide,[.int ((i+1:Nat):Int) tk,y],.cons ⟨_,rfl⟩ (.cons ru .nil),⟨_,hT2,rfl,_,rfl⟩⟩
  have I1:Inv X pins σ (upd H s.heap.objs.size (.tup [.int ((i:Nat)+1),x])) {s with heap:=h'',toks:=tk+1}:=
   I.turnedNew (ch:=[e,it]) (fun b ob hb q=>(sb.2 b (fun z=>hb (by simp [z]))).trans (hk b ob (fun z=>hb (by simp [z])) (fun z=>hb (by simp [z])) q)) hf (Nat.le_refl _) new
  refine ⟨.ref s.heap.objs.size,_,I1,rfl,⟨_,x,rfl,I.hok.fresh (Nat.le_refl _),rfl,fun ys hy=>by rw [I.list_inj hy hq];exact hx⟩,⟨⟨y,?_⟩,hit2.at fun o q=>(sb.2 it (Ne.symm hne)).trans q,hne⟩,fun b hb=>?_⟩
  ·have e1:((i+1+1:Nat):Int)=((i+1:Nat):Int)+1:=by omega
   rw [e1];exact he'
  ·have hb':b<s.heap.objs.size:=by
    have e':b=e\/b=it:=by simpa using hb
    rcases e' with z | z
    ·rw [z];exact hel
    ·rw [z];exact hil
   rw [upd_ne (Nat.ne_of_lt hb')]
   exact (hf b hb).1
 done:=by
  intro X hP hw hK hc i pins s σ H E I hf st hg
  subst hP hw hK
  obtain ⟨⟨old,he⟩,hit,hne⟩:=st
  obtain ⟨xs,hq,hx⟩:=hg
  obtain ⟨its,rv,p,hz⟩:=I.list hq
  obtain ⟨f0,f1,f2,f3,f4,f5⟩:=hf it (by simp)
  have hl:=rv.length
  have hai:a≠it:=by
   obtain ⟨o,ho,hcl,_⟩:=p.isList
   obtain ⟨o',ho',hc',_⟩:=hit
   intro z
   rw [z,ho'] at ho;cases ho;rw [hcl] at hc'
   exact absurd hc' (by decide)
  have D:=(Draws.list (prog:=X.prog) (w:=X.w) (A:=X.A.in1) (I.ok.hd hc) it a hai its.toArray).shift
  have hi:i=its.length:=by omega
  subst hi
  exact wpAny_pyNext_enum_endD D he ⟨by omega,by simpa using ⟨hit,p.isList⟩⟩ fun h' eb=>⟨rfl,I.turned (t':=s.toks) (fun b o hb q=>eb b o hb q) f0 f1 f3 f4 f5⟩
 self:=fun A i s Q E st h=>let ⟨⟨_,he⟩,_⟩:=st;wpAny_pyIter_enum he h
def iEnum1 (K:PySem.W.Frag) (ta:TA):TI:=fun σ H R=>ta σ H fun vs H1=>∃ a xs,vs=[.ref a]/\SqL K H1 a xs/\R (Ite1 K a) H1
theorem pi_enum1 {X:Cx} {e:Expr} {ta:TA} {p pos tpos kpos cpos:Pos} {elts:List Expr} {kk jj:Nat} (hg:Gl X "enumerate") (hm:X.mg "enumerate" = none) (ha:PA X [e] ta) (hs:starEach [e] X.env=[(false,eval e X.env)]:=by rfl) :
  PI X (.Tuple elts kk tpos) (.Call (.Name "enumerate" p) [e] [⟨some "start",.Constant (.int 1) jj cpos,kpos⟩] pos) (iEnum1 X.K ta):=by
 intro pins s σ H R I h
 refine wpAny_Call_Name_kw (ld_blt I hg hm boot_enumerate ?_)
 refine PySem.W.callWith_of (P:=fun _=>True) (by rw [hs];rfl) (fun h _=>⟨.machine,.inr (.inl rfl),PySem.W.Looks.of_pure rfl⟩) (evalArgs_kw2 rfl (thn (ha pos pins s σ H _ I h) fun us s1 ⟨vs,H1,I1,r1,q1⟩=>?_) hs)
 obtain ⟨a,xs,ex,hq,q⟩:=q1
 subst ex
 show wpAny _ _ (evalAll [(do let v <-eval (.Constant (.int 1) jj cpos) X.env;standAt pos;pure v)]) _ _ s1
 refine wpAny_evalAll_cons (wpAny_bind (wpAny_Constant_int (wpAny_bind (wpAny_standAt (wpAny_pure (wpAny_evalAll_nil ?_))))))
 cases r1 with
 | cons r rr=>
  cases rr
  cases r
  have I1':=I1.tok (s1.toks+1)
  obtain ⟨its,rv,p',hz⟩:=I1'.list hq
  refine ⟨trivial,kwe_call p'.isList fun h' he hit hk=>wpAny_pyIter_enum he ?_⟩
  have I2:Inv X pins σ H1 {s1 with heap:=h',toks:=s1.toks+1}:=I1'.kept (t':=s1.toks+1) hk
  refine ⟨s1.heap.objs.size+1,[s1.heap.objs.size+1,s1.heap.objs.size],_,_,H1,rfl,I2,turn_enum1 a (s1.heap.objs.size+1) s1.heap.objs.size,⟨⟨.none,he⟩,hit,Nat.succ_ne_self _⟩,fun b hb=>?_,q⟩
  have e':b=s1.heap.objs.size+1\/b=s1.heap.objs.size:=by simpa using hb
  have hle:s1.heap.objs.size<=b:=by
   rcases e' with z | z
   ·rw [z];exact Nat.le_add_right _ _
   ·rw [z];exact Nat.le_refl _
  exact I1.fpOk hle (I1.hok.fresh hle)
theorem for_enum1 {K:PySem.W.Frag} {a:Addr} {xs:List V} {g:TG} {tb:TS} {D:Ends} {σ:St} {H:Hp} (Pv:Nat->St->Hp->Prop) (h0:Pv 0 σ H) (hl:∀ i σ H,i<=xs.length->Pv i σ H->SqL K H a xs)
  (hs:∀ i x σ H T,xs[i]?=some x->Pv i σ H->H T=none->g (.ref T) σ (upd H T (.tup [.int ((i:Nat)+1),x])) fun σ2 H2=>tb {D with nx:=Pv (i+1),ct:=Pv (i+1),bk:=D.nx} σ2 H2) (hd:∀ σ H,Pv xs.length σ H->D.nx σ H) :
  ∃ W:Nat->Nat->St->Hp->Prop,(∃ m,W 0 m σ H)/\∀ i m σ H,W i m σ H ->
   ((Ite1 K a).stop i H/\D.nx σ H)\/((Ite1 K a).go i H/\∃ N:St->Hp->Prop,(∀ σ' H',N σ' H'->∃ m',m'<m/\W (i+1) m' σ' H')/\∀ x H',(Ite1 K a).yld i H x H'->g x σ H' fun σ2 H2=>tb {D with nx:=N,ct:=N,bk:=D.nx} σ2 H2):=by
 refine ⟨fun i m σ H=>m=xs.length-i/\i<=xs.length/\Pv i σ H,⟨xs.length,by simp,Nat.zero_le _,h0⟩,?_⟩
 rintro i m σ H ⟨rfl,hi,p⟩
 have q:=hl i σ H hi p
 by_cases hlt:i<xs.length
 ·refine .inr ⟨⟨xs,xs[i],q,by simp [hlt]⟩,Pv (i+1),fun σ' H' p'=>⟨xs.length-(i+1),by omega,rfl,hlt,p'⟩,fun x H' y=>?_⟩
  obtain ⟨T,z,rfl,hT,rfl,y⟩:=y
  exact hs i z σ _ T (y xs q) p hT
 ·have e:i=xs.length:=by omega
  subst e
  exact .inl ⟨⟨xs,q,rfl⟩,hd σ H p⟩
section
variable {X:Cx}
theorem call_setL (hc:X.calm=true):CallR X (.type "set") (fun xs H Q=>∃ (p:Addr) (ns:List Int),xs=[.ref p]/\SqL X.K H p (ns.map V.int)/\ns.length+1<scanBound /\
  ∀ l,H l=none->Q (.ref l) (upd H l (.set (fun k=>(firstMet (fun i=>ns.getD i 0) ns.length).any (·==k)) (firstMet (fun i=>ns.getD i 0) ns.length).length))):=by
 intro pins s σ H xs us Q I r h
 obtain ⟨p,ns,rfl,hp,hb,q⟩:=h
 obtain ⟨u,rfl,ru⟩:=vals1 r
 cases ru
 obtain ⟨its,rv,pl,hz⟩:=I.list hp
 have hi:IntsAre its ns:=Vals.ints rv
 have hlen:its.length=ns.length:=hi.length
 refine call_set_list (I.ok.hd hc) pl.isList (by simpa using hi) (by simp only [List.size_toArray];omega) fun h' tk hS hk=>?_
 simp only [List.size_toArray,hlen] at hS
 have hf:H s.heap.objs.size=none:=I.hok.fresh (Nat.le_refl _)
 exact ⟨.ref s.heap.objs.size,upd H s.heap.objs.size (.set _ _),I.laid (o:=.set _ _) (t':=tk) (fun b ob e=>hk b ob (Heap.lt_size e) e) (Nat.le_refl _) hS,rfl,q _ hf⟩
theorem call_lenS:CallR X (.builtin "len") (fun xs H Q=>∃ a S n,xs=[V.ref a]/\H a=some (.set S n)/\Q (.int n) H):=by
 intro pins s σ H xs us Q I r h
 obtain ⟨a,S,n,rfl,ha,q⟩:=h
 obtain ⟨u,rfl,ru⟩:=vals1 r
 cases ru
 obtain ⟨o,es,ep,t,ho,hex,hd,_,_,hsz,hf,hn⟩:s.heap.SetOf (intKind X.prog X.w) a S n:=I.hok a _ ha
 subst hn
 refine call_len_set ho hex hd hf (by unfold scanBound at hsz;omega) ?_
 exact ⟨.int es.size,H,I.tok _,⟨_,rfl⟩,q⟩
end
end L2
set_option Elab.async false
set_option linter.all false
set_option maxRecDepth 100000
namespace L2
open PySem PySem.Spec PyProof.Rows
structure LArg where
 a:Addr
 vs:List Value
 ns:List Int
def LArg.Ok (h:Heap) (x:LArg):Prop:=h.get? x.a=some {cls:=.type "list",data:=.seq x.vs.toArray}/\IntsAre x.vs x.ns/\x.ns.length<=sizeLine
theorem ints_fun:∀ {vs:List Value} {ns ms:List Int},IntsAre vs ns->IntsAre vs ms->ns=ms
 | _,_,_,.nil,h2=>by cases h2;rfl
 | _,_,_,.cons n t h,h2=>by
  cases h2 with
  | cons _ _ h'=>rw [ints_fun h h']
def listHp (K:PySem.W.Frag) (as:List LArg):Hp:=fun b=>match as.find? fun x=>x.a==b with
 | some x=>if K.lookup b=none then some (.frz {cls:=.type "list",data:=.seq x.vs.toArray} (.lst (x.ns.map V.int))) else none
 | none=>none
theorem listHp_cases (K:PySem.W.Frag) (as:List LArg) (b:Addr):listHp K as b=none\/∃ x∈as,x.a=b/\K.lookup b=none/\listHp K as b=some (.frz {cls:=.type "list",data:=.seq x.vs.toArray} (.lst (x.ns.map V.int))):=by
 unfold listHp
 cases e:as.find? fun x=>x.a==b with
 | none=>exact .inl rfl
 | some x=>
  have hx:=List.mem_of_find?_eq_some e
  have hb:x.a=b:=beq_iff_eq.mp (List.find?_some (p:=fun x:LArg=>x.a==b) e)
  cases k:K.lookup b with
  | some o=>exact .inl (by simp)
  | none=>exact .inr ⟨x,hx,hb,rfl,by simp⟩
def argHp (K:PySem.W.Frag) (as:List LArg) (P0:Addr):Hp:=fun b=>if b=P0 then some (.tbl #[]) else listHp K as b
theorem argHp_cases (K:PySem.W.Frag) (as:List LArg) (P0 b:Addr):argHp K as P0 b=none\/(b=P0/\argHp K as P0 b=some (.tbl #[]))\/(b≠P0/\∃ x∈as,x.a=b/\K.lookup b=none/\argHp K as P0 b=some (.frz {cls:=.type "list",data:=.seq x.vs.toArray} (.lst (x.ns.map V.int)))):=by
 unfold argHp
 by_cases h:b=P0
 ·exact .inr (.inl ⟨h,if_pos h⟩)
 ·rw [if_neg h]
  rcases listHp_cases K as b with q | ⟨x,h1,h2,h3,h4⟩
  ·exact .inl q
  ·exact .inr (.inr ⟨h,x,h1,h2,h3,h4⟩)
structure MakerIn (h:Heap) (mg:Str->Option Value) (c0 P0:Addr):Prop where
 hd:PySem.W.CodeHd h c0 P0
 bm:∃ bm ob,mg "__builtins__" = some (.ref bm)/\bm≠builtinsNs/\h.get? bm=some ob/\ob.cls=.type "module"/\ob.dict=some builtinsNs/\ob.data=.plain
theorem spec_call {P:Program} {w:World} {K:PySem.W.Frag} {mg mb:Str->Option Value} {CX:CXT} {k:Nat} {fa:Addr} {fd:FuncData} {ps:List Str} {sp:Sp} {s₁:Shared} {as:List LArg} {us:List Value} {vs:List V} {out:List Int} {c0 P0:Addr}
  (KX:K.In s₁.heap) (hns:s₁.heap.Ns mainGlobals mg) (hb:s₁.heap.Ns builtinsNs mb) (hbb:∀ x:Str,x ≠ "__name__"->mb x=bootBuiltins x) (hlim:s₁.heap.NoLimit) (hg:s₁.gens = #[])
  (MI:MakerIn s₁.heap mg c0 P0) (hP:s₁.heap.TableAt c0 P0 #[]) (hKP:K.lookup P0=none)
  (ha:∀ x∈as,x.Ok s₁.heap) (rv:Vals vs us) (hr:Room k callerA)
  (F:∀ base:Heap,K.In base->base.Ns mainGlobals mg->MakerIn base mg c0 P0->FnOk P w K mg base CX k fa fd ps sp) (hbind:BindsTo s₁ fd ⟨us,[]⟩ (ps.zip us))
  (hsp:∀ H:Hp,H P0=some (.tbl #[])->(∀ x∈as,SqL K H x.a (x.ns.map V.int))->sp vs H (fun v H'=>∃ l,v=.ref l/\H' l=some (.lst (out.map V.int))) fun _ _ _=>False)
  (hCX:∀ H e s',CX [] H s₁ (fun _ _ _=>False) e s'->False) :
  codeAny (model P w) callerA (.call (.ref fa) ⟨us,[]⟩) (fun r s'=>(∃ l its n,r=.ok (.ret (.ref l))/\s'.heap.get? l=some {cls:=.type "list",data:=.seq its n}/\IntsAre its.toList out)/\OldK s₁.heap s'.heap/\s'.os=s₁.os/\AllBare s'.gens) s₁:=by
 have hPo:s₁.heap.get? P0=some {cls:=.none,data:=.fields #[]}:=hP.2
 have hok:HOk P w (argHp K as P0) s₁.heap:=fun b u z=>by
  rcases argHp_cases K as P0 b with q | ⟨hb0,q⟩ | ⟨hb0,x,hx,hxb,hk,q⟩
  ·rw [q] at z;cases z
  ·rw [q] at z
   cases z
   rw [hb0]
   exact hPo
  ·rw [q] at z
   cases z
   obtain ⟨h1,h2,h3⟩:=ha x hx
   rw [hxb] at h1
   exact ⟨h1,by rw [List.length_map];exact h3,x.vs,_,vals_ints h2,h1⟩
 have nP:∀ x∈as,x.a≠P0:=fun x hx z=>by
  obtain ⟨h1,_,_⟩:=ha x hx
  rw [z,hPo] at h1
  cases h1
 have hS:∀ x∈as,SqL K (argHp K as P0) x.a (x.ns.map V.int):=fun x hx=>by
  obtain ⟨h1,h2,h3⟩:=ha x hx
  have lenV:=h2.length
  cases hk:K.lookup x.a with
  | some o=>
   have e:=KX x.a o hk
   rw [h1] at e
   cases e
   exact .inr ⟨_,x.vs.toArray,_,hk,rfl,rfl,rfl,by rw [List.size_toArray,lenV];exact h3,by simpa using vals_ints h2⟩
  | none=>
   refine .inl (.inr ⟨{cls:=.type "list",data:=.seq x.vs.toArray},?_⟩)
   unfold argHp
   rw [if_neg (nP x hx)]
   unfold listHp
   cases e:as.find? fun y=>y.a==x.a with
   | none=>
    have z:=List.find?_eq_none.mp e x hx
    simp at z
   | some y=>
    have hy:=List.mem_of_find?_eq_some e
    have hyb:y.a=x.a:=beq_iff_eq.mp (List.find?_some (p:=fun y:LArg=>y.a==x.a) e)
    obtain ⟨g1,g2,_⟩:=ha y hy
    rw [hyb,h1] at g1
    have ev:x.vs=y.vs:=by
     have z:x.vs.toArray=y.vs.toArray:=by
      injection g1 with g1
      injection g1 with _ _ g1 _
      injection g1
     simpa using congrArg Array.toList z
    have en:x.ns=y.ns:=ints_fun h2 (by rw [ev];exact g2)
    rw [ev,en]
    exact if_pos hk
 have hPt:argHp K as P0 P0=some (.tbl #[]):=by unfold argHp;rw [if_pos rfl]
 have base_of:∀ {b:Addr} {o:Obj},s₁.heap.get? b=some o->argHp K as P0 b=none->(hidT s₁.heap (argHp K as P0)).get? b=some o:=fun e n=>hidT_get e n
 have noA:∀ {b:Addr} {o:Obj},s₁.heap.get? b=some o->o.cls≠.none->o.cls≠.type "list"->argHp K as P0 b=none:=fun {b o} e n1 n2=>by
  rcases argHp_cases K as P0 b with q | ⟨hb0,_⟩ | ⟨_,x,hx,hxb,_,_⟩
  ·exact q
  ·rw [hb0,hPo] at e
   cases e
   exact absurd rfl n1
  ·obtain ⟨h1,_,_⟩:=ha x hx
   rw [hxb,e] at h1
   cases h1
   exact absurd rfl n2
 have noD:∀ {b:Addr} {o:Obj} {es:Array DictEntry} {ep:Nat},s₁.heap.get? b=some o->o.data=.dict es ep->argHp K as P0 b=none:=fun {b o es ep} e d=>by
  rcases argHp_cases K as P0 b with q | ⟨hb0,_⟩ | ⟨_,x,hx,hxb,_,_⟩
  ·exact q
  ·rw [hb0,hPo] at e
   cases e
   cases d
  ·obtain ⟨h1,_,_⟩:=ha x hx
   rw [hxb,e] at h1
   cases h1
   cases d
 have nsK:∀ {b:Addr} {m:Str->Option Value},s₁.heap.Ns b m->(hidT s₁.heap (argHp K as P0)).Ns b m:=fun {b m} ⟨o,es,ep,e,d,r⟩=>⟨o,es,ep,base_of e (noD e d),d,r⟩
 have hKb:K.In (hidT s₁.heap (argHp K as P0)):=fun b o e=>base_of (KX b o e) (by
  rcases argHp_cases K as P0 b with q | ⟨hb0,_⟩ | ⟨_,_,_,_,hk,_⟩
  ·exact q
  ·rw [hb0,hKP] at e;cases e
  ·rw [hk] at e;cases e)
 have hM:Mod K mg (hidT s₁.heap (argHp K as P0)):=⟨hKb,nsK hns,⟨mb,nsK hb,hbb⟩,let ⟨mc,h1,h2⟩:=hlim;⟨mc,nsK h1,h2⟩⟩
 have MB:MakerIn (hidT s₁.heap (argHp K as P0)) mg c0 P0:=by
  obtain ⟨⟨o,ws,file,tf,flags,tg,inF,text,tt,e1,e2,r⟩,bm,ob,b1,b2,b3,b4,b5⟩:=MI
  exact ⟨⟨o,ws,file,tf,flags,tg,inF,text,tt,base_of e1 (noA e1 (by rw [e2];intro z;cases z) (by rw [e2];decide)),e2,r⟩,bm,ob,b1,b2,base_of b3 (noA b3 (by rw [b4];intro z;cases z) (by rw [b4];decide)),b4,b5⟩
 have e0:Env0 P w K mg (hidT s₁.heap (argHp K as P0)) callerA [] s₁ (argHp K as P0):=⟨rfl,hM,fun b o e=>of_hidT e,Nat.le_of_eq (hidT_size _ _),trivial,fun b hb=>absurd (show b∈([]:List Addr) from hb) (by simp),hok,.of_eq hg⟩
 refine codeAny_mono ((F _ hKb (nsK hns) MB).run callerA [] s₁ (argHp K as P0) ⟨us,[]⟩ us vs _ _ hr e0 hbind rv (hsp _ hPt hS)) fun r s' h=>?_
 cases r with
 | error e=>exact (hCX _ e s' h).elim
 | ok fl=>
  cases fl with
  | next=>exact False.elim h
  | brk=>exact False.elim h
  | cont=>exact False.elim h
  | ret u=>
   obtain ⟨v,H',os,bare,un,hok',r',l,rfl,hl⟩:=h
   obtain rfl:u=Value.ref l:=r'
   obtain ⟨_,its,n,rvo,ho⟩:=hok' l _ hl
   refine ⟨⟨l,its.toArray,n,rfl,ho,by simpa using Vals.ints rvo⟩,⟨fun b o e=>?_,fun b o e=>un.there b o e (by simp)⟩,os,bare⟩
   rcases argHp_cases K as P0 b with q | ⟨hb0,q⟩ | ⟨hb0,x,hx,hxb,hk,q⟩
   ·exact .inl (un.keep b o e q (by intro z;exact absurd (show b∈([]:List Addr) from z) (by simp)) (by simp))
   ·obtain ⟨more,z⟩:=un.tbls b _ q
    have z2:s'.heap.get? b=some {cls:=.none,data:=.fields (#[]++more)}:=hok' b _ z
    rw [hb0,hPo] at e
    cases e
    rw [hb0] at z2 ⊢
    exact .inr (.inl ⟨hP.isCodeTable,rfl,#[],more,rfl,z2⟩)
   ·have z2:=un.frzs b _ _ q
    obtain ⟨e1,_⟩:=hok b _ q
    obtain ⟨e2,_⟩:=hok' b _ z2
    rw [e] at e1;cases e1
    exact .inl e2
theorem reads_ints {R:PySem.W.WRecords} {cl:Str->Option Addr} {h:Heap}:∀ {vs:List Value} {ns:List Int},IntsAre vs ns->PySem.W.ReadsAllW R cl h vs (ns.map PySem.W.WData.int) []
 | _,_,.nil=>.nil
 | _,_,.cons n t r=>PySem.W.ReadsAllW.cons (as:=[]) (bs:=[]) (.int n t) (reads_ints r)
theorem walk_os {r:PySem.W.OpenSpec} {k:Nat} {q:Program} {loose:List Str} {XP:(Str->Option Value)->Heap->Prop} {YP:World->Heap->Prop} {d:DefRec} {K:Params->PySem.W.Frag} {CX:World->CXT} {sp:World->Addr->Sp} {ps:List Str}
  (hdf:d.params.defaults=[]) (hr:Room k callerA) (hrec:(recsOf q).find? (fun e=>e.name==d.name)=some d) (hnt:∀ p:Params,PySem.W.noTabs (K p)=true)
  (hY:∀ (w:World) (h:Heap),YP w h->(K w.params).In h)
  (F:∀ (w:World) (mg:Str->Option Value) (fa:Addr) (h:Heap),(K w.params).In h->h.Ns mainGlobals mg->mg d.name=some (.ref fa) ->
   ∃ fd:FuncData,(∃ oc od osl,(K w.params).lookup fa=some ⟨oc,od,.func fd,osl⟩)/\(∀ (s:Shared) (us:List Value),(K w.params).In s.heap->us.length=ps.length->BindsTo s fd ⟨us,[]⟩ (ps.zip us)) /\
    ∀ (base:Heap) (c0 P0:Addr),(K w.params).In base->base.Ns mainGlobals mg->MakerIn base mg c0 P0->fd.code=.ref c0->FnOk r.prog w (K w.params) mg base (CX w) k fa fd ps (sp w P0))
  (hargs:∀ (P:Params) (h:Heap) (args:List PySem.W.WData) (vals:List Value),r.pre args=true->PySem.W.WellAll P h vals args ->
   ∃ (as:List LArg) (vs:List V) (out:List Int),(∀ x∈as,x.Ok h)/\Vals vs vals/\vals.length=ps.length/\r.post args (.list (out.map PySem.W.WData.int))=true /\
    ∀ (w:World) (H:Hp) (P0:Addr),H P0=some (.tbl #[])->(∀ x∈as,SqL (K w.params) H x.a (x.ns.map V.int))->sp w P0 vs H (fun v H'=>∃ l,v=.ref l/\H' l=some (.lst (out.map V.int))) fun _ _ _=>False)
  (hCX:∀ (w:World) (H:Hp) (s:Shared) (e:Value) (s':Shared),CX w [] H s (fun _ _ _=>False) e s'->False) :
  PySem.W.WalkOS q loose XP YP r d [] (fun f vs=>PySem.call f vs):=by
 intro w s₀ s₁ mg mb G Y fa o pm cd doc dV kV ho hd hcd hD hmg hg args vals as' hpre hlay hrd hwl hlo
 have KX:=hY w _ Y
 obtain ⟨fd,⟨oc,od,osl,hlk⟩,hb,hF⟩:=F w mg fa _ KX G.T.g hmg
 obtain ⟨as,vs,out,ha,rv,hlen,hpost,hsp⟩:=hargs w.params s₁.heap args vals hpre hwl
 obtain ⟨fa',o',fd',c0,P0,h1,h2,h3,h4,h5,h6⟩:=G.T.tab d (List.mem_of_find?_eq_some hrec)
 obtain rfl:fa=fa':=by
  rw [hmg] at h1
  injection h1 with h1
  injection h1
 have hfd:fd=fd':=by
  have e:=KX _ _ hlk
  rw [h2] at e
  cases e
  injection h3
 subst hfd
 have hKP:(K w.params).lookup P0=none:=by
  cases e:(K w.params).lookup P0 with
  | none=>rfl
  | some o2=>
   have z:=KX _ _ e
   rw [h6.2] at z
   cases z
   have z2:=List.all_eq_true.mp (hnt w.params) (P0,_) (PySem.W.mem_of_lookupK e)
   exact absurd (show false=true from z2) Bool.false_ne_true
 refine PySem.W.enter_call (codeAny_mono (spec_call KX G.T.g G.T.b G.T.builtins G.T.nolimit hg ⟨PySem.W.CodeHd.of h5 h6,G.T.bmain⟩ h6 hKP ha rv hr (fun base k1 k2 k3=>hF base c0 P0 k1 k2 k3 h4) (hb _ _ KX hlen) (fun H hO hS=>hsp w H P0 hO hS) fun H e s'=>hCX w H s₁ e s') fun res s' hq=>?_)
 obtain ⟨⟨l,its,n,rfl,hl,hi⟩,h2,h3,h4⟩:=hq
 exact ⟨.inl ⟨.ref l,.list (out.map PySem.W.WData.int),[l],rfl,PySem.W.osNone,.list hl rfl rfl (reads_ints hi),PySem.W.osPost hpost,fun z=>absurd z Bool.false_ne_true⟩,h2,h3,h4⟩
theorem cxe_none (P:Program) (w:World) (H:Hp) (s:Shared) (e:Value) (s':Shared):CXE P w [] H s (fun _ _ _=>False) e s'->False:=by
 rintro ⟨_,_,_,_,_,_,_,_,_,_,z⟩
 exact z
end L2
set_option maxRecDepth 100000
set_option Elab.async false
namespace L2
open PySem PySem.W PyProof.Rows PySem.Calls
theorem top_of_seg {tb:String->Option Builtin} {p:Program} {w:World} {n0:Nat} {ann:Option Value}:∀ {n:Nat} {s s':Shared} {t:Thread} {f:Flow} {c:Code} {q:Pos},segRun tb p w n0 ann 0 n s t=some (f,s',c,q)->topRun tb p w n0 ann n s t=some s'
 | 0,_,_,_,_,_,_,h=>by cases h
 | n+1,s,s',t,f,c,q,h=>by
  unfold segRun at h
  unfold topRun
  cases he:endAt 0 t with
  | some x=>
   rw [he] at h;cases h
   have:through t=true:=by
    unfold endAt at he
    unfold through
    split at he
    ·rename_i h1 h2
     rw [h2]
     have h3:t.stack.isEmpty=true:=by
      have:=eq_of_beq h1
      cases ht:t.stack with
      | nil=>rfl
      | cons a l=>rw [ht] at this;cases this
     rw [h3];rfl
    ·cases he
   rw [this]
  | none=>
   rw [he] at h
   have ht:through t=false:=by
    cases hh:through t with
    | false=>rfl
    | true=>
     unfold through at hh
     obtain ⟨a,b⟩:=Bool.and_eq_true_iff.mp hh
     unfold endAt at he
     have a2:(t.stack.length==0)=true:=by
      cases h5:t.stack with
      | nil=>rfl
      | cons x l=>rw [h5] at a;cases a
     rw [a2] at he
     cases hc:t.cur with
     | pure x=>cases x with
      | done y=>rw [hc] at he;cases he
      | again y=>rw [hc] at b;cases b
     | _=>rw [hc] at b;cases b
   rw [ht]
   cases hk:stepOk n0 ann t with
   | false=>rw [hk] at h;cases h
   | true=>
    rw [hk] at h
    cases hs:step (denote tb) p w s t with
    | halt _ _=>rw [hs] at h;cases h
    | go s2 t2=>rw [hs] at h;exact top_of_seg h
def treeOf:List Obj->Nat->BT->BT
 | [],_,t=>t
 | o :: l,n,t=>treeOf l (n+1) (t.ins n o)
noncomputable def boot (w:World) (os:OsState):SharedT:=⟨treeOf (boot_heap w.params).objs.toList 0 .nil,11,{},Array.mk [],boot_drawn,boot_toks,os⟩
theorem boot_abs (w:World) (os:OsState):(boot w os).abs=⟨boot_heap w.params,Array.mk [],boot_drawn,boot_toks,os⟩:=by kernel_rfl
theorem boot_size (w:World):((boot_heap w.params).isNs mainGlobals&&(Array.mk []:Array GenState).size==0,(boot_heap w.params).objs.size,(boot_heap w.params).nsMap mainGlobals "__annotations__")=(true,11,some (.ref 6)):=by kernel_rfl
noncomputable def topT (p:Program) (M:Nat) (w:World) (os:OsState):Option SharedT:=(Fast.tw10110043849684766642 Fast.tw14364793385576792824 p w 11 (some (.ref 6)) 0 M (boot w os) (topStub p)).map fun r=>r.2.1
abbrev xOf (q:Program) (s:Shared):Bool:=xlAt q [] s&&recOk [] s
noncomputable def looks (p q:Program) (s:SharedT):=Fast.tw4187177175401517315 q [] (Fast.tw5923862056798008813 p.main.body) (xOf q) true s.abs
theorem left_parts {p q:Program} {al:Type} {Yf:Shared->al} {Ya:World->al} {N M:Nat} (e:opening p=plainProg p.main.scope.names) (hN:Nat.ble 600 N=true) (hM:Nat.ble M N=true) (f:∀ s,fenceModules? p s=some s)
  (hA:∀ (w:World) (os:OsState),(topT p M w os).map (fun s=>((looks p q s).1,(looks p q s).2.1,(looks p q s).2.2.2.1,(looks p q s).2.2.2.2.1))=some (expectedOf q,bltViewBooted,true,pinGoodD (drecsOf q)))
  (hB:∀ (w:World) (os:OsState),(topT p M w os).map (fun s=>(looks p q s).2.2.1)=some true)
  (hC:∀ (w:World) (os:OsState),(topT p M w os).map (fun s=>((looks p q s).2.2.2.2.2.1,(looks p q s).2.2.2.2.2.2.1))=some (plainGoodE q (looseW q []),plainGoodD q []))
  (hD:∀ (w:World) (os:OsState),(topT p M w os).map (fun s=>((looks p q s).2.2.2.2.2.2.2.1,(looks p q s).2.2.2.2.2.2.2.2,staticsOk (Fast.tw5923862056798008813 p.main.body) (boot_heap w.params) s.abs.heap&&namesBound p s.abs.heap&&gensDone s.abs&&laidKept (boot_heap w.params) s.abs.heap))=some (wideGood q,clsGoodW q [],true))
  (hY:∀ (w:World) (os:OsState),(topT p M w os).map (fun s=>Yf s.abs)=some (Ya w)):LeftO p q [] (fun s=>xlAt q [] s&&recOk [] s) Yf Ya N:=fun w=>by
 obtain ⟨⟨h,gs,d,k,os⟩,ea,eb⟩:=Option.map_eq_some_iff.mp (boot_open (p:=p) (N:=N) e hN f w)
 obtain ⟨rfl,rfl,rfl,rfl⟩:h=boot_heap w.params/\gs=Array.mk []/\d=boot_drawn/\k=boot_toks:=by simpa using eb
 obtain ⟨s,h1,a⟩:=Option.map_eq_some_iff.mp (hA w os)
 have b:=hB w os;rw [h1] at b
 have c:=hC w os;rw [h1] at c
 have dd:=hD w os;rw [h1] at dd
 have y:=hY w os;rw [h1] at y
 obtain ⟨⟨fl,s0,cc,ps⟩,h2,h3⟩:=Option.map_eq_some_iff.mp h1
 obtain rfl:s0=s:=h3
 have a:=a
 have b:=Option.some.inj b
 have c:=Option.some.inj c
 have dd:=Option.some.inj dd
 have y:=Option.some.inj y
 obtain ⟨a1,a2,a4,a5⟩:_/\_/\_/\_:=by simpa only [Prod.mk.injEq] using a
 obtain ⟨c6,c7⟩:_/\_:=by simpa only [Prod.mk.injEq] using c
 obtain ⟨d8,d9,d0⟩:_/\_/\_:=by simpa only [Prod.mk.injEq] using dd
 rw [<-Fast.te5923862056798008813] at d0
 have z:looks p q s0=openGood q []:=Prod.ext a1 (Prod.ext a2 (Prod.ext b (Prod.ext a4 (Prod.ext a5 (Prod.ext c6 (Prod.ext c7 (Prod.ext d8 d9)))))))
 unfold looks at z
 rw [<-Fast.te5923862056798008813,<-Fast.te4187177175401517315] at z
 rw [<-Fast.te10110043849684766642,<-Fast.te14364793385576792824] at h2
 obtain ⟨z1,z2,z3⟩:_/\_/\_:=by simpa only [Prod.mk.injEq] using boot_size w
 have r0:=top_of_seg (segRun_of h2)
 rw [boot_abs] at r0
 have r:=topRun_mono (N-M) _ _ _ _ r0
 rw [show M+(N-M)=N by have:=Nat.le_of_ble_eq_true hM;omega] at r
 have t:topFrom treeTable p w N ⟨boot_heap w.params,Array.mk [],boot_drawn,boot_toks,os⟩=some s0.abs:=by
  unfold topFrom
  dsimp only
  rw [z1,z2,z3,r]
  show (match staticsOk (importedModules p.main.body) (boot_heap w.params) s0.abs.heap&&namesBound p s0.abs.heap&&gensDone s0.abs&&laidKept (boot_heap w.params) s0.abs.heap with | true=>_ | false=>_)=_
  rw [d0]
 unfold openEnds
 rw [ea]
 show (topFrom treeTable p w N _).map _=_
 rw [t]
 exact congrArg some (Prod.ext z y)
end L2
set_option Elab.async false
set_option linter.all false
set_option maxRecDepth 100000
set_option maxHeartbeats 4000000
namespace Gw
open PySem L2
def top (i:Nat):Stmt:=PySem.Challenge.pw_tablegroups_s04_gw_table.main.body.getD i (.Pass ⟨0,0,0,0⟩)
abbrev sReadText:Stmt:=top 26
abbrev sWordsByOrder:Stmt:=top 27
abbrev sWordsOfText:Stmt:=top 28
abbrev sWithoutBlanks:Stmt:=top 29
abbrev sCheckLetters:Stmt:=top 30
abbrev sReadWords:Stmt:=top 31
abbrev sLetterNumbers:Stmt:=top 32
abbrev sTakeComma:Stmt:=top 33
abbrev sEndWord:Stmt:=top 34
abbrev sBeginBracket:Stmt:=top 35
abbrev sEndPart:Stmt:=top 36
abbrev sEndBracket:Stmt:=top 37
abbrev sCommutator:Stmt:=top 38
abbrev sInverse:Stmt:=top 39
abbrev sPowerSigns:Stmt:=top 40
abbrev sPowerNumber:Stmt:=top 41
abbrev sLeastPower:Stmt:=top 42
abbrev sAddPart:Stmt:=top 43
abbrev sMostPlaces:Stmt:=top 48
abbrev sWholeMoves:Stmt:=top 49
abbrev sTellingWords:Stmt:=top 50
abbrev sShortened:Stmt:=top 51
abbrev sFirstMoves:Stmt:=top 52
abbrev sPlacesOf:Stmt:=top 53
abbrev sFirstUnknown:Stmt:=top 54
abbrev sAllWays:Stmt:=top 55
abbrev sWithStep:Stmt:=top 56
abbrev sWithPlace:Stmt:=top 57
abbrev sNoPlaceMoved:Stmt:=top 58
abbrev sMovedTo:Stmt:=top 59
abbrev sTableNumbers:Stmt:=top 60
abbrev sGwTable:Stmt:=top 75
abbrev sAnswerOrRefusal:Stmt:=top 76
abbrev sTableAnswer:Stmt:=top 77
abbrev sOfPlaces:Stmt:=top 78
abbrev sCheckLength:Stmt:=top 79
abbrev sCheckRange:Stmt:=top 80
abbrev sGroupWithPlaces:Stmt:=top 81
abbrev sGroupOf:Stmt:=top 82
abbrev sGroup:Stmt:=inClass (top 24) 0
abbrev sLevel:Stmt:=inClass (top 25) 0
def GInt (mg:Str->Option Value) (x:Str) (n:Int):Prop:=∃ t,mg x=some (.int n t)
theorem pgi {X:Cx} {x:Str} {n:Int} {pos:Pos} (h:GInt X.mg x n) (hg:Gl X x:=by rfl) (hd:(x==("__debug__" : Str))=false:=by decide):PE X (.Name x pos) (tC (.int n)):=by
 obtain ⟨t,e⟩:=h
 exact pe_glob hg e ⟨t,rfl⟩ hd
structure GTup (K:PySem.W.Frag) (mg:Str->Option Value) (x:Str) (ns:List Int) (t:Addr):Prop where
 mg:mg x=some (.ref t)
 sq:∀ H:Hp,SqT K H t (ns.map V.int)
structure GFun (K:PySem.W.Frag) (mg:Str->Option Value) (x:Str) (st:Stmt) (ps:List Str) (f:Addr) (fd:FuncData):Prop where
 fn:Fun K x x st f fd
 bd:Binds K fd ps []
 mg:mg x=some (.ref f)
structure GCls (K:PySem.W.Frag) (mg:Str->Option Value) (x qi:Str) (st:Stmt) (ps:List Str) (C f:Addr) (fd:FuncData):Prop where
 cl:Cls K C
 mak:Mk K C f
 fn:Fun K "__init__" qi st f fd
 bd:Binds K fd ps []
 mg:mg x=some (.ref C)
structure AD where
 cWrong:Addr
 cTooLong:Addr
 cLongerThanMost:Addr
 cWrongArguments:Addr
 cWrongText:Addr
 cWrongWord:Addr
 cNoSuch:Addr
 cGroup:Addr
 fGroup:Addr
 dGroup:FuncData
 cLevel:Addr
 fLevel:Addr
 dLevel:FuncData
 fReadText:Addr
 dReadText:FuncData
 fWordsByOrder:Addr
 dWordsByOrder:FuncData
 fWordsOfText:Addr
 dWordsOfText:FuncData
 fWithoutBlanks:Addr
 dWithoutBlanks:FuncData
 fCheckLetters:Addr
 dCheckLetters:FuncData
 fReadWords:Addr
 dReadWords:FuncData
 fLetterNumbers:Addr
 dLetterNumbers:FuncData
 fTakeComma:Addr
 dTakeComma:FuncData
 fEndWord:Addr
 dEndWord:FuncData
 fBeginBracket:Addr
 dBeginBracket:FuncData
 fEndPart:Addr
 dEndPart:FuncData
 fEndBracket:Addr
 dEndBracket:FuncData
 fCommutator:Addr
 dCommutator:FuncData
 fInverse:Addr
 dInverse:FuncData
 fPowerSigns:Addr
 dPowerSigns:FuncData
 fPowerNumber:Addr
 dPowerNumber:FuncData
 fLeastPower:Addr
 dLeastPower:FuncData
 fAddPart:Addr
 dAddPart:FuncData
 fMostPlaces:Addr
 dMostPlaces:FuncData
 fWholeMoves:Addr
 dWholeMoves:FuncData
 fTellingWords:Addr
 dTellingWords:FuncData
 fShortened:Addr
 dShortened:FuncData
 fFirstMoves:Addr
 dFirstMoves:FuncData
 fPlacesOf:Addr
 dPlacesOf:FuncData
 fFirstUnknown:Addr
 dFirstUnknown:FuncData
 fAllWays:Addr
 dAllWays:FuncData
 fWithStep:Addr
 dWithStep:FuncData
 fWithPlace:Addr
 dWithPlace:FuncData
 fNoPlaceMoved:Addr
 dNoPlaceMoved:FuncData
 fMovedTo:Addr
 dMovedTo:FuncData
 fTableNumbers:Addr
 dTableNumbers:FuncData
 fGwTable:Addr
 dGwTable:FuncData
 fAnswerOrRefusal:Addr
 dAnswerOrRefusal:FuncData
 fTableAnswer:Addr
 dTableAnswer:FuncData
 fOfPlaces:Addr
 dOfPlaces:FuncData
 fCheckLength:Addr
 dCheckLength:FuncData
 fCheckRange:Addr
 dCheckRange:FuncData
 fGroupWithPlaces:Addr
 dGroupWithPlaces:FuncData
 fGroupOf:Addr
 dGroupOf:FuncData
 tMOST_PLACES:Addr
 tORDERS:Addr
structure Tx (K:PySem.W.Frag) (mg:Str->Option Value) (a:AD):Prop where
 xWrong:Xc K mg "Wrong" a.cWrong
 xTooLong:Xc K mg "TooLong" a.cTooLong
 xLongerThanMost:Xc K mg "LongerThanMost" a.cLongerThanMost
 xWrongArguments:Xc K mg "WrongArguments" a.cWrongArguments
 xWrongText:Xc K mg "WrongText" a.cWrongText
 xWrongWord:Xc K mg "WrongWord" a.cWrongWord
 xNoSuch:Xc K mg "NoSuch" a.cNoSuch
 m_LongerThanMost_LongerThanMost:PySem.W.exmOne K (.ref a.cLongerThanMost) (.ref a.cLongerThanMost)=some true
 m_WrongArguments_LongerThanMost:PySem.W.exmOne K (.ref a.cWrongArguments) (.ref a.cLongerThanMost)=some false
 m_WrongArguments_WrongArguments:PySem.W.exmOne K (.ref a.cWrongArguments) (.ref a.cWrongArguments)=some true
 m_WrongText_LongerThanMost:PySem.W.exmOne K (.ref a.cWrongText) (.ref a.cLongerThanMost)=some false
 m_WrongText_WrongArguments:PySem.W.exmOne K (.ref a.cWrongText) (.ref a.cWrongArguments)=some false
 m_WrongText_WrongText:PySem.W.exmOne K (.ref a.cWrongText) (.ref a.cWrongText)=some true
 m_WrongWord_LongerThanMost:PySem.W.exmOne K (.ref a.cWrongWord) (.ref a.cLongerThanMost)=some false
 m_WrongWord_WrongArguments:PySem.W.exmOne K (.ref a.cWrongWord) (.ref a.cWrongArguments)=some false
 m_WrongWord_WrongText:PySem.W.exmOne K (.ref a.cWrongWord) (.ref a.cWrongText)=some false
 m_WrongWord_WrongWord:PySem.W.exmOne K (.ref a.cWrongWord) (.ref a.cWrongWord)=some true
 m_NoSuch_LongerThanMost:PySem.W.exmOne K (.ref a.cNoSuch) (.ref a.cLongerThanMost)=some false
 m_NoSuch_WrongArguments:PySem.W.exmOne K (.ref a.cNoSuch) (.ref a.cWrongArguments)=some false
 m_NoSuch_WrongText:PySem.W.exmOne K (.ref a.cNoSuch) (.ref a.cWrongText)=some false
 m_NoSuch_WrongWord:PySem.W.exmOne K (.ref a.cNoSuch) (.ref a.cWrongWord)=some false
 m_NoSuch_NoSuch:PySem.W.exmOne K (.ref a.cNoSuch) (.ref a.cNoSuch)=some true
 m_TooLong_LongerThanMost:PySem.W.exmOne K (.ref a.cTooLong) (.ref a.cLongerThanMost)=some false
 m_TooLong_WrongArguments:PySem.W.exmOne K (.ref a.cTooLong) (.ref a.cWrongArguments)=some false
 m_TooLong_WrongText:PySem.W.exmOne K (.ref a.cTooLong) (.ref a.cWrongText)=some false
 m_TooLong_WrongWord:PySem.W.exmOne K (.ref a.cTooLong) (.ref a.cWrongWord)=some false
 m_TooLong_NoSuch:PySem.W.exmOne K (.ref a.cTooLong) (.ref a.cNoSuch)=some false
 m_TooLong_TooLong:PySem.W.exmOne K (.ref a.cTooLong) (.ref a.cTooLong)=some true
 m_Wrong_Wrong:PySem.W.exmOne K (.ref a.cWrong) (.ref a.cWrong)=some true
 m_TooLong_Wrong:PySem.W.exmOne K (.ref a.cTooLong) (.ref a.cWrong)=some false
 kGroup:GCls K mg "Group" "Group.__init__" sGroup ["self","letters","signs","words"] a.cGroup a.fGroup a.dGroup
 nGroup_letters:NoAttr K a.cGroup "letters"
 nGroup_signs:NoAttr K a.cGroup "signs"
 nGroup_words:NoAttr K a.cGroup "words"
 kLevel:GCls K mg "Level" "Level.__init__" sLevel ["self","bracket"] a.cLevel a.fLevel a.dLevel
 nLevel_bracket:NoAttr K a.cLevel "bracket"
 nLevel_ended:NoAttr K a.cLevel "ended"
 nLevel_written:NoAttr K a.cLevel "written"
 nLevel_has_part:NoAttr K a.cLevel "has_part"
 gReadText:GFun K mg "read_text" sReadText ["text"] a.fReadText a.dReadText
 gWordsByOrder:GFun K mg "words_by_order" sWordsByOrder ["group","order"] a.fWordsByOrder a.dWordsByOrder
 gWordsOfText:GFun K mg "words_of_text" sWordsOfText ["signs","letters","order"] a.fWordsOfText a.dWordsOfText
 gWithoutBlanks:GFun K mg "without_blanks" sWithoutBlanks ["text"] a.fWithoutBlanks a.dWithoutBlanks
 gCheckLetters:GFun K mg "check_letters" sCheckLetters ["letters"] a.fCheckLetters a.dCheckLetters
 gReadWords:GFun K mg "read_words" sReadWords ["signs","letters","outside","order"] a.fReadWords a.dReadWords
 gLetterNumbers:GFun K mg "letter_numbers" sLetterNumbers ["letters"] a.fLetterNumbers a.dLetterNumbers
 gTakeComma:GFun K mg "take_comma" sTakeComma ["level"] a.fTakeComma a.dTakeComma
 gEndWord:GFun K mg "end_word" sEndWord ["level"] a.fEndWord a.dEndWord
 gBeginBracket:GFun K mg "begin_bracket" sBeginBracket ["levels","sign"] a.fBeginBracket a.dBeginBracket
 gEndPart:GFun K mg "end_part" sEndPart ["levels","sign","numbers"] a.fEndPart a.dEndPart
 gEndBracket:GFun K mg "end_bracket" sEndBracket ["levels","bracket"] a.fEndBracket a.dEndBracket
 gCommutator:GFun K mg "commutator" sCommutator ["left","right"] a.fCommutator a.dCommutator
 gInverse:GFun K mg "inverse" sInverse ["word"] a.fInverse a.dInverse
 gPowerSigns:GFun K mg "power_signs" sPowerSigns ["signs","start"] a.fPowerSigns a.dPowerSigns
 gPowerNumber:GFun K mg "power_number" sPowerNumber ["signs"] a.fPowerNumber a.dPowerNumber
 gLeastPower:GFun K mg "least_power" sLeastPower ["power","order"] a.fLeastPower a.dLeastPower
 gAddPart:GFun K mg "add_part" sAddPart ["level","part","power"] a.fAddPart a.dAddPart
 gMostPlaces:GFun K mg "most_places" sMostPlaces ["group"] a.fMostPlaces a.dMostPlaces
 gWholeMoves:GFun K mg "whole_moves" sWholeMoves ["group","most"] a.fWholeMoves a.dWholeMoves
 gTellingWords:GFun K mg "telling_words" sTellingWords ["words"] a.fTellingWords a.dTellingWords
 gShortened:GFun K mg "shortened" sShortened ["word"] a.fShortened a.dShortened
 gFirstMoves:GFun K mg "first_moves" sFirstMoves ["letters"] a.fFirstMoves a.dFirstMoves
 gPlacesOf:GFun K mg "places_of" sPlacesOf ["moves"] a.fPlacesOf a.dPlacesOf
 gFirstUnknown:GFun K mg "first_unknown" sFirstUnknown ["moves"] a.fFirstUnknown a.dFirstUnknown
 gAllWays:GFun K mg "all_ways" sAllWays ["moves","place","number","most"] a.fAllWays a.dAllWays
 gWithStep:GFun K mg "with_step" sWithStep ["moves","place","number","target"] a.fWithStep a.dWithStep
 gWithPlace:GFun K mg "with_place" sWithPlace ["moves"] a.fWithPlace a.dWithPlace
 gNoPlaceMoved:GFun K mg "no_place_moved" sNoPlaceMoved ["words","moves"] a.fNoPlaceMoved a.dNoPlaceMoved
 gMovedTo:GFun K mg "moved_to" sMovedTo ["word","moves","place"] a.fMovedTo a.dMovedTo
 gTableNumbers:GFun K mg "table_numbers" sTableNumbers ["moves"] a.fTableNumbers a.dTableNumbers
 gGwTable:GFun K mg "gw_table" sGwTable ["n","j","text"] a.fGwTable a.dGwTable
 gAnswerOrRefusal:GFun K mg "answer_or_refusal" sAnswerOrRefusal ["find_answer"] a.fAnswerOrRefusal a.dAnswerOrRefusal
 gTableAnswer:GFun K mg "table_answer" sTableAnswer ["n","j","text"] a.fTableAnswer a.dTableAnswer
 gOfPlaces:GFun K mg "of_places" sOfPlaces ["whole","n"] a.fOfPlaces a.dOfPlaces
 gCheckLength:GFun K mg "check_length" sCheckLength ["signs"] a.fCheckLength a.dCheckLength
 gCheckRange:GFun K mg "check_range" sCheckRange ["number","least","most"] a.fCheckRange a.dCheckRange
 gGroupWithPlaces:GFun K mg "group_with_places" sGroupWithPlaces ["n","text"] a.fGroupWithPlaces a.dGroupWithPlaces
 gGroupOf:GFun K mg "group_of" sGroupOf ["text"] a.fGroupOf a.dGroupOf
 iMOST_LETTERS:GInt mg "MOST_LETTERS" (8)
 iMOST_WORDS:GInt mg "MOST_WORDS" (32)
 iMOST_BRACKETS:GInt mg "MOST_BRACKETS" (32)
 iMOST_WRITTEN:GInt mg "MOST_WRITTEN" (4096)
 iMOST_DIGITS:GInt mg "MOST_DIGITS" (3)
 iBLANK:GInt mg "BLANK" (32)
 iROUND:GInt mg "ROUND" (40)
 iROUND_END:GInt mg "ROUND_END" (41)
 iCOMMA:GInt mg "COMMA" (44)
 iMINUS:GInt mg "MINUS" (45)
 iZERO:GInt mg "ZERO" (48)
 iNINE:GInt mg "NINE" (57)
 iSQUARE:GInt mg "SQUARE" (91)
 iSQUARE_END:GInt mg "SQUARE_END" (93)
 iSMALL_A:GInt mg "SMALL_A" (97)
 iSMALL_Z:GInt mg "SMALL_Z" (122)
 iBAR:GInt mg "BAR" (124)
 iWORDS_OF_TEXT:GInt mg "WORDS_OF_TEXT" (0)
 iWORD_ALONE:GInt mg "WORD_ALONE" (1)
 iGREAT_TO_SMALL:GInt mg "GREAT_TO_SMALL" (32)
 iNO_ORDER:GInt mg "NO_ORDER" (0)
 iNOWHERE:GInt mg "NOWHERE" (-1)
 iLONGEST:GInt mg "LONGEST" (4096)
 iMOST_PLACES_AT_ALL:GInt mg "MOST_PLACES_AT_ALL" (8)
 iMOST_REFUSED:GInt mg "MOST_REFUSED" (-1)
 iARGUMENTS_REFUSED:GInt mg "ARGUMENTS_REFUSED" (-2)
 iTEXT_REFUSED:GInt mg "TEXT_REFUSED" (-3)
 iWORD_REFUSED:GInt mg "WORD_REFUSED" (-4)
 iNO_SUCH_REFUSED:GInt mg "NO_SUCH_REFUSED" (-5)
 iTOO_LONG_REFUSED:GInt mg "TOO_LONG_REFUSED" (-6)
 uMOST_PLACES:GTup K mg "MOST_PLACES" [8,7,5,4,3,3,3,3] a.tMOST_PLACES
 uORDERS:GTup K mg "ORDERS" [1,2,6,12,60,60,420,840] a.tORDERS
 b_abs:mg "abs" = none
 b_enumerate:mg "enumerate" = none
 b_len:mg "len" = none
 b_list:mg "list" = none
 b_range:mg "range" = none
 b_reversed:mg "reversed" = none
 b_set:mg "set" = none
 b_sorted:mg "sorted" = none
 b_tuple:mg "tuple" = none
theorem txt_mk {K:PySem.W.Frag} {h:Heap} {mg:Str->Option Value} (X:K.In h) (G:h.Ns mainGlobals mg) {cWrong cTooLong cLongerThanMost cWrongArguments cWrongText cWrongWord cNoSuch cGroup fGroup cLevel fLevel fReadText fWordsByOrder fWordsOfText fWithoutBlanks fCheckLetters fReadWords fLetterNumbers fTakeComma fEndWord fBeginBracket fEndPart fEndBracket fCommutator fInverse fPowerSigns fPowerNumber fLeastPower fAddPart fMostPlaces fWholeMoves fTellingWords fShortened fFirstMoves fPlacesOf fFirstUnknown fAllWays fWithStep fWithPlace fNoPlaceMoved fMovedTo fTableNumbers fGwTable fAnswerOrRefusal fTableAnswer fOfPlaces fCheckLength fCheckRange fGroupWithPlaces fGroupOf uMOST_PLACES uORDERS:Addr}
  {od_46 an_46 od_47 an_47 od_31 an_31 od_6 an_6 od_13 an_13 od_4 an_4 od_7 an_7 od_27 an_27 od_5 an_5 od_28 an_28 od_36 an_36 od_8 an_8 od_37 an_37 od_17 an_17 od_18 an_18 od_38 an_38 od_19 an_19 od_14 an_14 od_20 an_20 od_39 an_39 od_21 an_21 od_22 an_22 od_9 an_9 od_29 an_29 od_23 an_23 od_32 an_32 od_10 an_10 od_40 an_40 od_33 an_33 od_30 an_30 od_11 an_11 od_41 an_41 od_12 an_12 od_42 an_42 od_0 an_0 od_15 an_15 od_34 an_34 od_16 an_16 od_24 an_24 od_1 an_1 od_43 an_43 od_MOST_PLACES od_ORDERS:Option Addr} {sl_46 sl_47 sl_31 sl_6 sl_13 sl_4 sl_7 sl_27 sl_5 sl_28 sl_36 sl_8 sl_37 sl_17 sl_18 sl_38 sl_19 sl_14 sl_20 sl_39 sl_21 sl_22 sl_9 sl_29 sl_23 sl_32 sl_10 sl_40 sl_33 sl_30 sl_11 sl_41 sl_12 sl_42 sl_0 sl_15 sl_34 sl_16 sl_24 sl_1 sl_43 sl_MOST_PLACES sl_ORDERS:Array (Option Value)}
  {oc_46 kV_46 dc_46 pm_46 cd_46 ct_46 oc_47 kV_47 dc_47 pm_47 cd_47 ct_47 oc_31 kV_31 dc_31 pm_31 cd_31 ct_31 oc_6 kV_6 dc_6 pm_6 cd_6 ct_6 oc_13 kV_13 dc_13 pm_13 cd_13 ct_13 oc_4 kV_4 dc_4 pm_4 cd_4 ct_4 oc_7 kV_7 dc_7 pm_7 cd_7 ct_7 oc_27 kV_27 dc_27 pm_27 cd_27 ct_27 oc_5 kV_5 dc_5 pm_5 cd_5 ct_5 oc_28 kV_28 dc_28 pm_28 cd_28 ct_28 oc_36 kV_36 dc_36 pm_36 cd_36 ct_36 oc_8 kV_8 dc_8 pm_8 cd_8 ct_8 oc_37 kV_37 dc_37 pm_37 cd_37 ct_37 oc_17 kV_17 dc_17 pm_17 cd_17 ct_17 oc_18 kV_18 dc_18 pm_18 cd_18 ct_18 oc_38 kV_38 dc_38 pm_38 cd_38 ct_38 oc_19 kV_19 dc_19 pm_19 cd_19 ct_19 oc_14 kV_14 dc_14 pm_14 cd_14 ct_14 oc_20 kV_20 dc_20 pm_20 cd_20 ct_20 oc_39 kV_39 dc_39 pm_39 cd_39 ct_39 oc_21 kV_21 dc_21 pm_21 cd_21 ct_21 oc_22 kV_22 dc_22 pm_22 cd_22 ct_22 oc_9 kV_9 dc_9 pm_9 cd_9 ct_9 oc_29 kV_29 dc_29 pm_29 cd_29 ct_29 oc_23 kV_23 dc_23 pm_23 cd_23 ct_23 oc_32 kV_32 dc_32 pm_32 cd_32 ct_32 oc_10 kV_10 dc_10 pm_10 cd_10 ct_10 oc_40 kV_40 dc_40 pm_40 cd_40 ct_40 oc_33 kV_33 dc_33 pm_33 cd_33 ct_33 oc_30 kV_30 dc_30 pm_30 cd_30 ct_30 oc_11 kV_11 dc_11 pm_11 cd_11 ct_11 oc_41 kV_41 dc_41 pm_41 cd_41 ct_41 oc_12 kV_12 dc_12 pm_12 cd_12 ct_12 oc_42 kV_42 dc_42 pm_42 cd_42 ct_42 oc_0 kV_0 dc_0 pm_0 cd_0 ct_0 oc_15 kV_15 dc_15 pm_15 cd_15 ct_15 oc_34 kV_34 dc_34 pm_34 cd_34 ct_34 oc_16 kV_16 dc_16 pm_16 cd_16 ct_16 oc_24 kV_24 dc_24 pm_24 cd_24 ct_24 oc_1 kV_1 dc_1 pm_1 cd_1 ct_1 oc_43 kV_43 dc_43 pm_43 cd_43 ct_43:Value} {t_MOST_LETTERS t_MOST_WORDS t_MOST_BRACKETS t_MOST_WRITTEN t_MOST_DIGITS t_BLANK t_ROUND t_ROUND_END t_COMMA t_MINUS t_ZERO t_NINE t_SQUARE t_SQUARE_END t_SMALL_A t_SMALL_Z t_BAR t_WORDS_OF_TEXT t_WORD_ALONE t_GREAT_TO_SMALL t_NO_ORDER t_NOWHERE t_LONGEST t_MOST_PLACES_AT_ALL t_MOST_REFUSED t_ARGUMENTS_REFUSED t_TEXT_REFUSED t_WORD_REFUSED t_NO_SUCH_REFUSED t_TOO_LONG_REFUSED t_MOST_PLACES_0 t_MOST_PLACES_1 t_MOST_PLACES_2 t_MOST_PLACES_3 t_MOST_PLACES_4 t_MOST_PLACES_5 t_MOST_PLACES_6 t_MOST_PLACES_7 t_ORDERS_0 t_ORDERS_1 t_ORDERS_2 t_ORDERS_3 t_ORDERS_4 t_ORDERS_5 t_ORDERS_6 t_ORDERS_7:Tok} {nn_MOST_PLACES nn_ORDERS:Nat}
  (a_45:PySem.W.nsIn K mainGlobals "Wrong" = some (some (.ref cWrong)))
  (e_45:PySem.W.excIn K cWrong excMro "Exception.__new__" = true)
  (a_35:PySem.W.nsIn K mainGlobals "TooLong" = some (some (.ref cTooLong)))
  (e_35:PySem.W.excIn K cTooLong excMro "Exception.__new__" = true)
  (a_2:PySem.W.nsIn K mainGlobals "LongerThanMost" = some (some (.ref cLongerThanMost)))
  (e_2:PySem.W.excIn K cLongerThanMost excMro "Exception.__new__" = true)
  (a_3:PySem.W.nsIn K mainGlobals "WrongArguments" = some (some (.ref cWrongArguments)))
  (e_3:PySem.W.excIn K cWrongArguments excMro "Exception.__new__" = true)
  (a_25:PySem.W.nsIn K mainGlobals "WrongText" = some (some (.ref cWrongText)))
  (e_25:PySem.W.excIn K cWrongText excMro "Exception.__new__" = true)
  (a_26:PySem.W.nsIn K mainGlobals "WrongWord" = some (some (.ref cWrongWord)))
  (e_26:PySem.W.excIn K cWrongWord excMro "Exception.__new__" = true)
  (a_44:PySem.W.nsIn K mainGlobals "NoSuch" = some (some (.ref cNoSuch)))
  (e_44:PySem.W.excIn K cNoSuch excMro "Exception.__new__" = true)
  (m_2_2:PySem.W.exmOne K (.ref cLongerThanMost) (.ref cLongerThanMost)=some true)
  (m_3_2:PySem.W.exmOne K (.ref cWrongArguments) (.ref cLongerThanMost)=some false)
  (m_3_3:PySem.W.exmOne K (.ref cWrongArguments) (.ref cWrongArguments)=some true)
  (m_25_2:PySem.W.exmOne K (.ref cWrongText) (.ref cLongerThanMost)=some false)
  (m_25_3:PySem.W.exmOne K (.ref cWrongText) (.ref cWrongArguments)=some false)
  (m_25_25:PySem.W.exmOne K (.ref cWrongText) (.ref cWrongText)=some true)
  (m_26_2:PySem.W.exmOne K (.ref cWrongWord) (.ref cLongerThanMost)=some false)
  (m_26_3:PySem.W.exmOne K (.ref cWrongWord) (.ref cWrongArguments)=some false)
  (m_26_25:PySem.W.exmOne K (.ref cWrongWord) (.ref cWrongText)=some false)
  (m_26_26:PySem.W.exmOne K (.ref cWrongWord) (.ref cWrongWord)=some true)
  (m_44_2:PySem.W.exmOne K (.ref cNoSuch) (.ref cLongerThanMost)=some false)
  (m_44_3:PySem.W.exmOne K (.ref cNoSuch) (.ref cWrongArguments)=some false)
  (m_44_25:PySem.W.exmOne K (.ref cNoSuch) (.ref cWrongText)=some false)
  (m_44_26:PySem.W.exmOne K (.ref cNoSuch) (.ref cWrongWord)=some false)
  (m_44_44:PySem.W.exmOne K (.ref cNoSuch) (.ref cNoSuch)=some true)
  (m_35_2:PySem.W.exmOne K (.ref cTooLong) (.ref cLongerThanMost)=some false)
  (m_35_3:PySem.W.exmOne K (.ref cTooLong) (.ref cWrongArguments)=some false)
  (m_35_25:PySem.W.exmOne K (.ref cTooLong) (.ref cWrongText)=some false)
  (m_35_26:PySem.W.exmOne K (.ref cTooLong) (.ref cWrongWord)=some false)
  (m_35_44:PySem.W.exmOne K (.ref cTooLong) (.ref cNoSuch)=some false)
  (m_35_35:PySem.W.exmOne K (.ref cTooLong) (.ref cTooLong)=some true)
  (m_45_45:PySem.W.exmOne K (.ref cWrong) (.ref cWrong)=some true)
  (m_35_45:PySem.W.exmOne K (.ref cTooLong) (.ref cWrong)=some false)
  (a_46:PySem.W.nsIn K mainGlobals "Group" = some (some (.ref cGroup)))
  (fi_46:PySem.W.findIn K (.ref cGroup) "__init__" = some (some (.ref fGroup)))
  (if_46:PySem.W.isFn K (.ref fGroup)=true)
  (l_46:K.lookup fGroup=some ⟨oc_46,od_46,.func (PySem.W.fnOf "__init__" "Group.__init__" (defArgs sGroup) (defBody sGroup) (defScope sGroup) .none kV_46 dc_46 pm_46 an_46 cd_46 ct_46),sl_46⟩)
  (cd__46:PySem.W.codeIn K cd_46 "Group.__init__" = true)
  (k_46:PySem.W.keepIn K (.ref fGroup)=true)
  (pg_46:PySem.W.plainGet K cGroup Str.empty=true)
  (hd_46:PySem.W.hasDictIn K cGroup=true)
  (po_46:PySem.W.plainOver K cGroup=true)
  (sa_46:PySem.W.findIn K (.ref cGroup) "__setattr__" = some (some (.builtin "object.__setattr__")))
  (mk_46:PySem.W.makesIn K cGroup=true)
  (kc_46:PySem.W.keepIn K (.ref cGroup)=true)
  (na_46_letters:PySem.W.findIn K (.ref cGroup) "letters" = some none)
  (na_46_signs:PySem.W.findIn K (.ref cGroup) "signs" = some none)
  (na_46_words:PySem.W.findIn K (.ref cGroup) "words" = some none)
  (a_47:PySem.W.nsIn K mainGlobals "Level" = some (some (.ref cLevel)))
  (fi_47:PySem.W.findIn K (.ref cLevel) "__init__" = some (some (.ref fLevel)))
  (if_47:PySem.W.isFn K (.ref fLevel)=true)
  (l_47:K.lookup fLevel=some ⟨oc_47,od_47,.func (PySem.W.fnOf "__init__" "Level.__init__" (defArgs sLevel) (defBody sLevel) (defScope sLevel) .none kV_47 dc_47 pm_47 an_47 cd_47 ct_47),sl_47⟩)
  (cd__47:PySem.W.codeIn K cd_47 "Level.__init__" = true)
  (k_47:PySem.W.keepIn K (.ref fLevel)=true)
  (pg_47:PySem.W.plainGet K cLevel Str.empty=true)
  (hd_47:PySem.W.hasDictIn K cLevel=true)
  (po_47:PySem.W.plainOver K cLevel=true)
  (sa_47:PySem.W.findIn K (.ref cLevel) "__setattr__" = some (some (.builtin "object.__setattr__")))
  (mk_47:PySem.W.makesIn K cLevel=true)
  (kc_47:PySem.W.keepIn K (.ref cLevel)=true)
  (na_47_bracket:PySem.W.findIn K (.ref cLevel) "bracket" = some none)
  (na_47_ended:PySem.W.findIn K (.ref cLevel) "ended" = some none)
  (na_47_written:PySem.W.findIn K (.ref cLevel) "written" = some none)
  (na_47_has_part:PySem.W.findIn K (.ref cLevel) "has_part" = some none)
  (a_31:PySem.W.nsIn K mainGlobals "read_text" = some (some (.ref fReadText)))
  (l_31:K.lookup fReadText=some ⟨oc_31,od_31,.func (PySem.W.fnOf "read_text" "read_text" (defArgs sReadText) (defBody sReadText) (defScope sReadText) .none kV_31 dc_31 pm_31 an_31 cd_31 ct_31),sl_31⟩)
  (cd__31:PySem.W.codeIn K cd_31 "read_text" = true)
  (k_31:PySem.W.keepIn K (.ref fReadText)=true)
  (a_6:PySem.W.nsIn K mainGlobals "words_by_order" = some (some (.ref fWordsByOrder)))
  (l_6:K.lookup fWordsByOrder=some ⟨oc_6,od_6,.func (PySem.W.fnOf "words_by_order" "words_by_order" (defArgs sWordsByOrder) (defBody sWordsByOrder) (defScope sWordsByOrder) .none kV_6 dc_6 pm_6 an_6 cd_6 ct_6),sl_6⟩)
  (cd__6:PySem.W.codeIn K cd_6 "words_by_order" = true)
  (k_6:PySem.W.keepIn K (.ref fWordsByOrder)=true)
  (a_13:PySem.W.nsIn K mainGlobals "words_of_text" = some (some (.ref fWordsOfText)))
  (l_13:K.lookup fWordsOfText=some ⟨oc_13,od_13,.func (PySem.W.fnOf "words_of_text" "words_of_text" (defArgs sWordsOfText) (defBody sWordsOfText) (defScope sWordsOfText) .none kV_13 dc_13 pm_13 an_13 cd_13 ct_13),sl_13⟩)
  (cd__13:PySem.W.codeIn K cd_13 "words_of_text" = true)
  (k_13:PySem.W.keepIn K (.ref fWordsOfText)=true)
  (a_4:PySem.W.nsIn K mainGlobals "without_blanks" = some (some (.ref fWithoutBlanks)))
  (l_4:K.lookup fWithoutBlanks=some ⟨oc_4,od_4,.func (PySem.W.fnOf "without_blanks" "without_blanks" (defArgs sWithoutBlanks) (defBody sWithoutBlanks) (defScope sWithoutBlanks) .none kV_4 dc_4 pm_4 an_4 cd_4 ct_4),sl_4⟩)
  (cd__4:PySem.W.codeIn K cd_4 "without_blanks" = true)
  (k_4:PySem.W.keepIn K (.ref fWithoutBlanks)=true)
  (a_7:PySem.W.nsIn K mainGlobals "check_letters" = some (some (.ref fCheckLetters)))
  (l_7:K.lookup fCheckLetters=some ⟨oc_7,od_7,.func (PySem.W.fnOf "check_letters" "check_letters" (defArgs sCheckLetters) (defBody sCheckLetters) (defScope sCheckLetters) .none kV_7 dc_7 pm_7 an_7 cd_7 ct_7),sl_7⟩)
  (cd__7:PySem.W.codeIn K cd_7 "check_letters" = true)
  (k_7:PySem.W.keepIn K (.ref fCheckLetters)=true)
  (a_27:PySem.W.nsIn K mainGlobals "read_words" = some (some (.ref fReadWords)))
  (l_27:K.lookup fReadWords=some ⟨oc_27,od_27,.func (PySem.W.fnOf "read_words" "read_words" (defArgs sReadWords) (defBody sReadWords) (defScope sReadWords) .none kV_27 dc_27 pm_27 an_27 cd_27 ct_27),sl_27⟩)
  (cd__27:PySem.W.codeIn K cd_27 "read_words" = true)
  (k_27:PySem.W.keepIn K (.ref fReadWords)=true)
  (a_5:PySem.W.nsIn K mainGlobals "letter_numbers" = some (some (.ref fLetterNumbers)))
  (l_5:K.lookup fLetterNumbers=some ⟨oc_5,od_5,.func (PySem.W.fnOf "letter_numbers" "letter_numbers" (defArgs sLetterNumbers) (defBody sLetterNumbers) (defScope sLetterNumbers) .none kV_5 dc_5 pm_5 an_5 cd_5 ct_5),sl_5⟩)
  (cd__5:PySem.W.codeIn K cd_5 "letter_numbers" = true)
  (k_5:PySem.W.keepIn K (.ref fLetterNumbers)=true)
  (a_28:PySem.W.nsIn K mainGlobals "take_comma" = some (some (.ref fTakeComma)))
  (l_28:K.lookup fTakeComma=some ⟨oc_28,od_28,.func (PySem.W.fnOf "take_comma" "take_comma" (defArgs sTakeComma) (defBody sTakeComma) (defScope sTakeComma) .none kV_28 dc_28 pm_28 an_28 cd_28 ct_28),sl_28⟩)
  (cd__28:PySem.W.codeIn K cd_28 "take_comma" = true)
  (k_28:PySem.W.keepIn K (.ref fTakeComma)=true)
  (a_36:PySem.W.nsIn K mainGlobals "end_word" = some (some (.ref fEndWord)))
  (l_36:K.lookup fEndWord=some ⟨oc_36,od_36,.func (PySem.W.fnOf "end_word" "end_word" (defArgs sEndWord) (defBody sEndWord) (defScope sEndWord) .none kV_36 dc_36 pm_36 an_36 cd_36 ct_36),sl_36⟩)
  (cd__36:PySem.W.codeIn K cd_36 "end_word" = true)
  (k_36:PySem.W.keepIn K (.ref fEndWord)=true)
  (a_8:PySem.W.nsIn K mainGlobals "begin_bracket" = some (some (.ref fBeginBracket)))
  (l_8:K.lookup fBeginBracket=some ⟨oc_8,od_8,.func (PySem.W.fnOf "begin_bracket" "begin_bracket" (defArgs sBeginBracket) (defBody sBeginBracket) (defScope sBeginBracket) .none kV_8 dc_8 pm_8 an_8 cd_8 ct_8),sl_8⟩)
  (cd__8:PySem.W.codeIn K cd_8 "begin_bracket" = true)
  (k_8:PySem.W.keepIn K (.ref fBeginBracket)=true)
  (a_37:PySem.W.nsIn K mainGlobals "end_part" = some (some (.ref fEndPart)))
  (l_37:K.lookup fEndPart=some ⟨oc_37,od_37,.func (PySem.W.fnOf "end_part" "end_part" (defArgs sEndPart) (defBody sEndPart) (defScope sEndPart) .none kV_37 dc_37 pm_37 an_37 cd_37 ct_37),sl_37⟩)
  (cd__37:PySem.W.codeIn K cd_37 "end_part" = true)
  (k_37:PySem.W.keepIn K (.ref fEndPart)=true)
  (a_17:PySem.W.nsIn K mainGlobals "end_bracket" = some (some (.ref fEndBracket)))
  (l_17:K.lookup fEndBracket=some ⟨oc_17,od_17,.func (PySem.W.fnOf "end_bracket" "end_bracket" (defArgs sEndBracket) (defBody sEndBracket) (defScope sEndBracket) .none kV_17 dc_17 pm_17 an_17 cd_17 ct_17),sl_17⟩)
  (cd__17:PySem.W.codeIn K cd_17 "end_bracket" = true)
  (k_17:PySem.W.keepIn K (.ref fEndBracket)=true)
  (a_18:PySem.W.nsIn K mainGlobals "commutator" = some (some (.ref fCommutator)))
  (l_18:K.lookup fCommutator=some ⟨oc_18,od_18,.func (PySem.W.fnOf "commutator" "commutator" (defArgs sCommutator) (defBody sCommutator) (defScope sCommutator) .none kV_18 dc_18 pm_18 an_18 cd_18 ct_18),sl_18⟩)
  (cd__18:PySem.W.codeIn K cd_18 "commutator" = true)
  (k_18:PySem.W.keepIn K (.ref fCommutator)=true)
  (a_38:PySem.W.nsIn K mainGlobals "inverse" = some (some (.ref fInverse)))
  (l_38:K.lookup fInverse=some ⟨oc_38,od_38,.func (PySem.W.fnOf "inverse" "inverse" (defArgs sInverse) (defBody sInverse) (defScope sInverse) .none kV_38 dc_38 pm_38 an_38 cd_38 ct_38),sl_38⟩)
  (cd__38:PySem.W.codeIn K cd_38 "inverse" = true)
  (k_38:PySem.W.keepIn K (.ref fInverse)=true)
  (a_19:PySem.W.nsIn K mainGlobals "power_signs" = some (some (.ref fPowerSigns)))
  (l_19:K.lookup fPowerSigns=some ⟨oc_19,od_19,.func (PySem.W.fnOf "power_signs" "power_signs" (defArgs sPowerSigns) (defBody sPowerSigns) (defScope sPowerSigns) .none kV_19 dc_19 pm_19 an_19 cd_19 ct_19),sl_19⟩)
  (cd__19:PySem.W.codeIn K cd_19 "power_signs" = true)
  (k_19:PySem.W.keepIn K (.ref fPowerSigns)=true)
  (a_14:PySem.W.nsIn K mainGlobals "power_number" = some (some (.ref fPowerNumber)))
  (l_14:K.lookup fPowerNumber=some ⟨oc_14,od_14,.func (PySem.W.fnOf "power_number" "power_number" (defArgs sPowerNumber) (defBody sPowerNumber) (defScope sPowerNumber) .none kV_14 dc_14 pm_14 an_14 cd_14 ct_14),sl_14⟩)
  (cd__14:PySem.W.codeIn K cd_14 "power_number" = true)
  (k_14:PySem.W.keepIn K (.ref fPowerNumber)=true)
  (a_20:PySem.W.nsIn K mainGlobals "least_power" = some (some (.ref fLeastPower)))
  (l_20:K.lookup fLeastPower=some ⟨oc_20,od_20,.func (PySem.W.fnOf "least_power" "least_power" (defArgs sLeastPower) (defBody sLeastPower) (defScope sLeastPower) .none kV_20 dc_20 pm_20 an_20 cd_20 ct_20),sl_20⟩)
  (cd__20:PySem.W.codeIn K cd_20 "least_power" = true)
  (k_20:PySem.W.keepIn K (.ref fLeastPower)=true)
  (a_39:PySem.W.nsIn K mainGlobals "add_part" = some (some (.ref fAddPart)))
  (l_39:K.lookup fAddPart=some ⟨oc_39,od_39,.func (PySem.W.fnOf "add_part" "add_part" (defArgs sAddPart) (defBody sAddPart) (defScope sAddPart) .none kV_39 dc_39 pm_39 an_39 cd_39 ct_39),sl_39⟩)
  (cd__39:PySem.W.codeIn K cd_39 "add_part" = true)
  (k_39:PySem.W.keepIn K (.ref fAddPart)=true)
  (a_21:PySem.W.nsIn K mainGlobals "most_places" = some (some (.ref fMostPlaces)))
  (l_21:K.lookup fMostPlaces=some ⟨oc_21,od_21,.func (PySem.W.fnOf "most_places" "most_places" (defArgs sMostPlaces) (defBody sMostPlaces) (defScope sMostPlaces) .none kV_21 dc_21 pm_21 an_21 cd_21 ct_21),sl_21⟩)
  (cd__21:PySem.W.codeIn K cd_21 "most_places" = true)
  (k_21:PySem.W.keepIn K (.ref fMostPlaces)=true)
  (a_22:PySem.W.nsIn K mainGlobals "whole_moves" = some (some (.ref fWholeMoves)))
  (l_22:K.lookup fWholeMoves=some ⟨oc_22,od_22,.func (PySem.W.fnOf "whole_moves" "whole_moves" (defArgs sWholeMoves) (defBody sWholeMoves) (defScope sWholeMoves) .none kV_22 dc_22 pm_22 an_22 cd_22 ct_22),sl_22⟩)
  (cd__22:PySem.W.codeIn K cd_22 "whole_moves" = true)
  (k_22:PySem.W.keepIn K (.ref fWholeMoves)=true)
  (a_9:PySem.W.nsIn K mainGlobals "telling_words" = some (some (.ref fTellingWords)))
  (l_9:K.lookup fTellingWords=some ⟨oc_9,od_9,.func (PySem.W.fnOf "telling_words" "telling_words" (defArgs sTellingWords) (defBody sTellingWords) (defScope sTellingWords) .none kV_9 dc_9 pm_9 an_9 cd_9 ct_9),sl_9⟩)
  (cd__9:PySem.W.codeIn K cd_9 "telling_words" = true)
  (k_9:PySem.W.keepIn K (.ref fTellingWords)=true)
  (a_29:PySem.W.nsIn K mainGlobals "shortened" = some (some (.ref fShortened)))
  (l_29:K.lookup fShortened=some ⟨oc_29,od_29,.func (PySem.W.fnOf "shortened" "shortened" (defArgs sShortened) (defBody sShortened) (defScope sShortened) .none kV_29 dc_29 pm_29 an_29 cd_29 ct_29),sl_29⟩)
  (cd__29:PySem.W.codeIn K cd_29 "shortened" = true)
  (k_29:PySem.W.keepIn K (.ref fShortened)=true)
  (a_23:PySem.W.nsIn K mainGlobals "first_moves" = some (some (.ref fFirstMoves)))
  (l_23:K.lookup fFirstMoves=some ⟨oc_23,od_23,.func (PySem.W.fnOf "first_moves" "first_moves" (defArgs sFirstMoves) (defBody sFirstMoves) (defScope sFirstMoves) .none kV_23 dc_23 pm_23 an_23 cd_23 ct_23),sl_23⟩)
  (cd__23:PySem.W.codeIn K cd_23 "first_moves" = true)
  (k_23:PySem.W.keepIn K (.ref fFirstMoves)=true)
  (a_32:PySem.W.nsIn K mainGlobals "places_of" = some (some (.ref fPlacesOf)))
  (l_32:K.lookup fPlacesOf=some ⟨oc_32,od_32,.func (PySem.W.fnOf "places_of" "places_of" (defArgs sPlacesOf) (defBody sPlacesOf) (defScope sPlacesOf) .none kV_32 dc_32 pm_32 an_32 cd_32 ct_32),sl_32⟩)
  (cd__32:PySem.W.codeIn K cd_32 "places_of" = true)
  (k_32:PySem.W.keepIn K (.ref fPlacesOf)=true)
  (a_10:PySem.W.nsIn K mainGlobals "first_unknown" = some (some (.ref fFirstUnknown)))
  (l_10:K.lookup fFirstUnknown=some ⟨oc_10,od_10,.func (PySem.W.fnOf "first_unknown" "first_unknown" (defArgs sFirstUnknown) (defBody sFirstUnknown) (defScope sFirstUnknown) .none kV_10 dc_10 pm_10 an_10 cd_10 ct_10),sl_10⟩)
  (cd__10:PySem.W.codeIn K cd_10 "first_unknown" = true)
  (k_10:PySem.W.keepIn K (.ref fFirstUnknown)=true)
  (a_40:PySem.W.nsIn K mainGlobals "all_ways" = some (some (.ref fAllWays)))
  (l_40:K.lookup fAllWays=some ⟨oc_40,od_40,.func (PySem.W.fnOf "all_ways" "all_ways" (defArgs sAllWays) (defBody sAllWays) (defScope sAllWays) .none kV_40 dc_40 pm_40 an_40 cd_40 ct_40),sl_40⟩)
  (cd__40:PySem.W.codeIn K cd_40 "all_ways" = true)
  (k_40:PySem.W.keepIn K (.ref fAllWays)=true)
  (a_33:PySem.W.nsIn K mainGlobals "with_step" = some (some (.ref fWithStep)))
  (l_33:K.lookup fWithStep=some ⟨oc_33,od_33,.func (PySem.W.fnOf "with_step" "with_step" (defArgs sWithStep) (defBody sWithStep) (defScope sWithStep) .none kV_33 dc_33 pm_33 an_33 cd_33 ct_33),sl_33⟩)
  (cd__33:PySem.W.codeIn K cd_33 "with_step" = true)
  (k_33:PySem.W.keepIn K (.ref fWithStep)=true)
  (a_30:PySem.W.nsIn K mainGlobals "with_place" = some (some (.ref fWithPlace)))
  (l_30:K.lookup fWithPlace=some ⟨oc_30,od_30,.func (PySem.W.fnOf "with_place" "with_place" (defArgs sWithPlace) (defBody sWithPlace) (defScope sWithPlace) .none kV_30 dc_30 pm_30 an_30 cd_30 ct_30),sl_30⟩)
  (cd__30:PySem.W.codeIn K cd_30 "with_place" = true)
  (k_30:PySem.W.keepIn K (.ref fWithPlace)=true)
  (a_11:PySem.W.nsIn K mainGlobals "no_place_moved" = some (some (.ref fNoPlaceMoved)))
  (l_11:K.lookup fNoPlaceMoved=some ⟨oc_11,od_11,.func (PySem.W.fnOf "no_place_moved" "no_place_moved" (defArgs sNoPlaceMoved) (defBody sNoPlaceMoved) (defScope sNoPlaceMoved) .none kV_11 dc_11 pm_11 an_11 cd_11 ct_11),sl_11⟩)
  (cd__11:PySem.W.codeIn K cd_11 "no_place_moved" = true)
  (k_11:PySem.W.keepIn K (.ref fNoPlaceMoved)=true)
  (a_41:PySem.W.nsIn K mainGlobals "moved_to" = some (some (.ref fMovedTo)))
  (l_41:K.lookup fMovedTo=some ⟨oc_41,od_41,.func (PySem.W.fnOf "moved_to" "moved_to" (defArgs sMovedTo) (defBody sMovedTo) (defScope sMovedTo) .none kV_41 dc_41 pm_41 an_41 cd_41 ct_41),sl_41⟩)
  (cd__41:PySem.W.codeIn K cd_41 "moved_to" = true)
  (k_41:PySem.W.keepIn K (.ref fMovedTo)=true)
  (a_12:PySem.W.nsIn K mainGlobals "table_numbers" = some (some (.ref fTableNumbers)))
  (l_12:K.lookup fTableNumbers=some ⟨oc_12,od_12,.func (PySem.W.fnOf "table_numbers" "table_numbers" (defArgs sTableNumbers) (defBody sTableNumbers) (defScope sTableNumbers) .none kV_12 dc_12 pm_12 an_12 cd_12 ct_12),sl_12⟩)
  (cd__12:PySem.W.codeIn K cd_12 "table_numbers" = true)
  (k_12:PySem.W.keepIn K (.ref fTableNumbers)=true)
  (a_42:PySem.W.nsIn K mainGlobals "gw_table" = some (some (.ref fGwTable)))
  (l_42:K.lookup fGwTable=some ⟨oc_42,od_42,.func (PySem.W.fnOf "gw_table" "gw_table" (defArgs sGwTable) (defBody sGwTable) (defScope sGwTable) .none kV_42 dc_42 pm_42 an_42 cd_42 ct_42),sl_42⟩)
  (cd__42:PySem.W.codeIn K cd_42 "gw_table" = true)
  (k_42:PySem.W.keepIn K (.ref fGwTable)=true)
  (a_0:PySem.W.nsIn K mainGlobals "answer_or_refusal" = some (some (.ref fAnswerOrRefusal)))
  (l_0:K.lookup fAnswerOrRefusal=some ⟨oc_0,od_0,.func (PySem.W.fnOf "answer_or_refusal" "answer_or_refusal" (defArgs sAnswerOrRefusal) (defBody sAnswerOrRefusal) (defScope sAnswerOrRefusal) .none kV_0 dc_0 pm_0 an_0 cd_0 ct_0),sl_0⟩)
  (cd__0:PySem.W.codeIn K cd_0 "answer_or_refusal" = true)
  (k_0:PySem.W.keepIn K (.ref fAnswerOrRefusal)=true)
  (a_15:PySem.W.nsIn K mainGlobals "table_answer" = some (some (.ref fTableAnswer)))
  (l_15:K.lookup fTableAnswer=some ⟨oc_15,od_15,.func (PySem.W.fnOf "table_answer" "table_answer" (defArgs sTableAnswer) (defBody sTableAnswer) (defScope sTableAnswer) .none kV_15 dc_15 pm_15 an_15 cd_15 ct_15),sl_15⟩)
  (cd__15:PySem.W.codeIn K cd_15 "table_answer" = true)
  (k_15:PySem.W.keepIn K (.ref fTableAnswer)=true)
  (a_34:PySem.W.nsIn K mainGlobals "of_places" = some (some (.ref fOfPlaces)))
  (l_34:K.lookup fOfPlaces=some ⟨oc_34,od_34,.func (PySem.W.fnOf "of_places" "of_places" (defArgs sOfPlaces) (defBody sOfPlaces) (defScope sOfPlaces) .none kV_34 dc_34 pm_34 an_34 cd_34 ct_34),sl_34⟩)
  (cd__34:PySem.W.codeIn K cd_34 "of_places" = true)
  (k_34:PySem.W.keepIn K (.ref fOfPlaces)=true)
  (a_16:PySem.W.nsIn K mainGlobals "check_length" = some (some (.ref fCheckLength)))
  (l_16:K.lookup fCheckLength=some ⟨oc_16,od_16,.func (PySem.W.fnOf "check_length" "check_length" (defArgs sCheckLength) (defBody sCheckLength) (defScope sCheckLength) .none kV_16 dc_16 pm_16 an_16 cd_16 ct_16),sl_16⟩)
  (cd__16:PySem.W.codeIn K cd_16 "check_length" = true)
  (k_16:PySem.W.keepIn K (.ref fCheckLength)=true)
  (a_24:PySem.W.nsIn K mainGlobals "check_range" = some (some (.ref fCheckRange)))
  (l_24:K.lookup fCheckRange=some ⟨oc_24,od_24,.func (PySem.W.fnOf "check_range" "check_range" (defArgs sCheckRange) (defBody sCheckRange) (defScope sCheckRange) .none kV_24 dc_24 pm_24 an_24 cd_24 ct_24),sl_24⟩)
  (cd__24:PySem.W.codeIn K cd_24 "check_range" = true)
  (k_24:PySem.W.keepIn K (.ref fCheckRange)=true)
  (a_1:PySem.W.nsIn K mainGlobals "group_with_places" = some (some (.ref fGroupWithPlaces)))
  (l_1:K.lookup fGroupWithPlaces=some ⟨oc_1,od_1,.func (PySem.W.fnOf "group_with_places" "group_with_places" (defArgs sGroupWithPlaces) (defBody sGroupWithPlaces) (defScope sGroupWithPlaces) .none kV_1 dc_1 pm_1 an_1 cd_1 ct_1),sl_1⟩)
  (cd__1:PySem.W.codeIn K cd_1 "group_with_places" = true)
  (k_1:PySem.W.keepIn K (.ref fGroupWithPlaces)=true)
  (a_43:PySem.W.nsIn K mainGlobals "group_of" = some (some (.ref fGroupOf)))
  (l_43:K.lookup fGroupOf=some ⟨oc_43,od_43,.func (PySem.W.fnOf "group_of" "group_of" (defArgs sGroupOf) (defBody sGroupOf) (defScope sGroupOf) .none kV_43 dc_43 pm_43 an_43 cd_43 ct_43),sl_43⟩)
  (cd__43:PySem.W.codeIn K cd_43 "group_of" = true)
  (k_43:PySem.W.keepIn K (.ref fGroupOf)=true)
  (v_MOST_LETTERS:PySem.W.nsIn K mainGlobals "MOST_LETTERS" = some (some (.int (8) t_MOST_LETTERS)))
  (v_MOST_WORDS:PySem.W.nsIn K mainGlobals "MOST_WORDS" = some (some (.int (32) t_MOST_WORDS)))
  (v_MOST_BRACKETS:PySem.W.nsIn K mainGlobals "MOST_BRACKETS" = some (some (.int (32) t_MOST_BRACKETS)))
  (v_MOST_WRITTEN:PySem.W.nsIn K mainGlobals "MOST_WRITTEN" = some (some (.int (4096) t_MOST_WRITTEN)))
  (v_MOST_DIGITS:PySem.W.nsIn K mainGlobals "MOST_DIGITS" = some (some (.int (3) t_MOST_DIGITS)))
  (v_BLANK:PySem.W.nsIn K mainGlobals "BLANK" = some (some (.int (32) t_BLANK)))
  (v_ROUND:PySem.W.nsIn K mainGlobals "ROUND" = some (some (.int (40) t_ROUND)))
  (v_ROUND_END:PySem.W.nsIn K mainGlobals "ROUND_END" = some (some (.int (41) t_ROUND_END)))
  (v_COMMA:PySem.W.nsIn K mainGlobals "COMMA" = some (some (.int (44) t_COMMA)))
  (v_MINUS:PySem.W.nsIn K mainGlobals "MINUS" = some (some (.int (45) t_MINUS)))
  (v_ZERO:PySem.W.nsIn K mainGlobals "ZERO" = some (some (.int (48) t_ZERO)))
  (v_NINE:PySem.W.nsIn K mainGlobals "NINE" = some (some (.int (57) t_NINE)))
  (v_SQUARE:PySem.W.nsIn K mainGlobals "SQUARE" = some (some (.int (91) t_SQUARE)))
  (v_SQUARE_END:PySem.W.nsIn K mainGlobals "SQUARE_END" = some (some (.int (93) t_SQUARE_END)))
  (v_SMALL_A:PySem.W.nsIn K mainGlobals "SMALL_A" = some (some (.int (97) t_SMALL_A)))
  (v_SMALL_Z:PySem.W.nsIn K mainGlobals "SMALL_Z" = some (some (.int (122) t_SMALL_Z)))
  (v_BAR:PySem.W.nsIn K mainGlobals "BAR" = some (some (.int (124) t_BAR)))
  (v_WORDS_OF_TEXT:PySem.W.nsIn K mainGlobals "WORDS_OF_TEXT" = some (some (.int (0) t_WORDS_OF_TEXT)))
  (v_WORD_ALONE:PySem.W.nsIn K mainGlobals "WORD_ALONE" = some (some (.int (1) t_WORD_ALONE)))
  (v_GREAT_TO_SMALL:PySem.W.nsIn K mainGlobals "GREAT_TO_SMALL" = some (some (.int (32) t_GREAT_TO_SMALL)))
  (v_NO_ORDER:PySem.W.nsIn K mainGlobals "NO_ORDER" = some (some (.int (0) t_NO_ORDER)))
  (v_NOWHERE:PySem.W.nsIn K mainGlobals "NOWHERE" = some (some (.int (-1) t_NOWHERE)))
  (v_LONGEST:PySem.W.nsIn K mainGlobals "LONGEST" = some (some (.int (4096) t_LONGEST)))
  (v_MOST_PLACES_AT_ALL:PySem.W.nsIn K mainGlobals "MOST_PLACES_AT_ALL" = some (some (.int (8) t_MOST_PLACES_AT_ALL)))
  (v_MOST_REFUSED:PySem.W.nsIn K mainGlobals "MOST_REFUSED" = some (some (.int (-1) t_MOST_REFUSED)))
  (v_ARGUMENTS_REFUSED:PySem.W.nsIn K mainGlobals "ARGUMENTS_REFUSED" = some (some (.int (-2) t_ARGUMENTS_REFUSED)))
  (v_TEXT_REFUSED:PySem.W.nsIn K mainGlobals "TEXT_REFUSED" = some (some (.int (-3) t_TEXT_REFUSED)))
  (v_WORD_REFUSED:PySem.W.nsIn K mainGlobals "WORD_REFUSED" = some (some (.int (-4) t_WORD_REFUSED)))
  (v_NO_SUCH_REFUSED:PySem.W.nsIn K mainGlobals "NO_SUCH_REFUSED" = some (some (.int (-5) t_NO_SUCH_REFUSED)))
  (v_TOO_LONG_REFUSED:PySem.W.nsIn K mainGlobals "TOO_LONG_REFUSED" = some (some (.int (-6) t_TOO_LONG_REFUSED)))
  (a_MOST_PLACES:PySem.W.nsIn K mainGlobals "MOST_PLACES" = some (some (.ref uMOST_PLACES)))
  (l_MOST_PLACES:K.lookup uMOST_PLACES=some ⟨.type "tuple",od_MOST_PLACES,.seq #[.int 8 t_MOST_PLACES_0,.int 7 t_MOST_PLACES_1,.int 5 t_MOST_PLACES_2,.int 4 t_MOST_PLACES_3,.int 3 t_MOST_PLACES_4,.int 3 t_MOST_PLACES_5,.int 3 t_MOST_PLACES_6,.int 3 t_MOST_PLACES_7] nn_MOST_PLACES,sl_MOST_PLACES⟩)
  (a_ORDERS:PySem.W.nsIn K mainGlobals "ORDERS" = some (some (.ref uORDERS)))
  (l_ORDERS:K.lookup uORDERS=some ⟨.type "tuple",od_ORDERS,.seq #[.int 1 t_ORDERS_0,.int 2 t_ORDERS_1,.int 6 t_ORDERS_2,.int 12 t_ORDERS_3,.int 60 t_ORDERS_4,.int 60 t_ORDERS_5,.int 420 t_ORDERS_6,.int 840 t_ORDERS_7] nn_ORDERS,sl_ORDERS⟩)
  (b_abs:PySem.W.nsIn K mainGlobals "abs" = some none)
  (b_enumerate:PySem.W.nsIn K mainGlobals "enumerate" = some none)
  (b_len:PySem.W.nsIn K mainGlobals "len" = some none)
  (b_list:PySem.W.nsIn K mainGlobals "list" = some none)
  (b_range:PySem.W.nsIn K mainGlobals "range" = some none)
  (b_reversed:PySem.W.nsIn K mainGlobals "reversed" = some none)
  (b_set:PySem.W.nsIn K mainGlobals "set" = some none)
  (b_sorted:PySem.W.nsIn K mainGlobals "sorted" = some none)
  (b_tuple:PySem.W.nsIn K mainGlobals "tuple" = some none):∃ a,Tx K mg a/\mg "gw_table" = some (.ref a.fGwTable):=by
 have F_46:=fun_mk (st:=sGroup) l_46 cd__46 k_46
 have F_47:=fun_mk (st:=sLevel) l_47 cd__47 k_47
 have F_31:=fun_mk (st:=sReadText) l_31 cd__31 k_31
 have F_6:=fun_mk (st:=sWordsByOrder) l_6 cd__6 k_6
 have F_13:=fun_mk (st:=sWordsOfText) l_13 cd__13 k_13
 have F_4:=fun_mk (st:=sWithoutBlanks) l_4 cd__4 k_4
 have F_7:=fun_mk (st:=sCheckLetters) l_7 cd__7 k_7
 have F_27:=fun_mk (st:=sReadWords) l_27 cd__27 k_27
 have F_5:=fun_mk (st:=sLetterNumbers) l_5 cd__5 k_5
 have F_28:=fun_mk (st:=sTakeComma) l_28 cd__28 k_28
 have F_36:=fun_mk (st:=sEndWord) l_36 cd__36 k_36
 have F_8:=fun_mk (st:=sBeginBracket) l_8 cd__8 k_8
 have F_37:=fun_mk (st:=sEndPart) l_37 cd__37 k_37
 have F_17:=fun_mk (st:=sEndBracket) l_17 cd__17 k_17
 have F_18:=fun_mk (st:=sCommutator) l_18 cd__18 k_18
 have F_38:=fun_mk (st:=sInverse) l_38 cd__38 k_38
 have F_19:=fun_mk (st:=sPowerSigns) l_19 cd__19 k_19
 have F_14:=fun_mk (st:=sPowerNumber) l_14 cd__14 k_14
 have F_20:=fun_mk (st:=sLeastPower) l_20 cd__20 k_20
 have F_39:=fun_mk (st:=sAddPart) l_39 cd__39 k_39
 have F_21:=fun_mk (st:=sMostPlaces) l_21 cd__21 k_21
 have F_22:=fun_mk (st:=sWholeMoves) l_22 cd__22 k_22
 have F_9:=fun_mk (st:=sTellingWords) l_9 cd__9 k_9
 have F_29:=fun_mk (st:=sShortened) l_29 cd__29 k_29
 have F_23:=fun_mk (st:=sFirstMoves) l_23 cd__23 k_23
 have F_32:=fun_mk (st:=sPlacesOf) l_32 cd__32 k_32
 have F_10:=fun_mk (st:=sFirstUnknown) l_10 cd__10 k_10
 have F_40:=fun_mk (st:=sAllWays) l_40 cd__40 k_40
 have F_33:=fun_mk (st:=sWithStep) l_33 cd__33 k_33
 have F_30:=fun_mk (st:=sWithPlace) l_30 cd__30 k_30
 have F_11:=fun_mk (st:=sNoPlaceMoved) l_11 cd__11 k_11
 have F_41:=fun_mk (st:=sMovedTo) l_41 cd__41 k_41
 have F_12:=fun_mk (st:=sTableNumbers) l_12 cd__12 k_12
 have F_42:=fun_mk (st:=sGwTable) l_42 cd__42 k_42
 have F_0:=fun_mk (st:=sAnswerOrRefusal) l_0 cd__0 k_0
 have F_15:=fun_mk (st:=sTableAnswer) l_15 cd__15 k_15
 have F_34:=fun_mk (st:=sOfPlaces) l_34 cd__34 k_34
 have F_16:=fun_mk (st:=sCheckLength) l_16 cd__16 k_16
 have F_24:=fun_mk (st:=sCheckRange) l_24 cd__24 k_24
 have F_1:=fun_mk (st:=sGroupWithPlaces) l_1 cd__1 k_1
 have F_43:=fun_mk (st:=sGroupOf) l_43 cd__43 k_43
 have B_46:=F_46.binds (ps:=["self","letters","signs","words"]) fun _ _ _ _ _ _ us hl=>match us,hl with | [_,_,_,_],_=>rfl
 have B_47:=F_47.binds (ps:=["self","bracket"]) fun _ _ _ _ _ _ us hl=>match us,hl with | [_,_],_=>rfl
 have B_31:=F_31.binds (ps:=["text"]) fun _ _ _ _ _ _ us hl=>match us,hl with | [_],_=>rfl
 have B_6:=F_6.binds (ps:=["group","order"]) fun _ _ _ _ _ _ us hl=>match us,hl with | [_,_],_=>rfl
 have B_13:=F_13.binds (ps:=["signs","letters","order"]) fun _ _ _ _ _ _ us hl=>match us,hl with | [_,_,_],_=>rfl
 have B_4:=F_4.binds (ps:=["text"]) fun _ _ _ _ _ _ us hl=>match us,hl with | [_],_=>rfl
 have B_7:=F_7.binds (ps:=["letters"]) fun _ _ _ _ _ _ us hl=>match us,hl with | [_],_=>rfl
 have B_27:=F_27.binds (ps:=["signs","letters","outside","order"]) fun _ _ _ _ _ _ us hl=>match us,hl with | [_,_,_,_],_=>rfl
 have B_5:=F_5.binds (ps:=["letters"]) fun _ _ _ _ _ _ us hl=>match us,hl with | [_],_=>rfl
 have B_28:=F_28.binds (ps:=["level"]) fun _ _ _ _ _ _ us hl=>match us,hl with | [_],_=>rfl
 have B_36:=F_36.binds (ps:=["level"]) fun _ _ _ _ _ _ us hl=>match us,hl with | [_],_=>rfl
 have B_8:=F_8.binds (ps:=["levels","sign"]) fun _ _ _ _ _ _ us hl=>match us,hl with | [_,_],_=>rfl
 have B_37:=F_37.binds (ps:=["levels","sign","numbers"]) fun _ _ _ _ _ _ us hl=>match us,hl with | [_,_,_],_=>rfl
 have B_17:=F_17.binds (ps:=["levels","bracket"]) fun _ _ _ _ _ _ us hl=>match us,hl with | [_,_],_=>rfl
 have B_18:=F_18.binds (ps:=["left","right"]) fun _ _ _ _ _ _ us hl=>match us,hl with | [_,_],_=>rfl
 have B_38:=F_38.binds (ps:=["word"]) fun _ _ _ _ _ _ us hl=>match us,hl with | [_],_=>rfl
 have B_19:=F_19.binds (ps:=["signs","start"]) fun _ _ _ _ _ _ us hl=>match us,hl with | [_,_],_=>rfl
 have B_14:=F_14.binds (ps:=["signs"]) fun _ _ _ _ _ _ us hl=>match us,hl with | [_],_=>rfl
 have B_20:=F_20.binds (ps:=["power","order"]) fun _ _ _ _ _ _ us hl=>match us,hl with | [_,_],_=>rfl
 have B_39:=F_39.binds (ps:=["level","part","power"]) fun _ _ _ _ _ _ us hl=>match us,hl with | [_,_,_],_=>rfl
 have B_21:=F_21.binds (ps:=["group"]) fun _ _ _ _ _ _ us hl=>match us,hl with | [_],_=>rfl
 have B_22:=F_22.binds (ps:=["group","most"]) fun _ _ _ _ _ _ us hl=>match us,hl with | [_,_],_=>rfl
 have B_9:=F_9.binds (ps:=["words"]) fun _ _ _ _ _ _ us hl=>match us,hl with | [_],_=>rfl
 have B_29:=F_29.binds (ps:=["word"]) fun _ _ _ _ _ _ us hl=>match us,hl with | [_],_=>rfl
 have B_23:=F_23.binds (ps:=["letters"]) fun _ _ _ _ _ _ us hl=>match us,hl with | [_],_=>rfl
 have B_32:=F_32.binds (ps:=["moves"]) fun _ _ _ _ _ _ us hl=>match us,hl with | [_],_=>rfl
 have B_10:=F_10.binds (ps:=["moves"]) fun _ _ _ _ _ _ us hl=>match us,hl with | [_],_=>rfl
 have B_40:=F_40.binds (ps:=["moves","place","number","most"]) fun _ _ _ _ _ _ us hl=>match us,hl with | [_,_,_,_],_=>rfl
 have B_33:=F_33.binds (ps:=["moves","place","number","target"]) fun _ _ _ _ _ _ us hl=>match us,hl with | [_,_,_,_],_=>rfl
 have B_30:=F_30.binds (ps:=["moves"]) fun _ _ _ _ _ _ us hl=>match us,hl with | [_],_=>rfl
 have B_11:=F_11.binds (ps:=["words","moves"]) fun _ _ _ _ _ _ us hl=>match us,hl with | [_,_],_=>rfl
 have B_41:=F_41.binds (ps:=["word","moves","place"]) fun _ _ _ _ _ _ us hl=>match us,hl with | [_,_,_],_=>rfl
 have B_12:=F_12.binds (ps:=["moves"]) fun _ _ _ _ _ _ us hl=>match us,hl with | [_],_=>rfl
 have B_42:=F_42.binds (ps:=["n","j","text"]) fun _ _ _ _ _ _ us hl=>match us,hl with | [_,_,_],_=>rfl
 have B_0:=F_0.binds (ps:=["find_answer"]) fun _ _ _ _ _ _ us hl=>match us,hl with | [_],_=>rfl
 have B_15:=F_15.binds (ps:=["n","j","text"]) fun _ _ _ _ _ _ us hl=>match us,hl with | [_,_,_],_=>rfl
 have B_34:=F_34.binds (ps:=["whole","n"]) fun _ _ _ _ _ _ us hl=>match us,hl with | [_,_],_=>rfl
 have B_16:=F_16.binds (ps:=["signs"]) fun _ _ _ _ _ _ us hl=>match us,hl with | [_],_=>rfl
 have B_24:=F_24.binds (ps:=["number","least","most"]) fun _ _ _ _ _ _ us hl=>match us,hl with | [_,_,_],_=>rfl
 have B_1:=F_1.binds (ps:=["n","text"]) fun _ _ _ _ _ _ us hl=>match us,hl with | [_,_],_=>rfl
 have B_43:=F_43.binds (ps:=["text"]) fun _ _ _ _ _ _ us hl=>match us,hl with | [_],_=>rfl
 have S_MOST_PLACES:∀ H:Hp,SqT K H uMOST_PLACES (([8,7,5,4,3,3,3,3]:List Int).map V.int):=fun H=>.inr ⟨_,_,_,l_MOST_PLACES,rfl,rfl,(by show 8<=sizeLine;decide),.cons ⟨t_MOST_PLACES_0,rfl⟩ (.cons ⟨t_MOST_PLACES_1,rfl⟩ (.cons ⟨t_MOST_PLACES_2,rfl⟩ (.cons ⟨t_MOST_PLACES_3,rfl⟩ (.cons ⟨t_MOST_PLACES_4,rfl⟩ (.cons ⟨t_MOST_PLACES_5,rfl⟩ (.cons ⟨t_MOST_PLACES_6,rfl⟩ (.cons ⟨t_MOST_PLACES_7,rfl⟩ (.nil))))))))⟩
 have S_ORDERS:∀ H:Hp,SqT K H uORDERS (([1,2,6,12,60,60,420,840]:List Int).map V.int):=fun H=>.inr ⟨_,_,_,l_ORDERS,rfl,rfl,(by show 8<=sizeLine;decide),.cons ⟨t_ORDERS_0,rfl⟩ (.cons ⟨t_ORDERS_1,rfl⟩ (.cons ⟨t_ORDERS_2,rfl⟩ (.cons ⟨t_ORDERS_3,rfl⟩ (.cons ⟨t_ORDERS_4,rfl⟩ (.cons ⟨t_ORDERS_5,rfl⟩ (.cons ⟨t_ORDERS_6,rfl⟩ (.cons ⟨t_ORDERS_7,rfl⟩ (.nil))))))))⟩
 exact ⟨⟨cWrong,cTooLong,cLongerThanMost,cWrongArguments,cWrongText,cWrongWord,cNoSuch,cGroup,fGroup,_,cLevel,fLevel,_,fReadText,_,fWordsByOrder,_,fWordsOfText,_,fWithoutBlanks,_,fCheckLetters,_,fReadWords,_,fLetterNumbers,_,fTakeComma,_,fEndWord,_,fBeginBracket,_,fEndPart,_,fEndBracket,_,fCommutator,_,fInverse,_,fPowerSigns,_,fPowerNumber,_,fLeastPower,_,fAddPart,_,fMostPlaces,_,fWholeMoves,_,fTellingWords,_,fShortened,_,fFirstMoves,_,fPlacesOf,_,fFirstUnknown,_,fAllWays,_,fWithStep,_,fWithPlace,_,fNoPlaceMoved,_,fMovedTo,_,fTableNumbers,_,fGwTable,_,fAnswerOrRefusal,_,fTableAnswer,_,fOfPlaces,_,fCheckLength,_,fCheckRange,_,fGroupWithPlaces,_,fGroupOf,_,uMOST_PLACES,uORDERS⟩,⟨⟨PySem.W.mg_of X G a_45,e_45⟩,⟨PySem.W.mg_of X G a_35,e_35⟩,⟨PySem.W.mg_of X G a_2,e_2⟩,⟨PySem.W.mg_of X G a_3,e_3⟩,⟨PySem.W.mg_of X G a_25,e_25⟩,⟨PySem.W.mg_of X G a_26,e_26⟩,⟨PySem.W.mg_of X G a_44,e_44⟩,m_2_2,m_3_2,m_3_3,m_25_2,m_25_3,m_25_25,m_26_2,m_26_3,m_26_25,m_26_26,m_44_2,m_44_3,m_44_25,m_44_26,m_44_44,m_35_2,m_35_3,m_35_25,m_35_26,m_35_44,m_35_35,m_45_45,m_35_45,⟨⟨pg_46,hd_46,po_46,sa_46⟩,⟨mk_46,fi_46,if_46,kc_46⟩,F_46,B_46,PySem.W.mg_of X G a_46⟩,na_46_letters,na_46_signs,na_46_words,⟨⟨pg_47,hd_47,po_47,sa_47⟩,⟨mk_47,fi_47,if_47,kc_47⟩,F_47,B_47,PySem.W.mg_of X G a_47⟩,na_47_bracket,na_47_ended,na_47_written,na_47_has_part,⟨F_31,B_31,PySem.W.mg_of X G a_31⟩,⟨F_6,B_6,PySem.W.mg_of X G a_6⟩,⟨F_13,B_13,PySem.W.mg_of X G a_13⟩,⟨F_4,B_4,PySem.W.mg_of X G a_4⟩,⟨F_7,B_7,PySem.W.mg_of X G a_7⟩,⟨F_27,B_27,PySem.W.mg_of X G a_27⟩,⟨F_5,B_5,PySem.W.mg_of X G a_5⟩,⟨F_28,B_28,PySem.W.mg_of X G a_28⟩,⟨F_36,B_36,PySem.W.mg_of X G a_36⟩,⟨F_8,B_8,PySem.W.mg_of X G a_8⟩,⟨F_37,B_37,PySem.W.mg_of X G a_37⟩,⟨F_17,B_17,PySem.W.mg_of X G a_17⟩,⟨F_18,B_18,PySem.W.mg_of X G a_18⟩,⟨F_38,B_38,PySem.W.mg_of X G a_38⟩,⟨F_19,B_19,PySem.W.mg_of X G a_19⟩,⟨F_14,B_14,PySem.W.mg_of X G a_14⟩,⟨F_20,B_20,PySem.W.mg_of X G a_20⟩,⟨F_39,B_39,PySem.W.mg_of X G a_39⟩,⟨F_21,B_21,PySem.W.mg_of X G a_21⟩,⟨F_22,B_22,PySem.W.mg_of X G a_22⟩,⟨F_9,B_9,PySem.W.mg_of X G a_9⟩,⟨F_29,B_29,PySem.W.mg_of X G a_29⟩,⟨F_23,B_23,PySem.W.mg_of X G a_23⟩,⟨F_32,B_32,PySem.W.mg_of X G a_32⟩,⟨F_10,B_10,PySem.W.mg_of X G a_10⟩,⟨F_40,B_40,PySem.W.mg_of X G a_40⟩,⟨F_33,B_33,PySem.W.mg_of X G a_33⟩,⟨F_30,B_30,PySem.W.mg_of X G a_30⟩,⟨F_11,B_11,PySem.W.mg_of X G a_11⟩,⟨F_41,B_41,PySem.W.mg_of X G a_41⟩,⟨F_12,B_12,PySem.W.mg_of X G a_12⟩,⟨F_42,B_42,PySem.W.mg_of X G a_42⟩,⟨F_0,B_0,PySem.W.mg_of X G a_0⟩,⟨F_15,B_15,PySem.W.mg_of X G a_15⟩,⟨F_34,B_34,PySem.W.mg_of X G a_34⟩,⟨F_16,B_16,PySem.W.mg_of X G a_16⟩,⟨F_24,B_24,PySem.W.mg_of X G a_24⟩,⟨F_1,B_1,PySem.W.mg_of X G a_1⟩,⟨F_43,B_43,PySem.W.mg_of X G a_43⟩,⟨_,PySem.W.mg_of X G v_MOST_LETTERS⟩,⟨_,PySem.W.mg_of X G v_MOST_WORDS⟩,⟨_,PySem.W.mg_of X G v_MOST_BRACKETS⟩,⟨_,PySem.W.mg_of X G v_MOST_WRITTEN⟩,⟨_,PySem.W.mg_of X G v_MOST_DIGITS⟩,⟨_,PySem.W.mg_of X G v_BLANK⟩,⟨_,PySem.W.mg_of X G v_ROUND⟩,⟨_,PySem.W.mg_of X G v_ROUND_END⟩,⟨_,PySem.W.mg_of X G v_COMMA⟩,⟨_,PySem.W.mg_of X G v_MINUS⟩,⟨_,PySem.W.mg_of X G v_ZERO⟩,⟨_,PySem.W.mg_of X G v_NINE⟩,⟨_,PySem.W.mg_of X G v_SQUARE⟩,⟨_,PySem.W.mg_of X G v_SQUARE_END⟩,⟨_,PySem.W.mg_of X G v_SMALL_A⟩,⟨_,PySem.W.mg_of X G v_SMALL_Z⟩,⟨_,PySem.W.mg_of X G v_BAR⟩,⟨_,PySem.W.mg_of X G v_WORDS_OF_TEXT⟩,⟨_,PySem.W.mg_of X G v_WORD_ALONE⟩,⟨_,PySem.W.mg_of X G v_GREAT_TO_SMALL⟩,⟨_,PySem.W.mg_of X G v_NO_ORDER⟩,⟨_,PySem.W.mg_of X G v_NOWHERE⟩,⟨_,PySem.W.mg_of X G v_LONGEST⟩,⟨_,PySem.W.mg_of X G v_MOST_PLACES_AT_ALL⟩,⟨_,PySem.W.mg_of X G v_MOST_REFUSED⟩,⟨_,PySem.W.mg_of X G v_ARGUMENTS_REFUSED⟩,⟨_,PySem.W.mg_of X G v_TEXT_REFUSED⟩,⟨_,PySem.W.mg_of X G v_WORD_REFUSED⟩,⟨_,PySem.W.mg_of X G v_NO_SUCH_REFUSED⟩,⟨_,PySem.W.mg_of X G v_TOO_LONG_REFUSED⟩,⟨PySem.W.mg_of X G a_MOST_PLACES,S_MOST_PLACES⟩,⟨PySem.W.mg_of X G a_ORDERS,S_ORDERS⟩,PySem.W.ns_none_of X G b_abs,PySem.W.ns_none_of X G b_enumerate,PySem.W.ns_none_of X G b_len,PySem.W.ns_none_of X G b_list,PySem.W.ns_none_of X G b_range,PySem.W.ns_none_of X G b_reversed,PySem.W.ns_none_of X G b_set,PySem.W.ns_none_of X G b_sorted,PySem.W.ns_none_of X G b_tuple⟩,PySem.W.mg_of X G a_42⟩
end Gw
set_option Elab.async false
set_option linter.all false
set_option maxRecDepth 100000
set_option maxHeartbeats 2000000
namespace L2
open PySem PySem.Spec PyProof.Rows
abbrev EF:XK:=fun _ _ _=>False
theorem passF {P:Program} {w:World} {X:Cx}:Passes (CXE P w) X EF:=fun _ _ _ _ _ _ _ ⟨_,_,_,_,_,_,_,_,_,_,z⟩=>z.elim
section
variable {X:Cx} {tg:Expr}
def iSeq (K:PySem.W.Frag) (tl:TE):TI:=fun σ H R=>tl σ H fun x H1=>∃ a,x=.ref a/\(((∃ xs,SqL K H1 a xs)/\R (Itl K a) H1)\/((∃ xs,SqT K H1 a xs)/\R (Itt K a) H1))
theorem pi_seq {l:Expr} {tl:TE} (hl:PE X l tl):PI X tg l (iSeq X.K tl):=by
 intro pins s σ H R I h
 refine thn (hl pins s σ H _ I h) fun v s1 ⟨x,H1,I1,r1,q1⟩=>?_
 obtain ⟨a,e,q1⟩:=q1
 subst e
 cases r1
 have fp:∀ b∈[s1.heap.objs.size],FpOk X pins H1 b:=fun b hb=>by
  rw [List.mem_singleton.mp hb]
  exact I1.fpOk (Nat.le_refl _) (I1.hok.fresh (Nat.le_refl _))
 rcases q1 with ⟨⟨xs,hq⟩,q⟩ | ⟨⟨xs,hq⟩,q⟩
 ·obtain ⟨its,rv,p,hz⟩:=I1.list hq
  refine wpAny_pyIter_list p.isList ?_
  exact ⟨s1.heap.objs.size,[s1.heap.objs.size],_,_,H1,rfl,I1.kept (t':=s1.toks) fun b o e=>Heap.get?_push_of_some _ e,turn_list a _,⟨_,Heap.get?_push_size _ rfl,rfl,rfl⟩,fp,q⟩
 ·obtain ⟨its,rv,p,hz⟩:=I1.tuple hq
  refine wpAny_pyIter_tuple (show s1.heap.IsTuple a its.toArray from p) ?_
  exact ⟨s1.heap.objs.size,[s1.heap.objs.size],_,_,H1,rfl,I1.kept (t':=s1.toks) fun b o e=>Heap.get?_push_of_some _ e,turn_tuple a _,⟨_,Heap.get?_push_size _ rfl,rfl,rfl⟩,fp,q⟩
end
abbrev ForW (J:It) (g:TG) (tb:TS) (D:Ends) (σ:St) (H:Hp):Prop:=∃ W:Nat->Nat->St->Hp->Prop,(∃ m,W 0 m σ H)/\∀ i m σ H,W i m σ H ->
 (J.stop i H/\D.nx σ H)\/(J.go i H/\∃ N:St->Hp->Prop,(∀ σ' H',N σ' H'->∃ m',m'<m/\W (i+1) m' σ' H')/\∀ x H',J.yld i H x H'->g x σ H' fun σ2 H2=>tb {D with nx:=N,ct:=N,bk:=D.nx} σ2 H2)
theorem for_seq {K:PySem.W.Frag} {a:Addr} {xs:List V} {g:TG} {tb:TS} {D:Ends} {σ:St} {H:Hp} (hq:SqL K H a xs\/SqT K H a xs) (Pv:Nat->St->Hp->Prop) (h0:Pv 0 σ H) (hl:∀ i σ H',i<=xs.length->Pv i σ H'->(SqL K H a xs->SqL K H' a xs)/\(SqT K H a xs->SqT K H' a xs))
  (hs:∀ i x σ H,xs[i]?=some x->Pv i σ H->g x σ H fun σ2 H2=>tb {D with nx:=Pv (i+1),ct:=Pv (i+1),bk:=D.nx} σ2 H2) (hd:∀ σ H,Pv xs.length σ H->D.nx σ H) :
  ((∃ xs,SqL K H a xs)/\ForW (Itl K a) g tb D σ H)\/((∃ xs,SqT K H a xs)/\ForW (Itt K a) g tb D σ H):=by
 rcases hq with hq | hq
 ·exact .inl ⟨⟨_,hq⟩,for_list Pv h0 (fun i σ H' hi p=>(hl i σ H' hi p).1 hq) hs hd⟩
 ·exact .inr ⟨⟨_,hq⟩,for_tup Pv h0 (fun i σ H' hi p=>(hl i σ H' hi p).2 hq) hs hd⟩
abbrev rv (n:Nat):List V:=(List.range n).map fun (i:Nat)=>V.int (i:Int)
end L2
set_option Elab.async false
set_option linter.all false
set_option maxRecDepth 100000
namespace L2
open PySem PySem.Spec PyProof.Rows
theorem for_items {d:Addr} {o:Obj} {kvs:List (Key × V)} {g:TG} {tb:TS} {D:Ends} {σ:St} {H:Hp} (Pv:Nat->St->Hp->Prop) (h0:Pv 0 σ H) (hl:∀ i σ H,i<=kvs.length->Pv i σ H->H d=some (.frz o (.dK kvs)))
  (hs:∀ i k v σ H T,kvs[i]?=some (k,v)->Pv i σ H->H T=none->g (.ref T) σ (upd H T (.tup [kV k,v])) fun σ2 H2=>tb {D with nx:=Pv (i+1),ct:=Pv (i+1),bk:=D.nx} σ2 H2) (hd:∀ σ H,Pv kvs.length σ H->D.nx σ H) :
  ∃ W:Nat->Nat->St->Hp->Prop,(∃ m,W 0 m σ H)/\∀ i m σ H,W i m σ H ->
   ((Iti d o kvs).stop i H/\D.nx σ H)\/((Iti d o kvs).go i H/\∃ N:St->Hp->Prop,(∀ σ' H',N σ' H'->∃ m',m'<m/\W (i+1) m' σ' H')/\∀ x H',(Iti d o kvs).yld i H x H'->g x σ H' fun σ2 H2=>tb {D with nx:=N,ct:=N,bk:=D.nx} σ2 H2):=by
 refine ⟨fun i m σ H=>m=kvs.length-i/\i<=kvs.length/\Pv i σ H,⟨kvs.length,by simp,Nat.zero_le _,h0⟩,?_⟩
 rintro i m σ H ⟨rfl,hi,p⟩
 have q:=hl i σ H hi p
 by_cases hlt:i<kvs.length
 ·refine .inr ⟨⟨q,hlt⟩,Pv (i+1),fun σ' H' p'=>⟨kvs.length-(i+1),by omega,rfl,hlt,p'⟩,fun x H' y=>?_⟩
  obtain ⟨T,k,v,e,rfl,hT,rfl⟩:=y
  exact hs i k v σ _ T e p hT
 ·have e:i=kvs.length:=by omega
  subst e
  exact .inl ⟨⟨q,Nat.le_refl _⟩,hd σ H p⟩
theorem lc_keysT {d : Addr} {o : Obj} {kvs : List (List Key × V)} {g : TG} {tt : TT} {te : TE} {vs : List Nat} {σ : St} {H1 : Hp} {D : Addr} {Qd : Hp -> Prop} (Pv : Nat -> Hp -> Prop) (h0 : Pv 0 (upd H1 D (.lst []))) (hl : ∀ i H, i <= kvs.length -> Pv i H -> H d = some (.frz o (.dT kvs)))
    (hs : ∀ i k v q H, kvs[i]? = some (k, v) -> H q = some (.tup (k.map kV)) -> Pv i H -> g (.ref q) (wipe σ vs) H fun σ2 H2 => wipe σ2 vs = wipe σ vs /\ tt σ2 H2 fun b H3 =>
      if b = true then te σ2 H3 fun y H4 => ∃ acc, H4 D = some (.lst acc) /\ acc.length < sizeLine /\ Pv (i + 1) (upd H4 D (.lst (acc ++ [y]))) else Pv (i + 1) H3) (hd : ∀ H, Pv kvs.length H -> Qd H) :
    ∃ W : Nat -> Nat -> Hp -> Prop, (∃ m, W 0 m (upd H1 D (.lst []))) /\ ∀ i m H, W i m H ->
      ((Itkt d o kvs).stop i H /\ Qd H) \/ ((Itkt d o kvs).go i H /\ ∃ Nx : Hp -> Prop, (∀ H', Nx H' -> ∃ m', m' < m /\ W (i + 1) m' H') /\ ∀ x H', (Itkt d o kvs).yld i H x H' -> g x (wipe σ vs) H' fun σ2 H2 => wipe σ2 vs = wipe σ vs /\ tt σ2 H2 fun b H3 =>
        if b = true then te σ2 H3 fun y H4 => ∃ acc, H4 D = some (.lst acc) /\ acc.length < sizeLine /\ Nx (upd H4 D (.lst (acc ++ [y]))) else Nx H3) := by
  refine ⟨fun i m H => m = kvs.length - i /\ i <= kvs.length /\ Pv i H, ⟨kvs.length, by simp, Nat.zero_le _, h0⟩, ?_⟩
  rintro i m H ⟨rfl, hi, p⟩
  have q := hl i H hi p
  by_cases hlt : i < kvs.length
  · refine .inr ⟨⟨q, hlt⟩, Pv (i + 1), fun H' p' => ⟨kvs.length - (i + 1), by omega, rfl, hlt, p'⟩, fun x H' y => ?_⟩
    obtain ⟨rfl, k, v, q2, e, rfl, e2⟩ := y
    exact hs i k v q2 _ e e2 p
  · have e : i = kvs.length := by omega
    subst e
    exact .inl ⟨⟨q, Nat.le_refl _⟩, hd H p⟩
def tTruK (K:PySem.W.Frag) (ta:TE):TT:=fun σ H Q=>ta σ H fun x H'=>∃ k,TruV K x H' k/\Q k H'
theorem pt_truthK {X:Cx} {K:PySem.W.Frag} {a:Expr} {ta:TE} (hK:X.K=K) (ha:PE X a ta) (he:∀ whole,isTrue a X.env whole=(do let v <-whole;standAt a.pos;holding [v] (truthy v))) :
  PT X a (tTruK K ta):=by
 subst hK
 exact pt_truth ha he
section
variable {X:Cx}
def allBut (h:Heap) (L:Addr):List (Addr × Obj):=(List.range h.objs.size).filterMap fun b=>if b=L then none else (h.get? b).map fun o=>(b,o)
theorem mem_allBut {h:Heap} {L b:Addr} {o:Obj}:(b,o)∈allBut h L↔b≠L/\h.get? b=some o:=by
 unfold allBut
 rw [List.mem_filterMap]
 constructor
 ·rintro ⟨c,_,e⟩
  split at e
  ·cases e
  ·rename_i hc
   cases q:h.get? c with
   | none=>rw [q] at e;cases e
   | some u=>
    rw [q] at e
    cases e
    exact ⟨hc,q⟩
 ·rintro ⟨h1,h2⟩
  exact ⟨b,List.mem_range.mpr (Heap.lt_size h2),by rw [if_neg h1,h2];rfl⟩
theorem ns_same {h:Heap} {a:Addr} {m m':Str->Option Value} (x:h.Ns a m) (y:h.Ns a m'):m=m':=by
 obtain ⟨o,es,ep,e1,e2,_,e3⟩:=x
 obtain ⟨o',es',ep',f1,f2,_,f3⟩:=y
 rw [e1] at f1
 cases f1
 rw [e2] at f2
 cases f2
 funext n
 rw [<-e3,<-f3]
theorem vals_refs:∀ {qs:List Addr} {us:List Value},Vals (qs.map V.ref) us->us=qs.map Value.ref
 | [],_,.nil=>rfl
 | q :: qs,_,.cons r t=>by
  cases r
  rw [vals_refs t]
  rfl
theorem refs_vals:∀ (qs:List Addr),Vals (qs.map V.ref) (qs.map Value.ref)
 | []=>.nil
 | q :: qs=>.cons rfl (refs_vals qs)
def refOf':Value->Addr
 | .ref a=>a
 | _=>0
theorem perm_refs {out:List Value} {qs:List Addr} (h:out.Perm (qs.map Value.ref)):∃ qs':List Addr,qs'.Perm qs/\out=qs'.map Value.ref:=by
 refine ⟨out.map refOf',?_,?_⟩
 ·have:=h.map refOf'
  rw [List.map_map] at this
  have e:(refOf'∘Value.ref)=id:=rfl
  rw [e,List.map_id] at this
  exact this
 ·rw [List.map_map]
  conv=>lhs;rw [<-List.map_id out]
  refine List.map_congr_left fun v hv=>?_
  obtain ⟨a,_,rfl⟩:=List.mem_map.mp (h.mem_iff.mp hv)
  rfl
def tSortLen (K:PySem.W.Frag) (ta:TA):TE:=fun σ H Q=>ta σ H fun vs H1=>∃ (a:Addr) (qs:List Addr),vs=[V.ref a]/\SqL K H1 a (qs.map V.ref)/\(∀ q∈qs,∃ ys,SqT K H1 q ys) /\
 ∀ (qs':List Addr) (D:Addr),qs'.Perm qs->H1 D=none->Q (.ref D) (upd H1 D (.lst (qs'.map V.ref)))
theorem bootSorted':bootBuiltins "sorted" = some (.builtin "sorted"):=by decide +kernel
set_option maxHeartbeats 4000000 in
theorem pe_sortedLen {e:Expr} {ta:TA} {p p2 pos kpos:Pos} (hg:Gl X "sorted") (hm:X.mg "sorted" = none) (hg2:Gl X "len") (hm2:X.mg "len" = none) (ha:PA X [e] ta) (hs:starEach [e] X.env=[(false,eval e X.env)]:=by rfl) :
  PE X (.Call (.Name "sorted" p) [e] [⟨some "key",.Name "len" p2,kpos⟩] pos) (tSortLen X.K ta):=by
 intro pins s σ H Q I h
 refine wpAny_Call_Name_kw (ld_blt I hg hm bootSorted' ?_)
 refine PySem.W.callWith_of (P:=fun _=>True) (by rw [hs];rfl) (fun h _=>⟨.machine,.inr (.inl rfl),PySem.W.Looks.of_pure rfl⟩) (evalArgs_kw2 rfl (thn (ha pos pins s σ H _ I h) fun us s1 ⟨vs,H1,I1,r1,q1⟩=>?_) hs)
 obtain ⟨a,qs,ex,hq,hT,q⟩:=q1
 subst ex
 show wpAny _ _ (evalAll [(do let v <-eval (.Name "len" p2) X.env;standAt pos;pure v)]) _ _ s1
 refine wpAny_evalAll_cons (wpAny_bind (ld_blt I1 hg2 hm2 PySem.boot_len (wpAny_bind (wpAny_standAt (wpAny_pure (wpAny_evalAll_nil ?_))))))
 refine ⟨trivial,?_⟩
 cases r1 with
 | cons r rr=>
  cases rr
  cases r
  obtain ⟨its,rv,pl,hz⟩:=I1.list hq
  have eits:=vals_refs rv
  obtain ⟨m,hns,_⟩:=id I1.loc
  have hn63:=line63
  have lens:∀ q:Addr,∃ k:Int,q∈qs->∃ items:List Value,IsTup s1.heap q items.toArray/\k=items.toArray.size/\(items.toArray.size:Int)<2 ^ 63:=fun q=>by
   by_cases hm:q∈qs
   ·obtain ⟨ys,hy⟩:=hT q hm
    obtain ⟨it2,rv2,tp,hz2⟩:=I1.tuple hy
    have hl:=rv2.length
    exact ⟨it2.toArray.size,fun _=>⟨it2,tp,rfl,by simp only [List.size_toArray]<;>omega⟩⟩
   ·exact ⟨0,fun z=>absurd z hm⟩
  obtain ⟨kf,hkf⟩:=Classical.axiomOfChoice lens
  refine ksk_sortedAny (h₀:=(⟨#[],{}⟩:Heap)) (L:=X.env.locals) (m:=m) (news:=allBut s1.heap X.env.locals) (b:=false) (vs:=its) (kz:=qs.map kf) (f:=.builtin "len") (kw:=[(Str.ofString "key",.builtin "len")])
   ⟨hns,(fun b o e=>by have z:(⟨#[],{}⟩:Heap).get? b=none:=rfl;rw [z] at e;cases e),Nat.zero_le _⟩
   (fun pr hp=>by
    obtain ⟨b,o⟩:=pr
    have z:=mem_allBut.mp hp
    exact ⟨z.2,z.1,rfl⟩)
   pl.isList (by rw [eits];simp) (by have:=rv.length;omega) (ksk_s1 _ _) (fun x=>ksk_l1 _ _) (fun x=>ksk_t4 _ _) ?turn ?fin
  case turn=>
   intro i v k hv hk hh tk own F N
   rw [eits,List.getElem?_map] at hv
   rw [List.getElem?_map] at hk
   cases hqi:qs[i]? with
   | none=>rw [hqi] at hv;cases hv
   | some c=>
    rw [hqi] at hv hk
    cases hv
    cases hk
    obtain ⟨items,⟨ob,hob,hc⟩,hk2,hk3⟩:=hkf c (List.mem_of_getElem? hqi)
    have hcL:c≠X.env.locals:=fun z=>by
     obtain ⟨o',es',ep',g1,g2,_⟩:=hns
     rw [z,g1] at hob
     cases hob
     obtain ⟨_,n,hd⟩:=hc
     rw [g2] at hd
     cases hd
    have hob2:hh.get? c=some ob:=(N (c,ob) (List.mem_append_left _ (mem_allBut.mpr ⟨hcL,hob⟩))).1
    refine len_tuple (s:={s1 with heap:=hh,toks:=tk}) ⟨ob,hob2,hc⟩ hk3 ?_
    rw [<-hk2]
    exact KskEnd.intro (news':=allBut s1.heap X.env.locals++own) F N fun _ z=>z
  case fin=>
   intro D h' tk out c F N hD ho
   have keep:∀ b o,b≠X.env.locals->s1.heap.get? b=some o->h'.get? b=some o:=fun b o hb e=>(N (b,o) (List.mem_cons_of_mem _ (mem_allBut.mpr ⟨hb,e⟩))).1
   have hDo:=(N (D,_) (List.mem_cons_self ..)).1
   have hDL:D≠X.env.locals:=(N (D,_) (List.mem_cons_self ..)).2.1
   have noD:∀ o,s1.heap.get? D≠some o:=fun o e=>Nat.lt_irrefl _ (hD (D,o) (mem_allBut.mpr ⟨hDL,e⟩))
   have hHD:H1 D=none:=by
    cases z:H1 D with
    | none=>rfl
    | some u=>
     have:=I1.hok D u z
     exfalso
     cases e:s1.heap.get? D with
     | some o=>exact noD o e
     | none=>exact absurd (ObjOk.there this) (by rw [e];simp)
   obtain ⟨ps,hp1,hp2,_⟩:=ho
   have hperm:out.toList.Perm (qs.map Value.ref):=by
    rw [hp2]
    refine (hp1.map Prod.snd).trans ?_
    rw [List.map_snd_zip (by rw [eits];simp),eits]
   obtain ⟨qs',e1,e2⟩:=perm_refs hperm
   have ntr:∀ b u,H1 b=some u->b≠X.env.locals:=fun b u e z=>by rw [z,I1.free] at e;cases e
   have ntD:∀ b u,H1 b=some u->b≠D:=fun b u e z=>by rw [z,hHD] at e;cases e
   refine ⟨.ref D,upd H1 D (.lst (qs'.map V.ref)),?_,rfl,q qs' D e1 hHD⟩
   refine I1.step (g':=s1.gens) (d':=s1.drawn) (t':=tk) (ch:=[]) (fun _ z=>nomatch z) (fun b o hb _ _ e _=>keep b o hb e) (fun b o hb _ _ e _=>⟨o.slots,keep b o hb e⟩) (fun b o _ e n=>?_) (fun b o _ e=>?_) (fun b xs e=>by rw [upd_ne (ntD b _ e)];exact e) (fun b o u e=>by rw [upd_ne (ntD b _ e)];exact e) (fun b ps e=>⟨#[],by rw [upd_ne (ntD b _ e),e];simp⟩) (fun m' hm'=>?_) (fun b u e=>?_) I1.bare
   ·have:b≠D:=fun z=>noD o (z ▸ e)
    rw [upd_ne this]
    exact n
   ·by_cases hb:b=X.env.locals
    ·obtain ⟨o',_,_,g1,_⟩:=F.ns
     exact ⟨o',hb ▸ g1⟩
    ·exact ⟨o,keep b o hb e⟩
   ·rw [ns_same hm' hns]
    exact F.ns
   ·by_cases hb:b=D
    ·subst hb
     rw [upd_same] at e
     cases e
     refine ⟨by rw [List.length_map,e1.length_eq];simpa using hz,out.toList,c,?_,hDo⟩
     rw [e2]
     exact refs_vals qs'
    ·rw [upd_ne hb] at e
     refine (I1.hok b u e).stay (fun c2 v hc q=>keep c2 v ?_ q) (fun c2 q=>by rw [upd_ne (ntD c2 _ q)];exact q) fun c2 xs q=>by rw [upd_ne (ntD c2 _ q)];exact q
     rcases hc with z | z
     ·rw [z];exact ntr b u e
     ·exact ntr c2 _ z
end
end L2
namespace Gw
open Sa54
structure Lv where
 br:Nat
 ended:List Word
 wr:Word
 hp:Bool
def endWord (l:Lv):Got Lv:=if l.hp=true then .ok ⟨l.br,l.ended++[l.wr],[],false⟩ else .error .wrong
def takeComma (l:Lv):Got Lv:=if l.br=40\/l.br=1 then .error .wrong else if l.br=91/\l.ended≠[] then .error .wrong else endWord l
def letterOf (ls:Bytes) (c:Nat):Option Letter:=match ls.idxOf? (if great c=true then c+32 else c) with
 | some i=>some (i,great c)
 | none=>none
def comm (x y:Word):Got Word:=if MOST<2*(x.length+y.length) then .error .full else .ok (x++y++inverse x++inverse y)
def endBr (br:Nat):List Lv->Got (List Word × List Lv)
 | []=>.error .wrong
 | l :: st=>if l.br=br then (endWord l).bind fun m=>.ok (m.ended,st) else .error .wrong
def endPart (ls:Bytes) (st:List Lv) (c:Nat):Got (Word × List Lv):=match letterOf ls c with
 | some l=>.ok ([l],st)
 | none=>if c=41 then (endBr 40 st).bind fun p=>.ok (p.1.headD [],p.2)
  else if c=93 then (endBr 91 st).bind fun p=>match p.1 with
   | x :: y :: _=>(comm x y).bind fun v=>.ok (v,p.2)
   | _=>.error .wrong
  else .error .wrong
def rep (n:Nat) (w:Word):Word:=(List.replicate n w).flatten
def addPart (st:List Lv) (p:Word) (n:Nat) (neg:Bool):Got (List Lv):=match st with
 | []=>.error .wrong
 | l :: r=>if MOST<l.wr.length+p.length*n then .error .full else .ok (⟨l.br,l.ended,l.wr++rep n (if neg=true then inverse p else p),true⟩ :: r)
def begin_ (st:List Lv) (c:Nat):Got (List Lv):=if 32<st.length then .error .wrong else .ok (⟨c,[],[],false⟩ :: st)
def powZ (n:Nat) (neg:Bool):Int:=if neg=true then -(n:Int) else n
def leastZ (o:Nat) (z:Int):Int:=if 2*(z % (o:Int)) > (o:Int) then z % (o:Int)-(o:Int) else z % (o:Int)
def least:Nat->Nat × Bool->Nat × Bool
 | 0,q=>q
 | o+1,q=>((leastZ (o+1) (powZ q.1 q.2)).natAbs,decide (leastZ (o+1) (powZ q.1 q.2)<0))
def turn (ls:Bytes) (o:Nat) (st:List Lv) (c:Nat) (r:Bytes):Got (List Lv × Bytes):=
 if c=44 then (match st with
  | []=>.error .wrong
  | l :: t=>(takeComma l).bind fun m=>.ok (m :: t,r))
 else if c=40\/c=91 then (begin_ st c).bind fun t=>.ok (t,r)
 else (endPart ls st c).bind fun p=>(power r).bind fun q=>(addPart p.2 p.1 (least o q.1).1 (least o q.1).2).bind fun t=>.ok (t,q.2)
def fin:List Lv->Got (List Word)
 | [l]=>(endWord l).bind fun m=>.ok m.ended
 | _=>.error .wrong
def run (ls:Bytes) (o:Nat):Nat->List Lv->Bytes->Got (List Word)
 | _,st,[]=>fin st
 | 0,_,_ :: _=>.error .wrong
 | f+1,st,c :: r=>(turn ls o st c r).bind fun p=>run ls o f p.1 p.2
theorem pow_len {b:Bytes} {n:Nat × Bool} {q:Bytes} (h:power b=.ok (n,q)):q.length<=b.length:=by
 have key:∀ (no:Bool) (r:Bytes),r.length<=b.length->(if r.takeWhile digit=[] then (if no=true then (.error .wrong:Got ((Nat × Bool) × Bytes)) else .ok ((1,false),b))
   else if 3<(r.takeWhile digit).length then .error .wrong
   else .ok (((r.takeWhile digit).foldl (fun n c=>10*n+(c-48)) 0,no),r.drop (r.takeWhile digit).length))=.ok (n,q)->q.length<=b.length:=by
  intro no r hr h
  by_cases h1:r.takeWhile digit=[]
  ·rw [if_pos h1] at h
   cases no with
   | true=>cases h
   | false=>cases h;exact Nat.le_refl _
  ·rw [if_neg h1] at h
   by_cases h2:3<(r.takeWhile digit).length
   ·rw [if_pos h2] at h;cases h
   ·rw [if_neg h2] at h
    cases h
    rw [List.length_drop]
    omega
 refine key (b.head?==some 45) (if (b.head?==some 45)=true then b.drop 1 else b) ?_ h
 split
 ·rw [List.length_drop];omega
 ·exact Nat.le_refl _
theorem turn_len {ls:Bytes} {o:Nat} {st t:List Lv} {c:Nat} {r q:Bytes} (h:turn ls o st c r=.ok (t,q)):q.length<=r.length:=by
 unfold turn at h
 split at h
 ·cases st with
  | nil=>cases h
  | cons l u=>
   simp only at h
   cases e:takeComma l with
   | error _=>rw [e] at h;cases h
   | ok m=>rw [e] at h;cases h;exact Nat.le_refl _
 ·split at h
  ·cases e:begin_ st c with
   | error _=>rw [e] at h;cases h
   | ok m=>rw [e] at h;cases h;exact Nat.le_refl _
  ·cases e:endPart ls st c with
   | error _=>rw [e] at h;cases h
   | ok p=>
    rw [e] at h
    cases e2:power r with
    | error _=>simp only [Except.bind,e2] at h;cases h
    | ok n=>
     simp only [Except.bind,e2] at h
     cases e3:addPart p.2 p.1 (least o n.1).1 (least o n.1).2 with
     | error _=>rw [e3] at h;cases h
     | ok u=>rw [e3] at h;cases h;exact pow_len e2
theorem run_more (ls:Bytes) (o:Nat):∀ (f g:Nat) (st:List Lv) (b:Bytes),b.length<=f->b.length<=g->run ls o f st b=run ls o g st b
 | _,_,st,[],_,_=>by unfold run;rfl
 | 0,_,_,_ :: _,h,_=>by simp at h
 | _,0,_,_ :: _,_,h=>by simp at h
 | f+1,g+1,st,c :: r,h1,h2=>by
  simp only [run]
  cases e:turn ls o st c r with
  | error _=>rfl
  | ok p=>
   have hl:=turn_len (t:=p.1) (q:=p.2) (by rw [e])
   simp only [List.length_cons] at h1 h2
   exact run_more ls o f g p.1 p.2 (by omega) (by omega)
def go (ls:Bytes) (o:Nat) (st:List Lv) (b:Bytes):Got (List Word):=run ls o b.length st b
theorem go_nil (ls:Bytes) (o:Nat) (st:List Lv):go ls o st []=fin st:=by unfold go run;rfl
theorem go_cons (ls:Bytes) (o:Nat) (st:List Lv) (c:Nat) (r:Bytes):go ls o st (c :: r)=(turn ls o st c r).bind fun p=>go ls o p.1 p.2:=by
 show run ls o (r.length+1) st (c :: r)=_
 simp only [run]
 cases e:turn ls o st c r with
 | error _=>rfl
 | ok p=>exact run_more ls o _ _ p.1 p.2 (turn_len (by rw [e])) (Nat.le_refl _)
theorem turn0 (ls:Bytes) (st:List Lv) (c:Nat) (r:Bytes):turn ls 0 st c r=if c=44 then (match st with
  | []=>.error .wrong
  | l :: t=>(takeComma l).bind fun m=>.ok (m :: t,r))
 else if c=40\/c=91 then (begin_ st c).bind fun t=>.ok (t,r)
 else (endPart ls st c).bind fun p=>(power r).bind fun q=>(addPart p.2 p.1 q.1.1 q.1.2).bind fun t=>.ok (t,q.2):=rfl
theorem times_eq:∀ (n:Nat) (w:Word),times n w=if MOST<w.length*n then .error .full else .ok (rep n w)
 | 0,w=>by simp [times,rep,MOST]
 | n+1,w=>by
  simp only [times]
  rw [times_eq n w]
  by_cases h:MOST<w.length*n
  ·have h2:MOST<w.length*(n+1):=by rw [Nat.mul_succ];omega
   rw [if_pos h,if_pos h2];rfl
  ·rw [if_neg h]
   have hl:(rep n w).length=w.length*n:=by simp [rep,Nat.mul_comm]
   simp only [Except.bind,held,List.length_append,hl]
   rw [Nat.mul_succ]
   have e:rep n w++w=rep (n+1) w:=by
    unfold rep
    rw [List.replicate_succ',List.flatten_append]
    simp
   split
   ·rfl
   ·rw [e]
theorem rep_len (n:Nat) (w:Word):(rep n w).length=w.length*n:=by simp [rep,Nat.mul_comm]
theorem inv_len (w:Word):(inverse w).length=w.length:=by simp [inverse]
def starts (c:Nat):Prop:=small c=true\/great c=true\/c=40\/c=91
instance (c:Nat):Decidable (starts c):=by unfold starts;infer_instance
theorem letter_starts {ls:Bytes} (hs:ls.all small=true) {c:Nat} {l:Letter} (h:letterOf ls c=some l):small c=true\/great c=true:=by
 unfold letterOf at h
 by_cases g:great c=true
 ·exact .inr g
 ·rw [if_neg g] at h
  cases e:ls.idxOf? c with
  | none=>rw [e] at h;cases h
  | some i=>
   left
   have hm:c∈ls:=by
    have:=List.idxOf?_eq_none_iff (l:=ls) (a:=c)
    apply Classical.byContradiction
    intro hn
    rw [this.mpr hn] at e
    cases e
   exact List.all_eq_true.mp hs c hm
theorem bind_ok {α β:Type} (x:α) (f:α->Got β):(Except.ok x:Got α).bind f=f x:=rfl
theorem bind_err {α β:Type} (e:Fault) (f:α->Got β):(Except.error e:Got α).bind f=.error e:=rfl
theorem map_ok {α β:Type} (x:α) (f:α->β):(Except.ok x:Got α).map f=.ok (f x):=rfl
theorem held_full {w:Word} (h:MOST<w.length):held w=.error .full:=by unfold held;rw [if_pos h]
theorem held_ok {w:Word} (h:¬ MOST<w.length):held w=.ok w:=by unfold held;rw [if_neg h]
theorem bad_first {ls:Bytes} (hs:ls.all small=true) {lv:Lv} {st:List Lv} {c:Nat} {r:Bytes} (hp:lv.hp=false) (hc:¬ starts c):go ls 0 (lv :: st) (c :: r)=.error .wrong:=by
 have hew:endWord lv=.error .wrong:=by unfold endWord;rw [if_neg (by rw [hp];decide)]
 have hl:letterOf ls c=none:=by
  cases e:letterOf ls c with
  | none=>rfl
  | some l=>rcases letter_starts hs e with h | h<;>exact absurd (by unfold starts;simp [h]) hc
 have h40:¬ (c=40\/c=91):=fun h=>hc (by unfold starts;rcases h with h | h<;>simp [h])
 have heb:∀ br,endBr br (lv :: st)=.error .wrong:=by
  intro br
  show (if lv.br=br then (endWord lv).bind (fun m=>.ok (m.ended,st)) else .error .wrong)=_
  split
  ·rw [hew];rfl
  ·rfl
 rw [go_cons]
 rw [turn0]
 by_cases h44:c=44
 ·rw [if_pos h44]
  have:takeComma lv=.error .wrong:=by
   unfold takeComma
   rw [hew]
   split
   ·rfl
   ·split<;>rfl
  simp only [this,bind_err]
 ·rw [if_neg h44,if_neg h40]
  have:endPart ls (lv :: st) c=.error .wrong:=by
   unfold endPart
   rw [hl]
   simp only
   split
   ·rw [heb];rfl
   ·split
    ·rw [heb];rfl
    ·rfl
  rw [this];rfl
theorem bad_end {lv:Lv} {st:List Lv} {ls:Bytes} (h:lv.hp=false\/st≠[]):go ls 0 (lv :: st) []=.error .wrong:=by
 rw [go_nil]
 cases st with
 | nil=>
  rcases h with h | h
  ·simp only [fin,endWord,h];rfl
  ·exact absurd rfl h
 | cons a t=>rfl
theorem part_unfold (f d:Nat) (ls:Bytes) (c:Nat) (r:Bytes):part (f+1) d ls (c :: r) =
  (if c=40 then (if d=0 then .error .wrong else (word f (d-1) ls r).bind fun x=>match x.2 with
    | 41 :: q=>.ok (x.1,q)
    | _=>.error .wrong)
   else if c=91 then (if d=0 then .error .wrong else (word f (d-1) ls r).bind fun x=>match x.2 with
    | 44 :: q=>(word f (d-1) ls q).bind fun y=>(match y.2 with
     | 93 :: p=>(held (x.1++(y.1++(inverse x.1++inverse y.1)))).map fun v=>(v,p)
     | _=>.error .wrong)
    | _=>.error .wrong)
   else match ls.idxOf? (if great c=true then c+32 else c) with
    | some i=>.ok ([(i,great c)],r)
    | none=>.error .wrong:Got (Word × Bytes)).bind fun x=>(power x.2).bind fun n=>(times n.1.1 (if n.1.2=true then inverse x.1 else x.1)).map fun v=>(v,n.2):=by
 rw [part]
 rfl
def Stops (b:Bytes):Prop:=∀ c r,b=c :: r->¬ starts c
theorem close_part {ls:Bytes} {lv:Lv} {st:List Lv} {x:Word} {q:Bytes} {K:Got (List Word)}
  (hK:K=((power q).bind fun n=>(addPart (lv :: st) x n.1.1 n.1.2).bind fun t=>.ok (t,n.2)).bind fun p=>go ls 0 p.1 p.2) :
  K=match ((power q).bind fun n=>(times n.1.1 (if n.1.2=true then inverse x else x)).map fun v=>(v,n.2):Got (Word × Bytes)) with
   | .error e=>.error e
   | .ok (y,b')=>if MOST<lv.wr.length+y.length then .error .full else go ls 0 (⟨lv.br,lv.ended,lv.wr++y,true⟩ :: st) b':=by
 rw [hK]
 cases e:power q with
 | error z=>rfl
 | ok n=>
  simp only [bind_ok]
  rw [times_eq]
  have hi:(if n.1.2=true then inverse x else x).length=x.length:=by split<;>simp [inv_len]
  simp only [hi,addPart]
  by_cases h1:MOST<x.length*n.1.1
  ·rw [if_pos h1,if_pos (by omega)];rfl
  ·rw [if_neg h1]
   simp only [map_ok,rep_len,hi]
   by_cases h2:MOST<lv.wr.length+x.length*n.1.1
   ·rw [if_pos h2,if_pos h2];rfl
   ·rw [if_neg h2,if_neg h2];rfl
structure Eqv (ls:Bytes) (f:Nat):Prop where
 wd:∀ (d:Nat) (b:Bytes) (br:Nat) (en:List Word) (st:List Lv),2*b.length+2<=f->st.length+1+d=33 ->
  (go ls 0 (⟨br,en,[],false⟩ :: st) b=match word f d ls b with
   | .error e=>.error e
   | .ok (w,b')=>go ls 0 (⟨br,en,w,true⟩ :: st) b') /\
  ∀ w b',word f d ls b=.ok (w,b')->b'.length<b.length/\Stops b'/\w.length<=MOST
 mo:∀ (d:Nat) (b:Bytes) (br:Nat) (en:List Word) (v:Word) (st:List Lv),2*b.length+2<=f->st.length+1+d=33->v.length<=MOST ->
  (go ls 0 (⟨br,en,v,true⟩ :: st) b=match more f d ls v b with
   | .error e=>.error e
   | .ok (w,b')=>go ls 0 (⟨br,en,w,true⟩ :: st) b') /\
  ∀ w b',more f d ls v b=.ok (w,b')->b'.length<=b.length/\Stops b'/\w.length<=MOST
 pa:∀ (d:Nat) (b:Bytes) (lv:Lv) (st:List Lv),2*b.length+1<=f->st.length+1+d=33->(lv.hp=false\/∃ c r,b=c :: r/\starts c) ->
  (go ls 0 (lv :: st) b=match part f d ls b with
   | .error e=>.error e
   | .ok (x,b')=>if MOST<lv.wr.length+x.length then .error .full else go ls 0 (⟨lv.br,lv.ended,lv.wr++x,true⟩ :: st) b') /\
  ∀ w b',part f d ls b=.ok (w,b')->b'.length<b.length/\w.length<=MOST
theorem no_letter {ls:Bytes} (hs:ls.all small=true) {c:Nat} (hc:¬ starts c):letterOf ls c=none:=by
 cases e:letterOf ls c with
 | none=>rfl
 | some l=>rcases letter_starts hs e with h | h<;>exact absurd (by unfold starts;simp [h]) hc
theorem ns_ne {c:Nat} (hc:¬ starts c):¬ (c=40\/c=91):=fun h=>hc (by unfold starts;rcases h with h | h<;>simp [h])
theorem go_close {ls:Bytes} (hs:ls.all small=true) {st:List Lv} {c:Nat} {r:Bytes} (hc:¬ starts c) (h44:c≠44) :
  go ls 0 st (c :: r)=((endPart ls st c).bind fun p=>(power r).bind fun q=>(addPart p.2 p.1 q.1.1 q.1.2).bind fun t=>.ok (t,q.2)).bind fun p=>go ls 0 p.1 p.2:=by
 rw [go_cons]
 rw [turn0]
 rw [if_neg h44,if_neg (ns_ne hc)]
theorem after_round {ls:Bytes} (hs:ls.all small=true) {en:List Word} {w:Word} {st:List Lv} (h0:st≠[]):∀ {b:Bytes},Stops b->(∀ q,b≠41 :: q)->go ls 0 (⟨40,en,w,true⟩ :: st) b=.error .wrong
 | [],_,_=>bad_end (.inr h0)
 | c :: r,hb,hn=>by
  have hc:=hb c r rfl
  by_cases h44:c=44
  ·subst h44
   rw [go_cons]
   rfl
  ·rw [go_close hs hc h44]
   have:endPart ls (⟨40,en,w,true⟩ :: st) c=.error .wrong:=by
    unfold endPart
    rw [no_letter hs hc]
    have h41:c≠41:=fun e=>hn r (by rw [e])
    simp only [if_neg h41]
    split
    ·rfl
    ·rfl
   rw [this];rfl
theorem after_sq1 {ls:Bytes} (hs:ls.all small=true) {w:Word} {st:List Lv} (h0:st≠[]):∀ {b:Bytes},Stops b->(∀ q,b≠44 :: q)->go ls 0 (⟨91,[],w,true⟩ :: st) b=.error .wrong
 | [],_,_=>bad_end (.inr h0)
 | c :: r,hb,hn=>by
  have hc:=hb c r rfl
  have h44:c≠44:=fun e=>hn r (by rw [e])
  rw [go_close hs hc h44]
  have:endPart ls (⟨91,[],w,true⟩ :: st) c=.error .wrong:=by
   unfold endPart
   rw [no_letter hs hc]
   simp only
   split
   ·rfl
   ·split
    ·rfl
    ·rfl
  rw [this];rfl
theorem after_sq2 {ls:Bytes} (hs:ls.all small=true) {x w:Word} {st:List Lv} (h0:st≠[]):∀ {b:Bytes},Stops b->(∀ q,b≠93 :: q)->go ls 0 (⟨91,[x],w,true⟩ :: st) b=.error .wrong
 | [],_,_=>bad_end (.inr h0)
 | c :: r,hb,hn=>by
  have hc:=hb c r rfl
  by_cases h44:c=44
  ·subst h44
   rw [go_cons]
   rfl
  ·rw [go_close hs hc h44]
   have:endPart ls (⟨91,[x],w,true⟩ :: st) c=.error .wrong:=by
    unfold endPart
    rw [no_letter hs hc]
    have h93:c≠93:=fun e=>hn r (by rw [e])
    simp only [if_neg h93]
    split
    ·rfl
    ·rfl
   rw [this];rfl
theorem after_top {ls:Bytes} (hs:ls.all small=true) {en:List Word} {w:Word}:∀ {b:Bytes},Stops b->b≠[]->(∀ q,b≠44 :: q)->go ls 0 [⟨0,en,w,true⟩] b=.error .wrong
 | [],_,h,_=>absurd rfl h
 | c :: r,hb,_,hn=>by
  have hc:=hb c r rfl
  have h44:c≠44:=fun e=>hn r (by rw [e])
  rw [go_close hs hc h44]
  have:endPart ls [⟨0,en,w,true⟩] c=.error .wrong:=by
   unfold endPart
   rw [no_letter hs hc]
   simp only
   split
   ·rfl
   ·split
    ·rfl
    ·rfl
  rw [this];rfl
theorem pow_part {x:Word} {q b':Bytes} {w:Word} (h:((power q).bind fun n=>(times n.1.1 (if n.1.2=true then inverse x else x)).map fun v=>(v,n.2):Got (Word × Bytes))=.ok (w,b')) :
  b'.length<=q.length/\w.length<=MOST:=by
 cases e:power q with
 | error z=>rw [e] at h;cases h
 | ok n=>
  rw [e,bind_ok,times_eq] at h
  by_cases hl:MOST<(if n.1.2=true then inverse x else x).length*n.1.1
  ·rw [if_pos hl] at h;cases h
  ·rw [if_neg hl] at h
   cases h
   exact ⟨pow_len (n:=n.1) e,by rw [rep_len];omega⟩
theorem eqv_zero (ls:Bytes):Eqv ls 0:=⟨fun _ _ _ _ _ h=>by omega,fun _ _ _ _ _ _ h=>by omega,fun _ _ _ _ h=>by omega⟩
theorem part_step {ls:Bytes} (hs:ls.all small=true) {f:Nat} (ih:Eqv ls f) (d:Nat) (b:Bytes) (lv:Lv) (st:List Lv) (hf:2*b.length+1<=f+1) (hd:st.length+1+d=33) (hb:lv.hp=false\/∃ c r,b=c :: r/\starts c) :
  (go ls 0 (lv :: st) b=match part (f+1) d ls b with
   | .error e=>.error e
   | .ok (x,b')=>if MOST<lv.wr.length+x.length then .error .full else go ls 0 (⟨lv.br,lv.ended,lv.wr++x,true⟩ :: st) b') /\
  ∀ w b',part (f+1) d ls b=.ok (w,b')->b'.length<b.length/\w.length<=MOST:=by
 cases b with
 | nil=>
  have e:part (f+1) d ls []=.error .wrong:=by rw [part];rfl
  rw [e]
  refine ⟨?_,fun _ _ h=>by cases h⟩
  rcases hb with hb | ⟨c,r,h,_⟩
  ·exact bad_end (.inl hb)
  ·cases h
 | cons c r=>
  rw [part_unfold]
  simp only [List.length_cons] at hf
  by_cases h40:c=40
  ·subst h40
   rw [if_pos rfl,go_cons]
   have et:turn ls 0 (lv :: st) 40 r=(begin_ (lv :: st) 40).bind fun t=>.ok (t,r):=rfl
   rw [et]
   by_cases hd0:d=0
   ·rw [if_pos hd0]
    have:begin_ (lv :: st) 40=.error .wrong:=by unfold begin_;rw [if_pos (by simp;omega)]
    rw [this]
    exact ⟨rfl,fun _ _ h=>by cases h⟩
   ·rw [if_neg hd0]
    have:begin_ (lv :: st) 40=.ok (⟨40,[],[],false⟩ :: lv :: st):=by unfold begin_;rw [if_neg (by simp;omega)]
    rw [this,bind_ok,bind_ok]
    obtain ⟨h1,h2⟩:=ih.wd (d-1) r 40 [] (lv :: st) (by omega) (by simp;omega)
    show go ls 0 (⟨40,[],[],false⟩ :: lv :: st) r=_/\_
    rw [h1]
    cases ew:word f (d-1) ls r with
    | error e=>exact ⟨rfl,fun _ _ h=>by cases h⟩
    | ok x=>
     obtain ⟨w,b'⟩:=x
     obtain ⟨l1,l2,l3⟩:=h2 w b' ew
     simp only [bind_ok]
     by_cases hq:∃ q,b'=41 :: q
     ·obtain ⟨q,rfl⟩:=hq
      simp only [bind_ok]
      refine ⟨close_part ?_,fun w' b'' h=>?_⟩
      ·rw [go_close hs (by decide) (by decide)]
       have:endPart ls (⟨40,[],w,true⟩ :: lv :: st) 41=.ok (w,lv :: st):=by
        unfold endPart
        rw [no_letter hs (by decide)]
        rfl
       rw [this];rfl
      ·obtain ⟨k1,k2⟩:=pow_part h
       simp only [List.length_cons] at l1 ⊢
       exact ⟨by omega,k2⟩
     ·have hn:∀ q,b'≠41 :: q:=fun q e=>hq ⟨q,e⟩
      rw [after_round hs (by simp) l2 hn]
      have em:(match b' with
        | 41 :: q=>(.ok (w,q):Got (Word × Bytes))
        | _=>.error .wrong)=.error .wrong:=by
       split
       ·rename_i q;exact absurd rfl (hn q)
       ·rfl
      rw [em]
      exact ⟨rfl,fun _ _ h=>by cases h⟩
  ·rw [if_neg h40]
   by_cases h91:c=91
   ·subst h91
    rw [if_pos rfl,go_cons]
    have et:turn ls 0 (lv :: st) 91 r=(begin_ (lv :: st) 91).bind fun t=>.ok (t,r):=rfl
    rw [et]
    by_cases hd0:d=0
    ·rw [if_pos hd0]
     have:begin_ (lv :: st) 91=.error .wrong:=by unfold begin_;rw [if_pos (by simp;omega)]
     rw [this]
     exact ⟨rfl,fun _ _ h=>by cases h⟩
    ·rw [if_neg hd0]
     have:begin_ (lv :: st) 91=.ok (⟨91,[],[],false⟩ :: lv :: st):=by unfold begin_;rw [if_neg (by simp;omega)]
     rw [this,bind_ok,bind_ok]
     obtain ⟨h1,h2⟩:=ih.wd (d-1) r 91 [] (lv :: st) (by omega) (by simp;omega)
     show go ls 0 (⟨91,[],[],false⟩ :: lv :: st) r=_/\_
     rw [h1]
     cases ew:word f (d-1) ls r with
     | error e=>exact ⟨rfl,fun _ _ h=>by cases h⟩
     | ok x=>
      obtain ⟨w,b'⟩:=x
      obtain ⟨l1,l2,l3⟩:=h2 w b' ew
      simp only [bind_ok]
      by_cases hq:∃ q,b'=44 :: q
      ·obtain ⟨q,rfl⟩:=hq
       simp only [List.length_cons] at l1
       simp only
       obtain ⟨h3,h4⟩:=ih.wd (d-1) q 91 [w] (lv :: st) (by omega) (by simp;omega)
       have e44:go ls 0 (⟨91,[],w,true⟩ :: lv :: st) (44 :: q)=go ls 0 (⟨91,[w],[],false⟩ :: lv :: st) q:=by
        rw [go_cons]
        rfl
       rw [e44,h3]
       cases ey:word f (d-1) ls q with
       | error e=>exact ⟨rfl,fun _ _ h=>by cases h⟩
       | ok y=>
        obtain ⟨v,b2⟩:=y
        obtain ⟨m1,m2,m3⟩:=h4 v b2 ey
        simp only [bind_ok]
        by_cases hp:∃ p,b2=93 :: p
        ·obtain ⟨p,rfl⟩:=hp
         simp only [List.length_cons] at m1
         simp only
         have hl:(w++(v++(inverse w++inverse v))).length=2*(w.length+v.length):=by simp [inv_len];omega
         rw [go_close hs (by decide) (by decide)]
         have e93:endPart ls (⟨91,[w],v,true⟩ :: lv :: st) 93=(comm w v).bind fun z=>.ok (z,lv :: st):=by
          unfold endPart
          rw [no_letter hs (by decide)]
          rfl
         rw [e93]
         by_cases hm:MOST<2*(w.length+v.length)
         ·have:comm w v=.error .full:=by unfold comm;rw [if_pos hm]
          rw [this,held_full (by rw [hl];exact hm)]
          exact ⟨rfl,fun _ _ h=>by cases h⟩
         ·have:comm w v=.ok (w++(v++(inverse w++inverse v))):=by unfold comm;rw [if_neg hm];simp
          rw [this,held_ok (by rw [hl];exact hm)]
          simp only [bind_ok,map_ok]
          refine ⟨close_part rfl,fun w' b'' h=>?_⟩
          obtain ⟨k1,k2⟩:=pow_part h
          simp only [List.length_cons]
          exact ⟨by omega,k2⟩
        ·have hn:∀ p,b2≠93 :: p:=fun p e=>hp ⟨p,e⟩
         rw [after_sq2 hs (by simp) m2 hn]
         have em:(match b2 with
           | 93 :: p=>(held (w++(v++(inverse w++inverse v)))).map fun z=>(z,p)
           | _=>(.error .wrong:Got (Word × Bytes)))=.error .wrong:=by
          split
          ·rename_i p;exact absurd rfl (hn p)
          ·rfl
         rw [em]
         exact ⟨rfl,fun _ _ h=>by cases h⟩
      ·have hn:∀ q,b'≠44 :: q:=fun q e=>hq ⟨q,e⟩
       rw [after_sq1 hs (by simp) l2 hn]
       have em:(match b' with
         | 44 :: q=>(word f (d-1) ls q).bind fun y=>(match y.2 with
          | 93 :: p=>(held (w++(y.1++(inverse w++inverse y.1)))).map fun v=>(v,p)
          | _=>(.error .wrong:Got (Word × Bytes)))
         | _=>.error .wrong)=.error .wrong:=by
        split
        ·rename_i q;exact absurd rfl (hn q)
        ·rfl
       rw [em]
       exact ⟨rfl,fun _ _ h=>by cases h⟩
   ·rw [if_neg h91]
    by_cases hst:starts c
    ·have h44:c≠44:=fun e=>by subst e;exact absurd hst (by decide)
     rw [go_cons]
     rw [turn0]
     rw [if_neg h44,if_neg (by omega)]
     cases ei:ls.idxOf? (if great c=true then c+32 else c) with
     | some i=>
      have:endPart ls (lv :: st) c=.ok ([(i,great c)],lv :: st):=by unfold endPart letterOf;rw [ei]
      rw [this]
      simp only [bind_ok]
      refine ⟨close_part rfl,fun w' b'' h=>?_⟩
      obtain ⟨k1,k2⟩:=pow_part h
      simp only [List.length_cons]
      exact ⟨by omega,k2⟩
     | none=>
      have h41:c≠41:=fun e=>by subst e;exact absurd hst (by decide)
      have h93:c≠93:=fun e=>by subst e;exact absurd hst (by decide)
      have:endPart ls (lv :: st) c=.error .wrong:=by unfold endPart letterOf;rw [ei];simp only [if_neg h41,if_neg h93]
      rw [this]
      exact ⟨rfl,fun _ _ h=>by cases h⟩
    ·have hp:lv.hp=false:=by
      rcases hb with hb | ⟨c',r',h,h'⟩
      ·exact hb
      ·cases h;exact absurd h' hst
     rw [bad_first hs hp hst]
     have:=no_letter hs hst
     unfold letterOf at this
     cases ei:ls.idxOf? (if great c=true then c+32 else c) with
     | some i=>rw [ei] at this;cases this
     | none=>exact ⟨rfl,fun _ _ h=>by cases h⟩
theorem eqv_succ {ls:Bytes} (hs:ls.all small=true) {f:Nat} (ih:Eqv ls f):Eqv ls (f+1):=by
 refine ⟨fun d b br en st hf hd=>?_,fun d b br en v st hf hd hv=>?_,fun d b lv st hf hd hb=>part_step hs ih d b lv st hf hd hb⟩
 ·have eu:word (f+1) d ls b=(part f d ls b).bind fun x=>more f d ls x.1 x.2:=by rw [word]
  rw [eu]
  obtain ⟨h1,h2⟩:=ih.pa d b ⟨br,en,[],false⟩ st (by omega) hd (.inl rfl)
  rw [h1]
  cases ep:part f d ls b with
  | error e=>exact ⟨rfl,fun _ _ h=>by cases h⟩
  | ok x=>
   obtain ⟨x,b'⟩:=x
   obtain ⟨l1,l2⟩:=h2 x b' ep
   simp only [bind_ok,List.length_nil,Nat.zero_add,List.nil_append]
   rw [if_neg (by omega)]
   obtain ⟨h3,h4⟩:=ih.mo d b' br en x st (by omega) hd l2
   refine ⟨h3,fun w b2 h=>?_⟩
   obtain ⟨k1,k2,k3⟩:=h4 w b2 h
   exact ⟨by omega,k2,k3⟩
 ·cases b with
  | nil=>
   have eu:more (f+1) d ls v []=.ok (v,[]):=by rw [more]
   rw [eu]
   exact ⟨rfl,fun w b' h=>by cases h;exact ⟨Nat.le_refl _,(fun c r h=>by cases h),hv⟩⟩
  | cons c r=>
   have eu:more (f+1) d ls v (c :: r)=if small c=true\/great c=true\/c=40\/c=91 then (part f d ls (c :: r)).bind fun x=>(held (v++x.1)).bind fun u=>more f d ls u x.2 else .ok (v,c :: r):=by rw [more]
   rw [eu]
   by_cases hst:starts c
   ·rw [if_pos (show small c=true\/great c=true\/c=40\/c=91 from hst)]
    obtain ⟨h1,h2⟩:=ih.pa d (c :: r) ⟨br,en,v,true⟩ st (by omega) hd (.inr ⟨c,r,rfl,hst⟩)
    rw [h1]
    cases ep:part f d ls (c :: r) with
    | error e=>exact ⟨rfl,fun _ _ h=>by cases h⟩
    | ok x=>
     obtain ⟨x,b'⟩:=x
     obtain ⟨l1,l2⟩:=h2 x b' ep
     simp only [bind_ok]
     by_cases hm:MOST<v.length+x.length
     ·rw [if_pos hm,held_full (by rw [List.length_append];exact hm)]
      exact ⟨rfl,fun _ _ h=>by cases h⟩
     ·rw [if_neg hm,held_ok (by rw [List.length_append];exact hm)]
      simp only [bind_ok]
      obtain ⟨h3,h4⟩:=ih.mo d b' br en (v++x) st (by omega) hd (by rw [List.length_append];omega)
      refine ⟨h3,fun w b2 h=>?_⟩
      obtain ⟨k1,k2,k3⟩:=h4 w b2 h
      exact ⟨by omega,k2,k3⟩
   ·rw [if_neg (show ¬ (small c=true\/great c=true\/c=40\/c=91) from hst)]
    refine ⟨rfl,fun w b' h=>?_⟩
    cases h
    exact ⟨Nat.le_refl _,(fun c' r' h=>by cases h;exact hst),hv⟩
theorem eqv {ls:Bytes} (hs:ls.all small=true):∀ f,Eqv ls f
 | 0=>eqv_zero ls
 | f+1=>eqv_succ hs (eqv hs f)
theorem words_eq {ls:Bytes} (hs:ls.all small=true):∀ (f:Nat) (b:Bytes) (acc:List Word),b.length<f ->
  go ls 0 [⟨0,acc,[],false⟩] b=(words f ls b).map fun l=>acc++l
 | 0,_,_,h=>by omega
 | f+1,b,acc,h=>by
  have eu:words (f+1) ls b=(word (4*b.length+4) 32 ls b).bind fun x=>match x.2 with
   | []=>.ok [x.1]
   | 44 :: r=>(words f ls r).map fun l=>x.1 :: l
   | _=>.error .wrong:=by
   rw [words]
   rfl
  rw [eu]
  obtain ⟨h1,h2⟩:=(eqv hs (4*b.length+4)).wd 32 b 0 acc [] (by omega) rfl
  rw [h1]
  cases ew:word (4*b.length+4) 32 ls b with
  | error e=>rfl
  | ok x=>
   obtain ⟨w,b'⟩:=x
   obtain ⟨l1,l2,l3⟩:=h2 w b' ew
   simp only [bind_ok]
   cases b' with
   | nil=>rfl
   | cons c r=>
    by_cases h44:c=44
    ·subst h44
     simp only
     have e44:go ls 0 [⟨0,acc,w,true⟩] (44 :: r)=go ls 0 [⟨0,acc++[w],[],false⟩] r:=by rw [go_cons];rfl
     simp only [List.length_cons] at l1
     rw [e44,words_eq hs f r (acc++[w]) (by omega)]
     cases words f ls r with
     | error e=>rfl
     | ok l=>simp [map_ok]
    ·rw [after_top hs l2 (by simp) (fun q e=>h44 (by cases e;rfl))]
     split
     ·cases ‹_=[]›
     ·rename_i e;cases e;exact absurd rfl h44
     ·rfl
end Gw
namespace Gw
open Sa54
abbrev Rows:=List (List (Option Nat))
def ixL (l:Letter):Nat:=2*l.1+(if l.2=true then 1 else 0)
def getM (M:Rows) (j p:Nat):Option Nat:=(M.getD j []).getD p none
def stepP (M:Rows) (o:Option Nat) (l:Letter):Option Nat:=o.bind fun q=>getM M (ixL l) q
def moveP (M:Rows) (w:Word) (p:Nat):Option Nat:=w.foldl (stepP M) (some p)
def npm (M:Rows) (m:Nat) (ws:List Word):Bool:=ws.all fun w=>(List.range m).all fun p=>decide (moveP M w p=none)||decide (moveP M w p=some p)
structure MvOk (M:Rows) (k m:Nat):Prop where
 len:M.length=2*k
 row:∀ r∈M,r.length=m
 lt:∀ r∈M,∀ q,some q∈r->q<m
def WOk (k:Nat) (w:Word):Prop:=∀ l∈w,l.1<k
theorem getM_of {M:Rows} {j:Nat} {r:List (Option Nat)} (h:M[j]?=some r) (p:Nat):getM M j p=(r[p]?).getD none:=by
 have e:M.getD j []=r:=by rw [List.getD_eq_getElem?_getD,h];rfl
 unfold getM
 rw [e,List.getD_eq_getElem?_getD]
theorem getM_no {M:Rows} {j:Nat} (h:M[j]?=none) (p:Nat):getM M j p=none:=by
 have e:M.getD j []=[]:=by rw [List.getD_eq_getElem?_getD,h];rfl
 unfold getM
 rw [e];rfl
theorem getM_lt {M:Rows} {k m:Nat} (h:MvOk M k m) {j p q:Nat} (e:getM M j p=some q):q<m:=by
 cases hj:M[j]? with
 | none=>rw [getM_no hj] at e;cases e
 | some r=>
  rw [getM_of hj] at e
  cases e2:r[p]? with
  | none=>rw [e2] at e;cases e
  | some o=>
   rw [e2] at e
   have e:o=some q:=e
   subst e
   exact h.lt r (List.mem_of_getElem? hj) q (List.mem_of_getElem? e2)
theorem foldl_none (M:Rows):∀ w:Word,w.foldl (stepP M) none=none
 | []=>rfl
 | _ :: r=>by rw [List.foldl_cons];exact foldl_none M r
def fullM (u:Table) (n:Nat):Rows:=u.flatMap fun r=>[r.map some,(List.range n).map fun p=>some (r.idxOf p)]
theorem fullM_len (u:Table) (n:Nat):(fullM u n).length=2*u.length:=by
 unfold fullM
 induction u with
 | nil=>rfl
 | cons r t ih=>rw [List.flatMap_cons,List.length_append,ih];simp;omega
theorem fullM_at (n:Nat):∀ (u:Table) (i:Nat) (r:List Nat),u[i]?=some r->(fullM u n)[2*i]?=some (r.map some)/\(fullM u n)[2*i+1]?=some ((List.range n).map fun p=>some (r.idxOf p))
 | [],i,r,h=>by simp at h
 | x :: t,0,r,h=>by
  simp at h
  subst h
  exact ⟨rfl,rfl⟩
 | x :: t,i+1,r,h=>by
  have h:t[i]?=some r:=by simpa using h
  obtain ⟨h1,h2⟩:=fullM_at n t i r h
  have e:fullM (x :: t) n=x.map some :: ((List.range n).map fun p=>some (x.idxOf p)) :: fullM t n:=by unfold fullM;rw [List.flatMap_cons];rfl
  rw [e]
  exact ⟨by rw [show 2*(i+1)=2*i+2 by omega];simpa using h1,by rw [show 2*(i+1)+1=2*i+1+2 by omega];simpa using h2⟩
theorem isTable_row {k n:Nat} {u:Table} (h:isTable k n u=true):u.length=k/\∀ r∈u,r.length=n/\∀ p,p<n->p∈r:=by
 unfold isTable at h
 simp only [Bool.and_eq_true,beq_iff_eq,List.all_eq_true,List.mem_range,List.contains_iff_mem] at h
 exact ⟨h.1,fun r hr=>⟨(h.2 r hr).1,fun p hp=>(h.2 r hr).2 p hp⟩⟩
theorem nodup_sub_perm:∀ {l1 l2:List Nat},l1.Nodup->(∀ x∈l1,x∈l2)->l2.length<=l1.length->l1.Perm l2
 | [],l2,_,_,h=>by
  have:l2=[]:=List.length_eq_zero_iff.mp (by simpa using h)
  rw [this]
 | x :: t,l2,nd,hs,hl=>by
  have hx:x∈l2:=hs x (List.mem_cons_self ..)
  obtain ⟨a,b,rfl⟩:=List.append_of_mem hx
  have nd':=List.nodup_cons.mp nd
  have p:t.Perm (a++b):=nodup_sub_perm nd'.2 (fun y hy=>by
   have hy2:=hs y (List.mem_cons_of_mem _ hy)
   rcases List.mem_append.mp hy2 with z | z
   ·exact List.mem_append_left _ z
   ·rcases List.mem_cons.mp z with z | z
    ·subst z;exact absurd hy nd'.1
    ·exact List.mem_append_right _ z) (by simp at hl ⊢;omega)
  exact (p.cons x).trans List.perm_middle.symm
theorem row_perm {n:Nat} {r:List Nat} (hl:r.length=n) (h:∀ p,p<n->p∈r):r.Perm (List.range n):=
 (nodup_sub_perm List.nodup_range (fun x hx=>h x (List.mem_range.mp hx)) (by simp [hl])).symm
theorem row_nodup {n:Nat} {r:List Nat} (p:r.Perm (List.range n)):r.Nodup:=p.nodup_iff.mpr List.nodup_range
theorem row_lt {n:Nat} {r:List Nat} (p:r.Perm (List.range n)) {q:Nat} (h:q∈r):q<n:=List.mem_range.mp (p.mem_iff.mp h)
theorem row_len {n:Nat} {r:List Nat} (p:r.Perm (List.range n)):r.length=n:=by rw [p.length_eq,List.length_range]
theorem table_perm {k n:Nat} {u:Table} (h:isTable k n u=true):∀ r∈u,r.Perm (List.range n):=fun r hr=>row_perm ((isTable_row h).2 r hr).1 ((isTable_row h).2 r hr).2
theorem isTable_iff {k n:Nat} {u:Table}:isTable k n u=true↔u.length=k/\∀ r∈u,r.Perm (List.range n):=by
 refine ⟨fun h=>⟨(isTable_row h).1,table_perm h⟩,fun ⟨h1,h2⟩=>?_⟩
 unfold isTable
 simp only [Bool.and_eq_true,beq_iff_eq,List.all_eq_true,List.mem_range,List.contains_iff_mem]
 exact ⟨h1,fun r hr=>⟨row_len (h2 r hr),fun p hp=>(h2 r hr).mem_iff.mpr (List.mem_range.mpr hp)⟩⟩
theorem fullM_ok {k n:Nat} {u:Table} (h:isTable k n u=true):MvOk (fullM u n) k n:=by
 obtain ⟨h1,h2⟩:=isTable_iff.mp h
 refine ⟨by rw [fullM_len,h1],fun r hr=>?_,fun r hr q hq=>?_⟩
 ·obtain ⟨x,hx,hr⟩:=List.mem_flatMap.mp hr
  simp only [List.mem_cons,List.not_mem_nil,or_false] at hr
  rcases hr with z | z
  ·rw [z,List.length_map,row_len (h2 x hx)]
  ·rw [z,List.length_map,List.length_range]
 ·obtain ⟨x,hx,hr⟩:=List.mem_flatMap.mp hr
  simp only [List.mem_cons,List.not_mem_nil,or_false] at hr
  rcases hr with z | z
  ·rw [z] at hq
   obtain ⟨y,hy,e⟩:=List.mem_map.mp hq
   cases e
   exact row_lt (h2 x hx) hy
  ·rw [z] at hq
   obtain ⟨y,hy,e⟩:=List.mem_map.mp hq
   cases e
   have:List.idxOf y x<x.length:=List.idxOf_lt_length_iff.mpr ((h2 x hx).mem_iff.mpr hy)
   rw [row_len (h2 x hx)] at this
   exact this
theorem getM_full {k n:Nat} {u:Table} (h:isTable k n u=true) {l:Letter} (hl:l.1<k) {p:Nat} (hp:p<n):getM (fullM u n) (ixL l) p=some (moveBy u l p):=by
 obtain ⟨h1,h2⟩:=isTable_iff.mp h
 have hi:l.1<u.length:=by rw [h1];exact hl
 have e1:u[l.1]?=some u[l.1]:=List.getElem?_eq_getElem hi
 have hr:=h2 u[l.1] (List.getElem_mem hi)
 obtain ⟨f1,f2⟩:=fullM_at n u l.1 _ e1
 have hd:u.getD l.1 []=u[l.1]:=by rw [List.getD_eq_getElem?_getD,e1];rfl
 unfold moveBy ixL
 rw [hd]
 cases hb:l.2 with
 | true=>
  simp only [if_true]
  rw [getM_of f2,List.getElem?_map,List.getElem?_range hp]
  rfl
 | false=>
  simp only [Bool.false_eq_true,if_false,Nat.add_zero]
  have hp2:p<u[l.1].length:=by rw [row_len hr];exact hp
  rw [getM_of f1,List.getElem?_map,List.getElem?_eq_getElem hp2,List.getD_eq_getElem?_getD,List.getElem?_eq_getElem hp2]
  rfl
theorem moveBy_lt {k n:Nat} {u:Table} (h:isTable k n u=true) {l:Letter} (hl:l.1<k) {p:Nat} (hp:p<n):moveBy u l p<n:=getM_lt (fullM_ok h) (getM_full h hl hp)
theorem move_lt {k n:Nat} {u:Table} (h:isTable k n u=true):∀ {w:Word},WOk k w->∀ {p:Nat},p<n->move u w p<n
 | [],_,p,hp=>hp
 | l :: r,hw,p,hp=>by
  show move u r (moveBy u l p)<n
  exact move_lt h (fun x hx=>hw x (List.mem_cons_of_mem _ hx)) (moveBy_lt h (hw l (List.mem_cons_self ..)) hp)
theorem moveP_full {k n:Nat} {u:Table} (h:isTable k n u=true):∀ {w:Word},WOk k w->∀ {p:Nat},p<n->moveP (fullM u n) w p=some (move u w p)
 | [],_,p,_=>rfl
 | l :: r,hw,p,hp=>by
  show r.foldl (stepP (fullM u n)) (getM (fullM u n) (ixL l) p)=some (move u r (moveBy u l p))
  rw [getM_full h (hw l (List.mem_cons_self ..)) hp]
  exact moveP_full h (fun x hx=>hw x (List.mem_cons_of_mem _ hx)) (moveBy_lt h (hw l (List.mem_cons_self ..)) hp)
theorem npm_full {k n:Nat} {u:Table} (h:isTable k n u=true) {ws:List Word} (hw:∀ w∈ws,WOk k w):npm (fullM u n) n ws=ws.all (still u n):=by
 unfold npm
 rw [Bool.eq_iff_iff,List.all_eq_true,List.all_eq_true]
 refine forall_congr' fun w=>forall_congr' fun hm=>?_
 unfold still
 rw [List.all_eq_true,List.all_eq_true]
 refine forall_congr' fun p=>forall_congr' fun hp=>?_
 rw [moveP_full h (hw w hm) (List.mem_range.mp hp)]
 simp
theorem WOk.app {k:Nat} {a b:Word} (h1:WOk k a) (h2:WOk k b):WOk k (a++b):=fun l hl=>(List.mem_append.mp hl).elim (h1 l) (h2 l)
theorem WOk.inv {k:Nat} {a:Word} (h:WOk k a):WOk k (inverse a):=fun l hl=>by
 unfold inverse at hl
 obtain ⟨x,hx,rfl⟩:=List.mem_map.mp hl
 exact h x (List.mem_reverse.mp hx)
theorem WOk.rep {k:Nat} {a:Word} (h:WOk k a) (n:Nat):WOk k (rep n a):=fun l hl=>by
 unfold Gw.rep at hl
 obtain ⟨x,hx,hl⟩:=List.mem_flatten.mp hl
 rw [List.eq_of_mem_replicate hx] at hl
 exact h l hl
theorem letterOf_lt {ls:Bytes} {c:Nat} {l:Letter} (h:letterOf ls c=some l):l.1<ls.length:=by
 unfold letterOf at h
 cases e:ls.idxOf? (if great c=true then c+32 else c) with
 | none=>rw [e] at h;cases h
 | some i=>
  rw [e] at h
  cases h
  have:=List.findIdx?_eq_some_iff_findIdx_eq.mp e
  exact this.1
end Gw
namespace Gw
open Sa54
def bar (j:Nat):Nat:=if j % 2=0 then j+1 else j-1
theorem bar_bar (j:Nat):bar (bar j)=j:=by unfold bar;split<;>split<;>omega
theorem bar_ne (j:Nat):bar j≠j:=by unfold bar;split<;>omega
theorem bar_lt {j k:Nat} (h:j<2*k):bar j<2*k:=by unfold bar;split<;>omega
def letr (j:Nat):Letter:=(j / 2,j % 2==1)
theorem ixL_letr (j:Nat):ixL (letr j)=j:=by
 unfold ixL letr
 by_cases h:j % 2=1
 ·simp [h];omega
 ·have:j % 2=0:=by omega
  simp [this];omega
theorem letr_lt {j k:Nat} (h:j<2*k):(letr j).1<k:=by show j / 2<k;omega
def cell (u:Table) (j p:Nat):Nat:=moveBy u (letr j) p
theorem letr_bar (j:Nat):letr (bar j)=((letr j).1,!(letr j).2):=by
 unfold letr bar
 by_cases h:j % 2=0
 ·rw [if_pos h]
  have h1:(j+1) % 2=1:=by omega
  have h2:(j+1) / 2=j / 2:=by omega
  simp [h,h1,h2]
 ·rw [if_neg h]
  have h0:j % 2=1:=by omega
  have h1:(j-1) % 2=0:=by omega
  have h2:(j-1) / 2=j / 2:=by omega
  simp [h0,h1,h2]
theorem moveBy_inv {k n:Nat} {u:Table} (h:isTable k n u=true) {l:Letter} (hl:l.1<k) {p:Nat} (hp:p<n):moveBy u (l.1,!l.2) (moveBy u l p)=p:=by
 obtain ⟨h1,h2⟩:=isTable_iff.mp h
 have hi:l.1<u.length:=by rw [h1];exact hl
 have hd:u.getD l.1 []=u[l.1]:=by rw [List.getD_eq_getElem?_getD,List.getElem?_eq_getElem hi];rfl
 have hr:=h2 u[l.1] (List.getElem_mem hi)
 have hrl:=row_len hr
 unfold moveBy
 rw [hd]
 cases l.2 with
 | true=>
  simp only [Bool.not_true,Bool.false_eq_true,if_false,if_true]
  have hlt:u[l.1].idxOf p<u[l.1].length:=List.idxOf_lt_length_iff.mpr (hr.mem_iff.mpr (List.mem_range.mpr hp))
  rw [List.getD_eq_getElem?_getD,List.getElem?_eq_getElem hlt]
  exact List.getElem_idxOf hlt
 | false=>
  simp only [Bool.not_false,Bool.false_eq_true,if_false,if_true]
  have hlt:p<u[l.1].length:=by rw [hrl];exact hp
  rw [List.getD_eq_getElem?_getD,List.getElem?_eq_getElem hlt]
  have nd:=row_nodup hr
  exact nd.idxOf_getElem p hlt
theorem cell_lt {k n:Nat} {u:Table} (h:isTable k n u=true) {j:Nat} (hj:j<2*k) {p:Nat} (hp:p<n):cell u j p<n:=moveBy_lt h (letr_lt hj) hp
theorem cell_bar {k n:Nat} {u:Table} (h:isTable k n u=true) {j:Nat} (hj:j<2*k) {p:Nat} (hp:p<n):cell u (bar j) (cell u j p)=p:=by
 unfold cell
 rw [letr_bar]
 exact moveBy_inv h (letr_lt hj) hp
theorem cell_inj {k n:Nat} {u:Table} (h:isTable k n u=true) {j:Nat} (hj:j<2*k) {p q:Nat} (hp:p<n) (hq:q<n) (e:cell u j p=cell u j q):p=q:=by
 rw [<-cell_bar h hj hp,e,cell_bar h hj hq]
theorem getM_cell {k n:Nat} {u:Table} (h:isTable k n u=true) {j:Nat} (hj:j<2*k) {p:Nat} (hp:p<n):getM (fullM u n) j p=some (cell u j p):=by
 have:=getM_full h (letr_lt hj) hp
 rw [ixL_letr] at this
 exact this
def pl (M:Rows):Nat:=(M.getD 0 []).length
theorem MvOk.pl {M:Rows} {k m:Nat} (h:MvOk M k m) (hk:0<k):pl M=m:=by
 have h0:0<M.length:=by rw [h.len];omega
 unfold Gw.pl
 rw [List.getD_eq_getElem?_getD,List.getElem?_eq_getElem h0]
 exact h.row _ (List.getElem_mem h0)
def setM (M:Rows) (j p q:Nat):Rows:=M.set j ((M.getD j []).set p (some q))
def stepM (M:Rows) (j p q:Nat):Rows:=setM (setM M j p q) (bar j) q p
def placeM (M:Rows):Rows:=M.map fun r=>r++[none]
theorem getM_set {M:Rows} {k m:Nat} (h:MvOk M k m) {j p q:Nat} (hj:j<2*k) (hp:p<m) (j' p':Nat):getM (setM M j p q) j' p'=if j'=j/\p'=p then some q else getM M j' p':=by
 have hjl:j<M.length:=by rw [h.len];exact hj
 have e0:M.getD j []=M[j]:=by rw [List.getD_eq_getElem?_getD,List.getElem?_eq_getElem hjl];rfl
 have hrl:M[j].length=m:=h.row _ (List.getElem_mem hjl)
 unfold setM
 rw [e0]
 by_cases h1:j'=j
 ·subst h1
  rw [getM_of (by rw [List.getElem?_set_self hjl]) p',getM_of (List.getElem?_eq_getElem hjl) p']
  by_cases h2:p'=p
  ·subst h2
   rw [List.getElem?_set_self (by rw [hrl];exact hp),if_pos ⟨rfl,rfl⟩]
   rfl
  ·rw [List.getElem?_set_ne (fun z=>h2 z.symm),if_neg (fun z=>h2 z.2)]
 ·rw [if_neg (fun z=>h1 z.1)]
  cases e:M[j']? with
  | none=>rw [getM_no e,getM_no (by rw [List.getElem?_set_ne (fun z=>h1 z.symm)];exact e)]
  | some r=>rw [getM_of e,getM_of (by rw [List.getElem?_set_ne (fun z=>h1 z.symm)];exact e)]
theorem setM_ok {M:Rows} {k m:Nat} (h:MvOk M k m) {j p q:Nat} (hj:j<2*k) (hq:q<m):MvOk (setM M j p q) k m:=by
 have hjl:j<M.length:=by rw [h.len];exact hj
 have e0:M.getD j []=M[j]:=by rw [List.getD_eq_getElem?_getD,List.getElem?_eq_getElem hjl];rfl
 unfold setM
 rw [e0]
 refine ⟨by rw [List.length_set];exact h.len,fun r hr=>?_,fun r hr x hx=>?_⟩
 ·rcases List.mem_or_eq_of_mem_set hr with z | z
  ·exact h.row r z
  ·rw [z,List.length_set];exact h.row _ (List.getElem_mem hjl)
 ·rcases List.mem_or_eq_of_mem_set hr with z | z
  ·exact h.lt r z x hx
  ·rw [z] at hx
   rcases List.mem_or_eq_of_mem_set hx with y | y
   ·exact h.lt _ (List.getElem_mem hjl) x y
   ·cases y;exact hq
theorem stepM_ok {M:Rows} {k m:Nat} (h:MvOk M k m) {j p q:Nat} (hj:j<2*k) (hp:p<m) (hq:q<m):MvOk (stepM M j p q) k m:=setM_ok (setM_ok h hj hq) (bar_lt hj) hp
theorem getM_step {M:Rows} {k m:Nat} (h:MvOk M k m) {j p q:Nat} (hj:j<2*k) (hp:p<m) (hq:q<m) (j' p':Nat) :
  getM (stepM M j p q) j' p'=if j'=bar j/\p'=q then some p else if j'=j/\p'=p then some q else getM M j' p':=by
 unfold stepM
 rw [getM_set (setM_ok h hj hq) (bar_lt hj) hq,getM_set h hj hp]
theorem placeM_ok {M:Rows} {k m:Nat} (h:MvOk M k m):MvOk (placeM M) k (m+1):=by
 refine ⟨by unfold placeM;rw [List.length_map];exact h.len,fun r hr=>?_,fun r hr x hx=>?_⟩
 ·obtain ⟨y,hy,rfl⟩:=List.mem_map.mp hr
  rw [List.length_append,h.row y hy];rfl
 ·obtain ⟨y,hy,rfl⟩:=List.mem_map.mp hr
  rcases List.mem_append.mp hx with z | z
  ·have:=h.lt y hy x z;omega
  ·simp at z
theorem getM_place {M:Rows} {k m:Nat} (h:MvOk M k m) (j p:Nat):getM (placeM M) j p=if p<m then getM M j p else none:=by
 unfold placeM
 cases e:M[j]? with
 | none=>rw [getM_no (by rw [List.getElem?_map,e];rfl),getM_no e];split<;>rfl
 | some r=>
  have hr:=h.row r (List.mem_of_getElem? e)
  rw [getM_of (by rw [List.getElem?_map,e];rfl),getM_of e]
  by_cases hp:p<m
  ·rw [if_pos hp,List.getElem?_append_left (by rw [hr];exact hp)]
  ·rw [if_neg hp,List.getElem?_append_right (by rw [hr];omega)]
   cases hq:p-r.length with
   | zero=>rfl
   | succ x=>rfl
theorem getM_big {M:Rows} {k m:Nat} (h:MvOk M k m) {j p:Nat} (hp:m<=p):getM M j p=none:=by
 cases e:M[j]? with
 | none=>exact getM_no e p
 | some r=>
  have hr:=h.row r (List.mem_of_getElem? e)
  rw [getM_of e,List.getElem?_eq_none (by omega)]
  rfl
def mx (v:Nat->Option Nat):Nat->Nat
 | 0=>1
 | c+1=>match v c with
  | some q=>max (mx v c) (q+1)
  | none=>mx v c
theorem mx_congr {v v':Nat->Option Nat}:∀ {c:Nat},(∀ x,x<c->v x=v' x)->mx v c=mx v' c
 | 0,_=>rfl
 | c+1,h=>by
  have ih:=mx_congr (c:=c) fun x hx=>h x (by omega)
  simp only [mx]
  rw [ih,h c (by omega)]
def cv (M:Rows) (k c:Nat):Option Nat:=getM M (c % (2*k)) (c / (2*k))
def cvT (u:Table) (k c:Nat):Option Nat:=some (cell u (c % (2*k)) (c / (2*k)))
def Ord (v:Nat->Option Nat) (k c0:Nat):Prop:=∀ c,c<c0->c<2*k*mx v c/\∃ q,v c=some q/\q<=mx v c
def InOrd (u:Table) (k n:Nat):Prop:=Ord (cvT u k) k (2*k*n)/\mx (cvT u k) (2*k*n)=n
structure Good (M:Rows) (k m most:Nat):Prop where
 ok:MvOk M k m
 m1:1<=m
 le:m<=most
 inv:∀ j p q,j<2*k->getM M j p=some q->getM M (bar j) q=some p
 ord:∃ c0,c0<=2*k*m/\Ord (cv M k) k c0/\mx (cv M k) c0=m
theorem Good.on {M:Rows} {k m most:Nat} (G:Good M k m most) {c1:Nat} (h1:c1<=2*k*m) (hkn:∀ c,c<c1->cv M k c≠none) (hc:∀ c0,c0<=2*k*m->Ord (cv M k) k c0->mx (cv M k) c0=m->c0<=c1):Ord (cv M k) k c1/\mx (cv M k) c1=m:=by
 obtain ⟨c0,h0,ho,hm⟩:=G.ord
 have hle:=hc c0 h0 ho hm
 have key:∀ d,c0+d<=c1->Ord (cv M k) k (c0+d)/\mx (cv M k) (c0+d)=m:=by
  intro d
  induction d with
  | zero=>intro _;exact ⟨ho,hm⟩
  | succ d ih=>
   intro hd
   obtain ⟨i1,i2⟩:=ih (by omega)
   cases e:cv M k (c0+d) with
   | none=>exact absurd e (hkn _ (by omega))
   | some q=>
    have hq:q<m:=getM_lt G.ok e
    refine ⟨fun c hc=>?_,?_⟩
    ·by_cases z:c<c0+d
     ·exact i1 c z
     ·have z2:c=c0+d:=by omega
      subst z2
      exact ⟨by rw [i2];omega,q,e,by rw [i2];omega⟩
    ·show mx (cv M k) (c0+d+1)=m
     simp only [mx]
     rw [e,i2]
     simp only
     omega
 have:=key (c1-c0) (by omega)
 rw [show c0+(c1-c0)=c1 by omega] at this
 exact this
theorem Ord.before {v:Nat->Option Nat} {k c0 c1:Nat} (h:Ord v k c0) (e:v c1=none):c0<=c1:=by
 refine Nat.le_of_not_lt fun z=>?_
 obtain ⟨_,q,hq,_⟩:=h c1 z
 rw [e] at hq
 cases hq
structure Ext (u:Table) (k n:Nat) (M:Rows):Prop where
 le:pl M<=n
 at_:∀ j p q,j<2*k->getM M j p=some q->cell u j p=q
structure Sol (ws:List Word) (k most:Nat) (u:Table) (n:Nat):Prop where
 tb:isTable k n u=true
 n1:1<=n
 le:n<=most
 ord:InOrd u k n
 st:ws.all (still u n)=true
theorem ext_move {u:Table} {k n:Nat} {M:Rows} (h:Ext u k n M):∀ {w:Word},WOk k w->∀ {p q:Nat},moveP M w p=some q->move u w p=q
 | [],_,p,q,e=>by cases e;rfl
 | l :: r,hw,p,q,e=>by
  have e:r.foldl (stepP M) (getM M (ixL l) p)=some q:=e
  cases eg:getM M (ixL l) p with
  | none=>rw [eg,foldl_none] at e;cases e
  | some x=>
   rw [eg] at e
   have hl:=hw l (List.mem_cons_self ..)
   have hx:moveBy u l p=x:=by
    have z:=h.at_ (ixL l) p x (by unfold ixL;split<;>omega) eg
    unfold cell at z
    have el:letr (ixL l)=l:=by
     unfold letr ixL
     obtain ⟨i,b⟩:=l
     cases b
     ·simp
     ·have:(2*i+1) / 2=i:=by omega
      simp [this]
    rw [el] at z
    exact z
   show move u r (moveBy u l p)=q
   rw [hx]
   exact ext_move h (fun y hy=>hw y (List.mem_cons_of_mem _ hy)) e
theorem no_sol {ws:List Word} {k most n m:Nat} {u:Table} {M:Rows} (S:Sol ws k most u n) (hM:MvOk M k m) (hk:0<k) (hw:∀ w∈ws,WOk k w) (hn:npm M m ws=false):¬ Ext u k n M:=fun h=>by
 have hmn:m<=n:=by rw [<-hM.pl hk];exact h.le
 have z:npm M m ws=true:=by
  unfold npm
  rw [List.all_eq_true]
  intro w hwm
  rw [List.all_eq_true]
  intro p hp
  have hp:=List.mem_range.mp hp
  cases e:moveP M w p with
  | none=>simp
  | some q=>
   have e2:=ext_move h (hw w hwm) e
   have e3:=List.all_eq_true.mp (List.all_eq_true.mp S.st w hwm) p (List.mem_range.mpr (by omega))
   have e3:move u w p=p:=by simpa using e3
   rw [e2] at e3
   simp [e3]
 rw [hn] at z
 cases z
def tbl (M:Rows) (k:Nat):Table:=(List.range k).map fun i=>(M.getD (2*i) []).map fun o=>o.getD 0
theorem full_of {M:Rows} {k m most:Nat} (G:Good M k m most) (hc:∀ j p,j<2*k->p<m->getM M j p≠none):isTable k m (tbl M k)=true/\fullM (tbl M k) m=M:=by
 have rowAt:∀ j,j<2*k->∃ r,M[j]?=some r/\r.length=m/\∀ p,p<m->∃ q,r[p]?=some (some q)/\getM M j p=some q:=fun j hj=>by
  have hjl:j<M.length:=by rw [G.ok.len];exact hj
  refine ⟨M[j],List.getElem?_eq_getElem hjl,G.ok.row _ (List.getElem_mem hjl),fun p hp=>?_⟩
  have hr:=G.ok.row _ (List.getElem_mem hjl)
  have e1:=getM_of (List.getElem?_eq_getElem hjl) p
  have hpl:p<M[j].length:=by rw [hr];exact hp
  cases e:getM M j p with
  | none=>exact absurd e (hc j p hj hp)
  | some q=>
   rw [e,List.getElem?_eq_getElem hpl] at e1
   refine ⟨q,?_,rfl⟩
   rw [List.getElem?_eq_getElem hpl]
   exact congrArg some e1.symm
 have rowT:∀ i,i<k->∃ r,(tbl M k)[i]?=some r/\M[2*i]?=some (r.map some)/\r.length=m/\∀ p q,p<m->(r[p]?=some q↔getM M (2*i) p=some q):=fun i hi=>by
  obtain ⟨r,h1,h2,h3⟩:=rowAt (2*i) (by omega)
  have e0:M.getD (2*i) []=r:=by rw [List.getD_eq_getElem?_getD,h1];rfl
  have e1:(tbl M k)[i]?=some (r.map fun o=>o.getD 0):=by
   unfold tbl
   rw [List.getElem?_map,List.getElem?_range hi]
   show some ((M.getD (2*i) []).map _)=_
   rw [e0]
  refine ⟨_,e1,?_,by rw [List.length_map,h2],fun p q hp=>?_⟩
  ·rw [h1,List.map_map]
   congr 1
   conv=>lhs;rw [<-List.map_id r]
   refine List.map_congr_left fun o ho=>?_
   obtain ⟨p,hp⟩:=List.getElem?_of_mem ho
   have hpl:=(List.getElem?_eq_some_iff.mp hp).1
   obtain ⟨q,hq,_⟩:=h3 p (by omega)
   rw [hp] at hq
   cases hq
   rfl
  ·obtain ⟨x,hx,hg⟩:=h3 p hp
   rw [List.getElem?_map,hx,hg]
   simp
 have htb:isTable k m (tbl M k)=true:=by
  rw [isTable_iff]
  refine ⟨by unfold tbl;simp,fun r hr=>?_⟩
  obtain ⟨i,hi⟩:=List.getElem?_of_mem hr
  have hik:i<k:=by
   have:=(List.getElem?_eq_some_iff.mp hi).1
   unfold tbl at this
   simpa using this
  obtain ⟨r',e1,e2,e3,e4⟩:=rowT i hik
  rw [hi] at e1
  cases e1
  refine row_perm e3 fun p hp=>?_
  cases e:getM M (2*i+1) p with
  | none=>exact absurd e (hc _ _ (by omega) hp)
  | some q=>
   have z:=G.inv (2*i+1) p q (by omega) e
   have hb:bar (2*i+1)=2*i:=by unfold bar;split<;>omega
   rw [hb] at z
   exact List.mem_of_getElem? ((e4 q p (getM_lt G.ok e)).mpr z)
 refine ⟨htb,?_⟩
 obtain ⟨t1,t2⟩:=isTable_iff.mp htb
 apply List.ext_getElem?
 intro j
 by_cases hj:j<2*k
 ·have hi:j / 2<k:=by omega
  obtain ⟨r,e1,e2,e3,e4⟩:=rowT (j / 2) hi
  obtain ⟨f1,f2⟩:=fullM_at m (tbl M k) (j / 2) r e1
  by_cases hp:j % 2=0
  ·rw [show j=2*(j / 2) by omega,f1,e2]
  ·have hj2:j=2*(j / 2)+1:=by omega
   rw [hj2,f2]
   obtain ⟨r',g1,g2,g3⟩:=rowAt (2*(j / 2)+1) (by omega)
   rw [g1]
   congr 1
   apply List.ext_getElem?
   intro p
   by_cases hp2:p<m
   ·rw [List.getElem?_map,List.getElem?_range hp2]
    obtain ⟨q,x1,x2⟩:=g3 p hp2
    rw [x1]
    have z:=G.inv _ p q (by omega) x2
    have hb:bar (2*(j / 2)+1)=2*(j / 2):=by unfold bar;split<;>omega
    rw [hb] at z
    have z2:=(e4 q p (getM_lt G.ok x2)).mpr z
    have hmem:r∈tbl M k:=List.mem_of_getElem? e1
    have nd:=row_nodup (t2 r hmem)
    obtain ⟨hql,hqe⟩:=List.getElem?_eq_some_iff.mp z2
    have e5:=nd.idxOf_getElem q hql
    rw [hqe] at e5
    show some (some (r.idxOf p))=some (some q)
    rw [e5]
   ·rw [List.getElem?_eq_none (by simpa using Nat.le_of_not_lt hp2),List.getElem?_eq_none (by rw [g2];omega)]
 ·rw [List.getElem?_eq_none (by rw [fullM_len,t1];omega),List.getElem?_eq_none (by rw [G.ok.len];omega)]
end Gw
namespace Gw
open Sa54
def firstU (M:Rows) (k m:Nat):Option (Nat × Nat):=(List.range m).findSome? fun p=>(List.range (2*k)).findSome? fun j=>if getM M j p=none then some (p,j) else none
theorem findSome_none {α β:Type} {f:α->Option β} {l:List α} (h:l.findSome? f=none):∀ x∈l,f x=none:=by
 simpa using h
theorem find_range {β:Type} {f:Nat->Option β} {n:Nat} {b:β} (h:(List.range n).findSome? f=some b):∃ i,i<n/\f i=some b/\∀ i',i'<i->f i'=none:=by
 induction n with
 | zero=>simp at h
 | succ n ih=>
  rw [List.range_succ,List.findSome?_append] at h
  cases e:(List.range n).findSome? f with
  | some c=>
   rw [e] at h
   obtain ⟨i,h1,h2,h3⟩:=ih (by rw [e];exact h)
   exact ⟨i,by omega,h2,h3⟩
  | none=>
   rw [e] at h
   simp only [Option.none_or,List.findSome?_cons,List.findSome?_nil] at h
   refine ⟨n,by omega,?_,fun i' hi=>findSome_none e i' (List.mem_range.mpr hi)⟩
   cases e2:f n with
   | none=>rw [e2] at h;simp at h
   | some c=>rw [e2] at h;simpa using h
theorem firstU_none {M:Rows} {k m:Nat} (h:firstU M k m=none):∀ j p,j<2*k->p<m->getM M j p≠none:=fun j p hj hp e=>by
 have h1:=findSome_none h p (List.mem_range.mpr hp)
 have h2:=findSome_none h1 j (List.mem_range.mpr hj)
 rw [if_pos e] at h2
 cases h2
theorem firstU_some {M:Rows} {k m p j:Nat} (h:firstU M k m=some (p,j)):p<m/\j<2*k/\getM M j p=none/\∀ c,c<2*k*p+j->cv M k c≠none:=by
 obtain ⟨p',h1,h2,h3⟩:=find_range h
 obtain ⟨j',g1,g2,g3⟩:=find_range h2
 have hj:j'=j/\p'=p/\getM M j' p'=none:=by
  by_cases z:getM M j' p'=none
  ·rw [if_pos z] at g2
   cases g2
   exact ⟨rfl,rfl,z⟩
  ·rw [if_neg z] at g2
   cases g2
 obtain ⟨rfl,rfl,hn⟩:=hj
 refine ⟨h1,g1,hn,fun c hc=>?_⟩
 have hk:0<2*k:=by omega
 have hdm:=Nat.div_add_mod c (2*k)
 have hmod:=Nat.mod_lt c hk
 unfold cv
 by_cases hp:c / (2*k)<p'
 ·intro e
  have z:=findSome_none (h3 _ hp) (c % (2*k)) (List.mem_range.mpr hmod)
  rw [if_pos e] at z
  cases z
 ·have hle:c / (2*k)<=p':=by
   refine Nat.le_of_not_lt fun z=>?_
   have:2*k*(p'+1)<=2*k*(c / (2*k)):=Nat.mul_le_mul_left _ z
   rw [Nat.mul_succ] at this
   omega
  have he:c / (2*k)=p':=by omega
  rw [he] at hdm ⊢
  intro e
  have z:=g3 (c % (2*k)) (by omega)
  rw [if_pos e] at z
  cases z
theorem cell_ix {k p j:Nat} (hj:j<2*k):(2*k*p+j) % (2*k)=j/\(2*k*p+j) / (2*k)=p:=by
 constructor
 ·rw [Nat.mul_add_mod,Nat.mod_eq_of_lt hj]
 ·rw [Nat.mul_add_div (by omega),Nat.div_eq_of_lt hj];omega
theorem ix_lt {k p j m:Nat} (hj:j<2*k) (hp:p<m):2*k*p+j<2*k*m:=by
 have:2*k*(p+1)<=2*k*m:=Nat.mul_le_mul_left _ hp
 rw [Nat.mul_succ] at this
 omega
theorem step_good {B:Rows} {k m m' most p j q:Nat} (ok:MvOk B k m') (inv:∀ j p q,j<2*k->getM B j p=some q->getM B (bar j) q=some p) (hj:j<2*k) (hp:p<m) (hmm:m<=m') (hle:m'<=most) (h1:1<=m')
  (hq:q<m') (hqm:q<=m) (hmax:max m (q+1)=m') (n1:getM B j p=none) (n2:getM B (bar j) q=none) (ho:Ord (cv B k) k (2*k*p+j)) (hm:mx (cv B k) (2*k*p+j)=m):Good (stepM B j p q) k m' most:=by
 have hp':p<m':=by omega
 have gs:=getM_step ok hj hp' hq
 have ci:=cell_ix (p:=p) hj
 have same:∀ c,c<2*k*p+j->cv (stepM B j p q) k c=cv B k c:=fun c hc=>by
  unfold cv
  rw [gs]
  have hk:0<2*k:=by omega
  have hdm:=Nat.div_add_mod c (2*k)
  obtain ⟨_,x,hx,_⟩:=ho c hc
  have ne:getM B (c % (2*k)) (c / (2*k))≠none:=by
   have hx:getM B (c % (2*k)) (c / (2*k))=some x:=hx
   rw [hx];simp
  rw [if_neg (fun z=>ne (by rw [z.1,z.2];exact n2)),if_neg (fun z=>ne (by rw [z.1,z.2];exact n1))]
 have at1:cv (stepM B j p q) k (2*k*p+j)=some q:=by
  unfold cv
  rw [ci.1,ci.2,gs,if_neg (fun z=>bar_ne j z.1.symm),if_pos ⟨rfl,rfl⟩]
 have mxe:mx (cv (stepM B j p q) k) (2*k*p+j)=m:=by rw [mx_congr same];exact hm
 refine ⟨stepM_ok ok hj hp' hq,h1,hle,fun j' p' q' hj' e=>?_,2*k*p+j+1,?_,fun c hc=>?_,?_⟩
 ·rw [gs] at e ⊢
  by_cases c1:j'=bar j/\p'=q
  ·rw [if_pos c1] at e
   cases e
   rw [c1.1,bar_bar,if_neg (fun z=>bar_ne j z.1.symm),if_pos ⟨rfl,rfl⟩,c1.2]
  ·rw [if_neg c1] at e
   by_cases c2:j'=j/\p'=p
   ·rw [if_pos c2] at e
    cases e
    rw [c2.1,if_pos ⟨rfl,rfl⟩,c2.2]
   ·rw [if_neg c2] at e
    have z:=inv j' p' q' hj' e
    have d1:¬ (bar j'=bar j/\q'=q):=fun y=>by
     rw [y.1,y.2,n2] at z;cases z
    have d2:¬ (bar j'=j/\q'=p):=fun y=>by
     rw [y.1,y.2,n1] at z;cases z
    rw [if_neg d1,if_neg d2]
    exact z
 ·have:=ix_lt hj hp
  have:2*k*m<=2*k*m':=Nat.mul_le_mul_left _ hmm
  omega
 ·by_cases z:c<2*k*p+j
  ·obtain ⟨a1,x,a2,a3⟩:=ho c z
   have e:mx (cv (stepM B j p q) k) c=mx (cv B k) c:=mx_congr fun y hy=>same y (by omega)
   rw [e,same c z]
   exact ⟨a1,x,a2,a3⟩
  ·have z2:c=2*k*p+j:=by omega
   subst z2
   rw [mxe,at1]
   exact ⟨ix_lt hj hp,q,rfl,hqm⟩
 ·simp only [mx]
  rw [at1,mxe]
  simp only
  exact hmax
def kids (M:Rows) (k m most p j:Nat):List Rows:=((List.range m).filter fun t=>decide (getM M (bar j) t=none)).map (fun t=>stepM M j p t)++(if m<most then [stepM (placeM M) j p m] else [])
theorem place_cv {M:Rows} {k m:Nat} (h:MvOk M k m) {c:Nat} (hc:c<2*k*m) (hk:0<k):cv (placeM M) k c=cv M k c:=by
 unfold cv
 rw [getM_place h,if_pos]
 exact Nat.div_lt_of_lt_mul hc
theorem kids_good {M:Rows} {k m most p j:Nat} (G:Good M k m most) (hf:firstU M k m=some (p,j)):∀ K∈kids M k m most p j,∃ m',Good K k m' most/\∀ c,c<=2*k*p+j->cv K k c≠none:=by
 obtain ⟨hp,hj,hn,hkn⟩:=firstU_some hf
 have hk:0<k:=by omega
 have hc1:=ix_lt hj hp
 have hb:∀ c0,c0<=2*k*m->Ord (cv M k) k c0->mx (cv M k) c0=m->c0<=2*k*p+j:=fun c0 _ ho _=>ho.before (by
  unfold cv
  rw [(cell_ix hj).1,(cell_ix hj).2]
  exact hn)
 obtain ⟨o1,o2⟩:=G.on (Nat.le_of_lt hc1) hkn hb
 have m1:=G.m1
 have le:=G.le
 have known:∀ (B:Rows) (m' q:Nat),Good (stepM B j p q) k m' most->MvOk B k m'->q<m'->p<m'->(∀ c,c<2*k*p+j->cv B k c≠none)->getM B (bar j) q=none->getM B j p=none->∀ c,c<=2*k*p+j->cv (stepM B j p q) k c≠none:=by
  intro B m' q _ okB hq hp' hkB n2 n1 c hc
  unfold cv
  rw [getM_step okB hj hp' hq]
  by_cases z:c=2*k*p+j
  ·rw [z,(cell_ix hj).1,(cell_ix hj).2,if_neg (fun z=>bar_ne j z.1.symm),if_pos ⟨rfl,rfl⟩]
   simp
  ·have ne:=hkB c (by omega)
   unfold cv at ne
   rw [if_neg (fun z=>ne (by rw [z.1,z.2];exact n2)),if_neg (fun z=>ne (by rw [z.1,z.2];exact n1))]
   exact ne
 intro K hK
 unfold kids at hK
 rcases List.mem_append.mp hK with hK | hK
 ·obtain ⟨t,ht,rfl⟩:=List.mem_map.mp hK
  obtain ⟨ht1,ht2⟩:=List.mem_filter.mp ht
  have ht1:=List.mem_range.mp ht1
  have ht2:getM M (bar j) t=none:=of_decide_eq_true ht2
  have g:=step_good (most:=most) G.ok G.inv hj hp (Nat.le_refl m) le m1 ht1 (by omega) (by omega) hn ht2 o1 o2
  exact ⟨m,g,known M m t g G.ok ht1 hp hkn ht2 hn⟩
 ·split at hK
  ·rename_i hlt
   rw [List.mem_singleton.mp hK]
   have okP:=placeM_ok G.ok
   have invP:∀ j p q,j<2*k->getM (placeM M) j p=some q->getM (placeM M) (bar j) q=some p:=fun j' p' q' hj' e=>by
    rw [getM_place G.ok] at e ⊢
    split at e
    ·have z:=G.inv j' p' q' hj' e
     rw [if_pos (getM_lt G.ok e)]
     exact z
    ·cases e
   have nP:getM (placeM M) j p=none:=by rw [getM_place G.ok,if_pos hp];exact hn
   have nQ:getM (placeM M) (bar j) m=none:=by rw [getM_place G.ok,if_neg (by omega)]
   have sameP:∀ c,c<2*k*p+j->cv (placeM M) k c=cv M k c:=fun c hc=>place_cv G.ok (by omega) hk
   have oP:Ord (cv (placeM M) k) k (2*k*p+j):=fun c hc=>by
    obtain ⟨a1,x,a2,a3⟩:=o1 c hc
    have e:mx (cv (placeM M) k) c=mx (cv M k) c:=mx_congr fun y hy=>sameP y (by omega)
    rw [e,sameP c hc]
    exact ⟨a1,x,a2,a3⟩
   have mP:mx (cv (placeM M) k) (2*k*p+j)=m:=by rw [mx_congr sameP];exact o2
   have g:=step_good (m:=m) (most:=most) okP invP hj hp (by omega) hlt (by omega) (by omega:m<m+1) (Nat.le_refl m) (by omega) nP nQ oP mP
   exact ⟨m+1,g,known (placeM M) (m+1) m g okP (by omega) (by omega) (fun c hc=>by rw [sameP c hc];exact hkn c hc) nQ nP⟩
  ·simp at hK
theorem ext_step {u:Table} {k n m':Nat} {B:Rows} {j p q:Nat} (htb:isTable k n u=true) (ok:MvOk B k m') (hk:0<k) (hj:j<2*k) (hp:p<m') (hq:q<m') (hn:m'<=n) (hB:∀ j p q,j<2*k->getM B j p=some q->cell u j p=q) (hc:cell u j p=q):Ext u k n (stepM B j p q):=by
 refine ⟨by rw [(stepM_ok ok hj hp hq).pl hk];exact hn,fun j' p' q' hj' e=>?_⟩
 rw [getM_step ok hj hp hq] at e
 split at e
 ·rename_i h
  cases e
  rw [h.1,h.2,<-hc]
  exact cell_bar htb hj (by omega)
 ·split at e
  ·rename_i h
   cases e
   rw [h.1,h.2]
   exact hc
  ·exact hB j' p' q' hj' e
theorem step_ext {u:Table} {k n m':Nat} {B:Rows} {j p q:Nat} (ok:MvOk B k m') (hj:j<2*k) (hp:p<m') (hq:q<m') (h:Ext u k n (stepM B j p q)):cell u j p=q:=
 h.at_ j p q hj (by rw [getM_step ok hj hp hq,if_neg (fun z=>bar_ne j z.1.symm),if_pos ⟨rfl,rfl⟩])
theorem sub_ext {u:Table} {k n m':Nat} {B:Rows} {j p q:Nat} (ok:MvOk B k m') (hj:j<2*k) (hp:p<m') (hq:q<m') (n1:getM B j p=none) (n2:getM B (bar j) q=none) (h:Ext u k n (stepM B j p q)):∀ j p q,j<2*k->getM B j p=some q->cell u j p=q:=fun j' p' q' hj' e=>by
 refine h.at_ j' p' q' hj' ?_
 rw [getM_step ok hj hp hq]
 have d1:¬ (j'=bar j/\p'=q):=fun y=>by rw [y.1,y.2,n2] at e;cases e
 have d2:¬ (j'=j/\p'=p):=fun y=>by rw [y.1,y.2,n1] at e;cases e
 rw [if_neg d1,if_neg d2]
 exact e
theorem count_range_one (m q:Nat):(List.range m).countP (fun t=>decide (t=q))=if q<m then 1 else 0:=by
 induction m with
 | zero=>simp
 | succ m ih=>
  rw [List.range_succ,List.countP_append,ih]
  by_cases h1:q<m
  ·rw [if_pos h1,if_pos (by omega)]
   have:m≠q:=by omega
   simp [this]
  ·rw [if_neg h1]
   by_cases h2:q=m
   ·subst h2
    simp
   ·have:m≠q:=by omega
    rw [if_neg (by omega)]
    simp [this]
open Classical in
theorem kids_count {ws:List Word} {M:Rows} {k m most p j n:Nat} {u:Table} (S:Sol ws k most u n) (G:Good M k m most) (hf:firstU M k m=some (p,j)) :
  (kids M k m most p j).countP (fun K=>decide (Ext u k n K))=if Ext u k n M then 1 else 0:=by
 obtain ⟨hp,hj,hn,hkn⟩:=firstU_some hf
 have hk:0<k:=by omega
 have hc1:=ix_lt hj hp
 have okP:=placeM_ok G.ok
 have nP:getM (placeM M) j p=none:=by rw [getM_place G.ok,if_pos hp];exact hn
 have nQ:getM (placeM M) (bar j) m=none:=by rw [getM_place G.ok,if_neg (by omega)]
 have back1:∀ t,t<m->getM M (bar j) t=none->Ext u k n (stepM M j p t)->Ext u k n M:=fun t ht h2 h=>by
  refine ⟨?_,sub_ext G.ok hj hp ht hn h2 h⟩
  have:=h.le
  rw [(stepM_ok G.ok hj hp ht).pl hk] at this
  rw [G.ok.pl hk]
  exact this
 have back2:Ext u k n (stepM (placeM M) j p m)->Ext u k n M/\cell u j p=m:=fun h=>by
  have z:=sub_ext okP hj (by omega) (by omega) nP nQ h
  refine ⟨⟨?_,fun j' p' q' hj' e=>z j' p' q' hj' ?_⟩,step_ext okP hj (by omega) (by omega) h⟩
  ·have:=h.le
   rw [(stepM_ok okP hj (by omega) (by omega)).pl hk] at this
   rw [G.ok.pl hk]
   omega
  ·rw [getM_place G.ok]
   have:p'<m:=by
    refine Nat.lt_of_not_le fun y=>?_
    rw [getM_big G.ok y] at e
    cases e
   rw [if_pos this]
   exact e
 unfold kids
 rw [List.countP_append,List.countP_map,List.countP_filter]
 by_cases hE:Ext u k n M
 ·rw [if_pos hE]
  have hmn:m<=n:=by rw [<-G.ok.pl hk];exact hE.le
  obtain ⟨q,hq⟩:∃ q,q=cell u j p:=⟨_,rfl⟩
  have hqn:q<n:=by rw [hq];exact cell_lt S.tb hj (by omega)
  have e1:(List.range m).countP (fun t=>((fun K=>decide (Ext u k n K))∘fun t=>stepM M j p t) t&&decide (getM M (bar j) t=none))=(List.range m).countP (fun t=>decide (t=q)):=by
   refine List.countP_congr fun t ht=>?_
   have ht:=List.mem_range.mp ht
   simp only [Function.comp,Bool.and_eq_true,decide_eq_true_eq]
   constructor
   ·rintro ⟨h1,h2⟩
    rw [hq]
    exact (step_ext G.ok hj hp ht h1).symm
   ·rintro rfl
    have hfree:getM M (bar j) t=none:=by
     cases e:getM M (bar j) t with
     | none=>rfl
     | some p'=>
      have z:=G.inv (bar j) t p' (bar_lt hj) e
      rw [bar_bar] at z
      have z2:=hE.at_ j p' t hj z
      have hp':p'<m:=getM_lt G.ok e
      have:=cell_inj S.tb hj (by omega) (by omega) (z2.trans hq)
      subst this
      rw [hn] at z
      cases z
    exact ⟨ext_step S.tb G.ok hk hj hp ht hmn hE.at_ hq.symm,hfree⟩
  rw [e1,count_range_one]
  by_cases hqm:q<m
  ·rw [if_pos hqm]
   have e2:(if m<most then [stepM (placeM M) j p m] else []).countP (fun K=>decide (Ext u k n K))=0:=by
    rw [List.countP_eq_zero]
    intro K hK
    split at hK
    ·rw [List.mem_singleton.mp hK]
     simp only [decide_eq_true_eq]
     intro h
     have:=(back2 h).2
     omega
    ·simp at hK
   rw [e2]
  ·rw [if_neg hqm]
   have hb:∀ c0,c0<=2*k*m->Ord (cv M k) k c0->mx (cv M k) c0=m->c0<=2*k*p+j:=fun c0 _ ho _=>ho.before (by
    unfold cv
    rw [(cell_ix hj).1,(cell_ix hj).2]
    exact hn)
   obtain ⟨o1,o2⟩:=G.on (Nat.le_of_lt hc1) hkn hb
   have agree:∀ c,c<2*k*p+j->cvT u k c=cv M k c:=fun c hc=>by
    cases e:cv M k c with
    | none=>exact absurd e (hkn c hc)
    | some x=>
     unfold cvT
     rw [hE.at_ _ _ x (Nat.mod_lt _ (by omega)) e]
   have hmx:mx (cvT u k) (2*k*p+j)=m:=by rw [mx_congr agree];exact o2
   have hlt:2*k*p+j<2*k*n:=ix_lt hj (by omega)
   obtain ⟨_,x,hx,hxle⟩:=S.ord.1 _ hlt
   unfold cvT at hx
   rw [(cell_ix hj).1,(cell_ix hj).2,<-hq] at hx
   cases hx
   rw [hmx] at hxle
   have hqe:q=m:=by omega
   have hmost:m<most:=by have:=S.le;omega
   rw [if_pos hmost]
   have hx:Ext u k n (stepM (placeM M) j p m):=ext_step S.tb okP hk hj (by omega) (by omega) (by omega) (fun j' p' q' hj' e=>by
    rw [getM_place G.ok] at e
    split at e
    ·exact hE.at_ j' p' q' hj' e
    ·cases e) (by rw [<-hq];exact hqe)
   simp [hx]
 ·rw [if_neg hE]
  have e1:(List.range m).countP (fun t=>((fun K=>decide (Ext u k n K))∘fun t=>stepM M j p t) t&&decide (getM M (bar j) t=none))=0:=by
   rw [List.countP_eq_zero]
   intro t ht
   have ht:=List.mem_range.mp ht
   simp only [Function.comp,Bool.and_eq_true,decide_eq_true_eq]
   rintro ⟨h1,h2⟩
   exact hE (back1 t ht h2 h1)
  have e2:(if m<most then [stepM (placeM M) j p m] else []).countP (fun K=>decide (Ext u k n K))=0:=by
   rw [List.countP_eq_zero]
   intro K hK
   split at hK
   ·rw [List.mem_singleton.mp hK]
    simp only [decide_eq_true_eq]
    intro h
    exact hE (back2 h).1
   ·simp at hK
  rw [e1,e2]
end Gw
namespace Gw
open Sa54
open Classical in
structure SI (ws:List Word) (k most:Nat) (found begun:List Rows):Prop where
 good:∀ x∈begun,∃ m,Good x k m most
 fnd:∀ x∈found,∃ u n,Sol ws k most u n/\x=fullM u n
 one:∀ u n,Sol ws k most u n->(found++begun).countP (fun K=>decide (Ext u k n K))=1
def firstM (k:Nat):Rows:=List.replicate (2*k) [none]
theorem firstM_ok (k:Nat):MvOk (firstM k) k 1:=by
 refine ⟨by simp [firstM],fun r hr=>?_,fun r hr q hq=>?_⟩
 ·rw [List.eq_of_mem_replicate hr];rfl
 ·rw [List.eq_of_mem_replicate hr] at hq;simp at hq
theorem firstM_none (k j p:Nat):getM (firstM k) j p=none:=by
 cases e:(firstM k)[j]? with
 | none=>exact getM_no e p
 | some r=>
  rw [getM_of e]
  rw [List.eq_of_mem_replicate (List.mem_of_getElem? e)]
  cases p with
  | zero=>rfl
  | succ p=>rfl
theorem SI.first {ws:List Word} {k most:Nat} (hk:0<k) (hm:1<=most):SI ws k most [] [firstM k]:=by
 refine ⟨fun x hx=>⟨1,?_⟩,fun x hx=>absurd hx (by simp),fun u n S=>?_⟩
 ·rw [List.mem_singleton.mp hx]
  exact ⟨firstM_ok k,Nat.le_refl _,hm,(fun j p q _ e=>by rw [firstM_none] at e;cases e),0,Nat.zero_le _,(fun c hc=>by omega),rfl⟩
 ·have:Ext u k n (firstM k):=⟨by rw [(firstM_ok k).pl hk];exact S.n1,fun j p q _ e=>by rw [firstM_none] at e;cases e⟩
  simp [this]
theorem SI.drop {ws:List Word} {k most:Nat} {found bs:List Rows} {M:Rows} {m:Nat} (h:SI ws k most found (bs++[M])) (hk:0<k) (hw:∀ w∈ws,WOk k w) (hM:MvOk M k m) (hn:npm M m ws=false):SI ws k most found bs:=by
 refine ⟨fun x hx=>h.good x (List.mem_append_left _ hx),h.fnd,fun u n S=>?_⟩
 have z:=h.one u n S
 rw [<-List.append_assoc,List.countP_append] at z
 have:=no_sol S hM hk hw hn
 simpa [this] using z
theorem complete_sol {ws:List Word} {M:Rows} {k m most:Nat} (G:Good M k m most) (hk:0<k) (hw:∀ w∈ws,WOk k w) (hf:firstU M k m=none) (hn:npm M m ws=true):Sol ws k most (tbl M k) m/\fullM (tbl M k) m=M:=by
 have hc:=firstU_none hf
 obtain ⟨t1,t2⟩:=full_of G hc
 have hkn:∀ c,c<2*k*m->cv M k c≠none:=fun c hc2=>hc _ _ (Nat.mod_lt _ (by omega)) (Nat.div_lt_of_lt_mul hc2)
 obtain ⟨o1,o2⟩:=G.on (Nat.le_refl _) hkn fun c0 h _ _=>h
 have agree:∀ c,c<2*k*m->cvT (tbl M k) k c=cv M k c:=fun c hc2=>by
  have z:=getM_cell t1 (j:=c % (2*k)) (Nat.mod_lt _ (by omega)) (p:=c / (2*k)) (Nat.div_lt_of_lt_mul hc2)
  rw [t2] at z
  unfold cvT cv
  exact z.symm
 refine ⟨⟨t1,G.m1,G.le,⟨fun c hc2=>?_,?_⟩,?_⟩,t2⟩
 ·obtain ⟨a1,q,a2,a3⟩:=o1 c hc2
  have e:mx (cvT (tbl M k) k) c=mx (cv M k) c:=mx_congr fun x hx=>agree x (by omega)
  rw [e,agree c hc2]
  exact ⟨a1,q,a2,a3⟩
 ·rw [mx_congr agree];exact o2
 ·rw [<-npm_full t1 hw,t2];exact hn
theorem SI.take {ws:List Word} {k most:Nat} {found bs:List Rows} {M:Rows} {m:Nat} (h:SI ws k most found (bs++[M])) (hk:0<k) (hw:∀ w∈ws,WOk k w) (G:Good M k m most) (hf:firstU M k m=none) (hn:npm M m ws=true):SI ws k most (found++[M]) bs:=by
 refine ⟨fun x hx=>h.good x (List.mem_append_left _ hx),fun x hx=>?_,fun u n S=>?_⟩
 ·rcases List.mem_append.mp hx with z | z
  ·exact h.fnd x z
  ·obtain ⟨s1,s2⟩:=complete_sol G hk hw hf hn
   exact ⟨_,_,s1,by rw [List.mem_singleton.mp z,s2]⟩
 ·have z:=h.one u n S
  rw [<-z]
  simp only [List.countP_append]
  omega
theorem SI.kids {ws:List Word} {k most:Nat} {found bs:List Rows} {M:Rows} {m p j:Nat} (h:SI ws k most found (bs++[M])) (G:Good M k m most) (hf:firstU M k m=some (p,j)):SI ws k most found (bs++Gw.kids M k m most p j):=by
 refine ⟨fun x hx=>?_,h.fnd,fun u n S=>?_⟩
 ·rcases List.mem_append.mp hx with z | z
  ·exact h.good x (List.mem_append_left _ z)
  ·obtain ⟨m',g,_⟩:=kids_good G hf x z
   exact ⟨m',g⟩
 ·have z:=h.one u n S
  rw [<-List.append_assoc,List.countP_append] at z ⊢
  rw [kids_count S G hf]
  by_cases hE:Ext u k n M
  ·rw [if_pos hE]
   simpa [hE] using z
  ·rw [if_neg hE]
   simpa [hE] using z
def fidx (M:Rows) (k most:Nat):Nat:=match firstU M k (pl M) with
 | some (p,j)=>2*k*p+j
 | none=>2*k*most
def wt (k most:Nat) (M:Rows):Nat:=(most+2) ^ (2*k*most-fidx M k most)
theorem wt_pos (k most:Nat) (M:Rows):0<wt k most M:=Nat.pow_pos (by omega)
theorem kids_len (M:Rows) (k m most p j:Nat):(kids M k m most p j).length<=m+1:=by
 unfold kids
 rw [List.length_append,List.length_map]
 have h1:((List.range m).filter fun t=>decide (getM M (bar j) t=none)).length<=m:=by
  have:=List.length_filter_le (fun t=>decide (getM M (bar j) t=none)) (List.range m)
  rwa [List.length_range] at this
 split<;>simp<;>omega
theorem sum_le {α:Type} (f:α->Nat) (b:Nat):∀ l:List α,(∀ x∈l,f x<=b)->(l.map f).sum<=l.length*b
 | [],_=>by simp
 | x :: t,h=>by
  have:=sum_le f b t fun y hy=>h y (List.mem_cons_of_mem _ hy)
  have h2:=h x (List.mem_cons_self ..)
  rw [List.map_cons,List.sum_cons,List.length_cons,Nat.succ_mul]
  omega
theorem kids_wt {M:Rows} {k m most p j:Nat} (G:Good M k m most) (hk:0<k) (hf:firstU M k m=some (p,j)):((kids M k m most p j).map (wt k most)).sum<wt k most M:=by
 obtain ⟨hp,hj,hn,hkn⟩:=firstU_some hf
 have hpl:=G.ok.pl hk
 have e0:fidx M k most=2*k*p+j:=by unfold fidx;rw [hpl,hf]
 have hlt:2*k*p+j<2*k*most:=by
  have:=ix_lt hj hp
  have:2*k*m<=2*k*most:=Nat.mul_le_mul_left _ G.le
  omega
 have hb:∀ K∈kids M k m most p j,wt k most K<=(most+2) ^ (2*k*most-(2*k*p+j)-1):=fun K hK=>by
  obtain ⟨m',g,hkn'⟩:=kids_good G hf K hK
  unfold wt
  refine Nat.pow_le_pow_right (by omega) ?_
  have hf':2*k*p+j+1<=fidx K k most:=by
   unfold fidx
   rw [g.ok.pl hk]
   cases e:firstU K k m' with
   | none=>simp only;omega
   | some x=>
    obtain ⟨p',j'⟩:=x
    obtain ⟨a1,a2,a3,_⟩:=firstU_some e
    simp only
    refine Nat.lt_of_not_le fun z=>hkn' _ z ?_
    unfold cv
    rw [(cell_ix a2).1,(cell_ix a2).2]
    exact a3
  omega
 have h1:=sum_le (wt k most) _ _ hb
 have h2:=kids_len M k m most p j
 have h3:wt k most M=(most+2) ^ (2*k*most-(2*k*p+j)-1)*(most+2):=by
  unfold wt
  rw [e0,<-Nat.pow_succ]
  congr 1
  omega
 rw [h3]
 have hpos:0<(most+2) ^ (2*k*most-(2*k*p+j)-1):=Nat.pow_pos (by omega)
 have h4:(kids M k m most p j).length<=most+1:=by have:=G.le;omega
 refine Nat.lt_of_le_of_lt (Nat.le_trans h1 (Nat.mul_le_mul_right _ h4)) ?_
 rw [Nat.mul_comm]
 exact Nat.mul_lt_mul_of_pos_left (by omega) hpos
theorem table_ext {k n:Nat} {u u':Table} (h:isTable k n u=true) (h':isTable k n u'=true) (e:∀ i p,i<k->p<n->cell u (2*i) p=cell u' (2*i) p):u=u':=by
 obtain ⟨a1,a2⟩:=isTable_iff.mp h
 obtain ⟨b1,b2⟩:=isTable_iff.mp h'
 apply List.ext_getElem?
 intro i
 by_cases hi:i<k
 ·have hiu:i<u.length:=by omega
  have hiu':i<u'.length:=by omega
  rw [List.getElem?_eq_getElem hiu,List.getElem?_eq_getElem hiu']
  congr 1
  have l1:=row_len (a2 _ (List.getElem_mem hiu))
  have l2:=row_len (b2 _ (List.getElem_mem hiu'))
  apply List.ext_getElem?
  intro p
  by_cases hp:p<n
  ·have z:=e i p hi hp
   unfold cell moveBy letr at z
   have z1:2*i / 2=i:=by omega
   have z2:(2*i % 2==1)=false:=by
    have:2*i % 2=0:=by omega
    rw [this];rfl
   simp only [z1,z2,Bool.false_eq_true,if_false] at z
   have g1:u.getD i []=u[i]:=by rw [List.getD_eq_getElem?_getD,List.getElem?_eq_getElem hiu];rfl
   have g2:u'.getD i []=u'[i]:=by rw [List.getD_eq_getElem?_getD,List.getElem?_eq_getElem hiu'];rfl
   rw [g1,g2] at z
   have hp1:p<u[i].length:=by omega
   have hp2:p<u'[i].length:=by omega
   rw [List.getD_eq_getElem?_getD,List.getElem?_eq_getElem hp1,List.getD_eq_getElem?_getD,List.getElem?_eq_getElem hp2] at z
   rw [List.getElem?_eq_getElem hp1,List.getElem?_eq_getElem hp2]
   exact congrArg some z
  ·rw [List.getElem?_eq_none (by omega),List.getElem?_eq_none (by omega)]
 ·rw [List.getElem?_eq_none (by omega),List.getElem?_eq_none (by omega)]
theorem ext_full {ws ws':List Word} {k most n n':Nat} {u u':Table} (hk:0<k) (S:Sol ws k most u n) (S':Sol ws' k most u' n') (h:Ext u k n (fullM u' n')):u=u'/\n=n':=by
 have hle:n'<=n:=by
  have:=h.le
  rw [(fullM_ok S'.tb).pl hk] at this
  exact this
 have agree:∀ j p,j<2*k->p<n'->cell u j p=cell u' j p:=fun j p hj hp=>h.at_ j p _ hj (getM_cell S'.tb hj hp)
 have en:n=n':=by
  refine Nat.le_antisymm (Nat.le_of_not_lt fun z=>?_) hle
  have e:∀ c,c<2*k*n'->cvT u k c=cvT u' k c:=fun c hc=>by
   unfold cvT
   rw [agree _ _ (Nat.mod_lt _ (by omega)) (Nat.div_lt_of_lt_mul hc)]
  have m1:mx (cvT u k) (2*k*n')=n':=by rw [mx_congr e];exact S'.ord.2
  have hlt:2*k*n'<2*k*n:=Nat.mul_lt_mul_of_pos_left z (by omega)
  have:=(S.ord.1 _ hlt).1
  rw [m1] at this
  omega
 subst en
 exact ⟨table_ext S.tb S'.tb fun i p hi hp=>agree _ _ (by omega) hp,rfl⟩
theorem ext_self {ws:List Word} {k most n:Nat} {u:Table} (hk:0<k) (S:Sol ws k most u n):Ext u k n (fullM u n):=by
 refine ⟨by rw [(fullM_ok S.tb).pl hk];exact Nat.le_refl _,fun j p q hj e=>?_⟩
 by_cases hp:p<n
 ·rw [getM_cell S.tb hj hp] at e
  exact Option.some.inj e
 ·rw [getM_big (fullM_ok S.tb) (Nat.le_of_not_lt hp)] at e
  cases e
theorem SI.all {ws:List Word} {k most:Nat} {found:List Rows} (hk:0<k) (h:SI ws k most found []) {u:Table} {n:Nat} (S:Sol ws k most u n):fullM u n∈found:=by
 have z:=h.one u n S
 rw [List.append_nil] at z
 have hp:0<found.countP (fun K=>@decide (Ext u k n K) (Classical.propDecidable _)):=by rw [z];exact Nat.one_pos
 obtain ⟨K,hK,hE⟩:=List.countP_pos_iff.mp hp
 have hE:Ext u k n K:=by simpa using hE
 obtain ⟨u',n',S',rfl⟩:=h.fnd K hK
 obtain ⟨e1,e2⟩:=ext_full hk S S' hE
 subst e1 e2
 exact hK
end Gw
namespace Gw
open Sa54
inductive P2 {α β:Type} (F:α->β->Prop):List α->List β->Prop
 | nil:P2 F [] []
 | cons {a:α} {b:β} {l:List α} {m:List β}:F a b->P2 F l m->P2 F (a :: l) (b :: m)
theorem P2.app {α β:Type} {F:α->β->Prop}:∀ {a:List α} {b:List β} {c:List α} {d:List β},P2 F a b->P2 F c d->P2 F (a++c) (b++d)
 | _,_,_,_,.nil,h=>h
 | _,_,_,_,.cons x y,h=>.cons x (P2.app y h)
theorem P2.len {α β:Type} {F:α->β->Prop}:∀ {a:List α} {b:List β},P2 F a b->a.length=b.length
 | _,_,.nil=>rfl
 | _,_,.cons _ y=>congrArg (·+1) (P2.len y)
theorem P2.left {α β:Type} {F:α->β->Prop}:∀ {a:List α} {b:List β},P2 F a b->∀ x∈a,∃ y∈b,F x y
 | _,_,.nil,x,h=>absurd h (by simp)
 | _,_,.cons f t,x,h=>by
  rcases List.mem_cons.mp h with z | z
  ·exact ⟨_,List.mem_cons_self ..,z ▸ f⟩
  ·obtain ⟨y,h1,h2⟩:=P2.left t x z
   exact ⟨y,List.mem_cons_of_mem _ h1,h2⟩
theorem P2.right {α β:Type} {F:α->β->Prop}:∀ {a:List α} {b:List β},P2 F a b->∀ y∈b,∃ x∈a,F x y
 | _,_,.nil,x,h=>absurd h (by simp)
 | _,_,.cons f t,x,h=>by
  rcases List.mem_cons.mp h with z | z
  ·exact ⟨_,List.mem_cons_self ..,z ▸ f⟩
  ·obtain ⟨y,h1,h2⟩:=P2.right t x z
   exact ⟨y,List.mem_cons_of_mem _ h1,h2⟩
theorem move_app (u:Table) (a b:Word) (p:Nat):move u (a++b) p=move u b (move u a p):=by unfold move;rw [List.foldl_append]
theorem move_one (u:Table) (l:Letter) (p:Nat):move u [l] p=moveBy u l p:=rfl
theorem inverse_cons (l:Letter) (w:Word):inverse (l :: w)=inverse w++[(l.1,!l.2)]:=by unfold inverse;simp
theorem inverse_inverse (w:Word):inverse (inverse w)=w:=by
 unfold inverse
 rw [<-List.map_reverse,List.reverse_reverse,List.map_map]
 conv=>rhs;rw [<-List.map_id w]
 refine List.map_congr_left fun l _=>?_
 simp
theorem move_inv {k n:Nat} {u:Table} (h:isTable k n u=true):∀ {w:Word},WOk k w->∀ {p:Nat},p<n->move u (inverse w) (move u w p)=p
 | [],_,p,_=>rfl
 | l :: r,hw,p,hp=>by
  have hl:=hw l (List.mem_cons_self ..)
  rw [inverse_cons,move_app,move_one]
  have e:move u (l :: r) p=move u r (moveBy u l p):=rfl
  rw [e,move_inv h (fun x hx=>hw x (List.mem_cons_of_mem _ hx)) (moveBy_lt h hl hp)]
  exact moveBy_inv h hl hp
theorem move_inv' {k n:Nat} {u:Table} (h:isTable k n u=true) {w:Word} (hw:WOk k w) {p:Nat} (hp:p<n):move u w (move u (inverse w) p)=p:=by
 have:=move_inv h hw.inv hp
 rwa [inverse_inverse] at this
def it (f:Nat->Nat):Nat->Nat->Nat
 | 0,p=>p
 | n+1,p=>it f n (f p)
theorem it_add (f:Nat->Nat):∀ (a b p:Nat),it f (a+b) p=it f b (it f a p)
 | 0,b,p=>by rw [Nat.zero_add];rfl
 | a+1,b,p=>by rw [Nat.succ_add];exact it_add f a b (f p)
theorem it_lt {f:Nat->Nat} {n:Nat} (h:∀ p,p<n->f p<n):∀ (a:Nat) {p:Nat},p<n->it f a p<n
 | 0,_,hp=>hp
 | a+1,_,hp=>it_lt h a (h _ hp)
theorem it_inj {f:Nat->Nat} {n:Nat} (h:∀ p,p<n->f p<n) (hi:∀ p q,p<n->q<n->f p=f q->p=q):∀ (a:Nat) {p q:Nat},p<n->q<n->it f a p=it f a q->p=q
 | 0,_,_,_,_,e=>e
 | a+1,p,q,hp,hq,e=>hi p q hp hq (it_inj h hi a (h _ hp) (h _ hq) e)
theorem move_rep (u:Table) (w:Word):∀ (a p:Nat),move u (rep a w) p=it (move u w) a p
 | 0,p=>rfl
 | a+1,p=>by
  have e:rep (a+1) w=w++rep a w:=by unfold rep;rw [List.replicate_succ,List.flatten_cons]
  rw [e,move_app,move_rep u w a]
  rfl
def OrdOk (o n:Nat):Prop:=∀ d,1<=d->d<=n->d ∣ o
theorem orbit {f:Nat->Nat} {n:Nat} (h:∀ p,p<n->f p<n) (hi:∀ p q,p<n->q<n->f p=f q->p=q) {p:Nat} (hp:p<n):∃ d,1<=d/\d<=n/\it f d p=p:=by
 apply Classical.byContradiction
 intro hno
 have ne:∀ i j,i<j->j<=n->it f i p≠it f j p:=fun i j hij hj e=>by
  rw [show j=(j-i)+i by omega,it_add] at e
  have:=it_inj h hi i hp (it_lt h (j-i) hp) e
  exact hno ⟨j-i,by omega,by omega,this.symm⟩
 have nd:((List.range (n+1)).map fun i=>it f i p).Nodup:=by
  rw [List.nodup_iff_pairwise_ne,List.pairwise_map]
  refine List.Pairwise.imp_of_mem ?_ (List.pairwise_lt_range (n:=n+1))
  intro a b ha hb hab
  exact ne a b hab (by have:=List.mem_range.mp hb;omega)
 have pm:=nodup_sub_perm (l2:=List.range n) nd (fun x hx=>by
  obtain ⟨i,_,rfl⟩:=List.mem_map.mp hx
  exact List.mem_range.mpr (it_lt h i hp)) (by simp)
 have:=pm.length_eq
 simp at this
theorem it_mul {f:Nat->Nat} {d p:Nat} (h:it f d p=p):∀ t,it f (d*t) p=p
 | 0=>rfl
 | t+1=>by rw [Nat.mul_succ,it_add,it_mul h t,h]
theorem it_ord {f:Nat->Nat} {n o:Nat} (h:∀ p,p<n->f p<n) (hi:∀ p q,p<n->q<n->f p=f q->p=q) (ho:OrdOk o n) (t:Nat) {p:Nat} (hp:p<n):it f (o*t) p=p:=by
 obtain ⟨d,h1,h2,h3⟩:=orbit h hi hp
 obtain ⟨e,he⟩:=ho d h1 h2
 rw [he,Nat.mul_assoc]
 exact it_mul h3 _
def zpow (w:Word) (z:Int):Word:=rep z.natAbs (if z<0 then inverse w else w)
theorem inv_it {k n:Nat} {u:Table} (h:isTable k n u=true) {w:Word} (hw:WOk k w):∀ (a:Nat) {p:Nat},p<n->it (move u w) a (it (move u (inverse w)) a p)=p
 | 0,_,_=>rfl
 | a+1,p,hp=>by
  have e1:it (move u (inverse w)) (a+1) p=move u (inverse w) (it (move u (inverse w)) a p):=by rw [it_add];rfl
  have hlt:∀ q,q<n->move u (inverse w) q<n:=fun q hq=>move_lt h hw.inv hq
  rw [e1]
  show it (move u w) a (move u w (move u (inverse w) (it (move u (inverse w)) a p)))=p
  rw [move_inv' h hw (it_lt hlt a hp)]
  exact inv_it h hw a hp
theorem move_zpow {k n o:Nat} {u:Table} (h:isTable k n u=true) {w:Word} (hw:WOk k w) (ho:OrdOk o n) (h0:0<o) (z:Int) {p:Nat} (hp:p<n):move u (zpow w z) p=it (move u w) (z % (o:Int)).toNat p:=by
 have hlt:∀ q,q<n->move u w q<n:=fun q hq=>move_lt h hw hq
 have hinj:∀ p q,p<n->q<n->move u w p=move u w q->p=q:=fun p q hp hq e=>by
  rw [<-move_inv h hw hp,e,move_inv h hw hq]
 have hm1:=Int.emod_nonneg z (show (o:Int)≠0 by omega)
 have hdm:=Int.emod_add_mul_ediv z (o:Int)
 unfold zpow
 rw [move_rep]
 by_cases hz:z<0
 ·rw [if_pos hz]
  obtain ⟨q,hq⟩:∃ q,q=it (move u (inverse w)) z.natAbs p:=⟨_,rfl⟩
  have hqn:q<n:=by rw [hq];exact it_lt (fun q hq=>move_lt h hw.inv hq) _ hp
  have e1:it (move u w) z.natAbs q=p:=by rw [hq];exact inv_it h hw _ hp
  have ht:z / (o:Int)<=0:=by
   have:z / (o:Int)<0:=Int.ediv_neg_of_neg_of_pos hz (by omega)
   omega
  obtain ⟨t,ht2⟩:∃ t:Nat,z / (o:Int) = -(t:Int):=⟨(z / (o:Int)).natAbs,by omega⟩
  have e2:z.natAbs+(z % (o:Int)).toNat=o*t:=by
   rw [ht2,Int.mul_neg] at hdm
   have:(z.natAbs:Int)+((z % (o:Int)).toNat:Int)=(o:Int)*(t:Int):=by omega
   exact_mod_cast this
  rw [<-hq,<-e1,<-it_add,e2,it_ord hlt hinj ho t hqn]
 ·rw [if_neg hz]
  obtain ⟨t,ht2⟩:∃ t:Nat,z / (o:Int)=(t:Int):=⟨(z / (o:Int)).toNat,by have:=Int.ediv_nonneg (show 0<=z by omega) (show (0:Int)<=o by omega);omega⟩
  have e2:z.natAbs=o*t+(z % (o:Int)).toNat:=by
   rw [ht2] at hdm
   have:(z.natAbs:Int)=(o:Int)*(t:Int)+((z % (o:Int)).toNat:Int):=by omega
   exact_mod_cast this
  rw [e2,it_add,it_ord hlt hinj ho t hp]
structure Rw (k o most:Nat) (w w':Word):Prop where
 len:w'.length<=w.length
 ok:WOk k w
 ok':WOk k w'
 mv:∀ (u:Table) (n:Nat),isTable k n u=true->n<=most->∀ p,p<n->move u w' p=move u w p
section
variable {k o most:Nat}
theorem Rw.nil:Rw k o most [] []:=⟨Nat.le_refl _,fun _ h=>absurd h (by simp),fun _ h=>absurd h (by simp),fun _ _ _ _ _ _=>rfl⟩
theorem Rw.app {a a' b b':Word} (h:Rw k o most a a') (g:Rw k o most b b'):Rw k o most (a++b) (a'++b'):=
 ⟨by have:=h.len;have:=g.len;simp only [List.length_append];omega,h.ok.app g.ok,h.ok'.app g.ok',fun u n ht hn p hp=>by rw [move_app,move_app,h.mv u n ht hn p hp,g.mv u n ht hn _ (move_lt ht h.ok hp)]⟩
theorem Rw.inv {a a':Word} (h:Rw k o most a a'):Rw k o most (inverse a) (inverse a'):=
 ⟨by rw [inv_len,inv_len];exact h.len,h.ok.inv,h.ok'.inv,fun u n ht hn p hp=>by
  have hq:move u (inverse a) p<n:=move_lt ht h.ok.inv hp
  have e1:=move_inv' ht h.ok hp
  have e2:=h.mv u n ht hn _ hq
  rw [e1] at e2
  have e3:=move_inv ht h.ok' hq
  rw [e2] at e3
  exact e3⟩
theorem least_abs (o:Nat) (z:Int) (h:0<o):(leastZ o z).natAbs<=z.natAbs:=by
 have h1:=Int.emod_nonneg z (show (o:Int)≠0 by omega)
 have h2:=Int.emod_lt_of_pos z (show (0:Int)<o by omega)
 have h3:=Int.emod_add_mul_ediv z (o:Int)
 unfold leastZ
 generalize hr:z % (o:Int)=r at *
 generalize hq:z / (o:Int)=q at *
 by_cases hq0:q=0
 ·subst hq0
  simp only [Int.mul_zero,Int.add_zero] at h3
  split<;>omega
 ·by_cases hq1:q = -1
  ·subst hq1
   rw [Int.mul_neg,Int.mul_one] at h3
   split<;>omega
  ·have:(o:Int)<=z.natAbs:=by
    by_cases hp:0<q
    ·have:(o:Int)*1<=(o:Int)*q:=Int.mul_le_mul_of_nonneg_left (by omega) (by omega)
     omega
    ·have:(o:Int)*q<=(o:Int)*(-2):=Int.mul_le_mul_of_nonneg_left (by omega) (by omega)
     omega
   split<;>omega
theorem least_mod (o:Nat) (z:Int):leastZ o z % (o:Int)=z % (o:Int):=by
 unfold leastZ
 split
 ·rw [Int.sub_emod_right,Int.emod_emod]
 ·rw [Int.emod_emod]
theorem Rw.pow {a a':Word} (h:Rw k o most a a') (h0:0<o) (ho:∀ n,n<=most->OrdOk o n) (q:Nat × Bool):Rw k o most (rep q.1 (if q.2=true then inverse a else a)) (rep (least o q).1 (if (least o q).2=true then inverse a' else a')):=by
 obtain ⟨x,y⟩:=q
 obtain ⟨o,rfl⟩:∃ o',o=o'+1:=⟨o-1,by omega⟩
 have hl:(least (o+1) (x,y)).1=(leastZ (o+1) (powZ x y)).natAbs:=rfl
 have hs:(least (o+1) (x,y)).2=decide (leastZ (o+1) (powZ x y)<0):=rfl
 have ex:(powZ x y).natAbs=x:=by unfold powZ;split<;>omega
 have e2:rep (least (o+1) (x,y)).1 (if (least (o+1) (x,y)).2=true then inverse a' else a')=zpow a' (leastZ (o+1) (powZ x y)):=by
  rw [hl,hs]
  unfold zpow
  simp only [decide_eq_true_eq]
 have e1:rep x (if y=true then inverse a else a)=zpow a (powZ x y):=by
  unfold zpow
  rw [ex]
  by_cases h1:x=0
  ·subst h1;rfl
  ·unfold powZ
   cases y with
   | true=>rw [if_pos rfl,if_pos rfl,if_pos (by omega)]
   | false=>simp only [Bool.false_eq_true,if_false];rw [if_neg (by omega)]
 rw [e2]
 show Rw k (o+1) most (rep x (if y=true then inverse a else a)) _
 rw [e1]
 have hz:∀ (b:Word) (z:Int),(zpow b z).length=b.length*z.natAbs:=fun b z=>by
  unfold zpow
  rw [rep_len]
  split
  ·rw [inv_len]
  ·rfl
 have wz:∀ (b:Word) (z:Int),WOk k b->WOk k (zpow b z):=fun b z hb=>by
  unfold zpow
  refine WOk.rep ?_ _
  split
  ·exact hb.inv
  ·exact hb
 refine ⟨?_,wz _ _ h.ok,wz _ _ h.ok',fun u n ht hn p hp=>?_⟩
 ·rw [hz,hz]
  exact Nat.mul_le_mul h.len (least_abs _ _ (by omega))
 ·rw [move_zpow ht h.ok' (ho n hn) (by omega) _ hp,move_zpow ht h.ok (ho n hn) (by omega) _ hp,least_mod]
  have ee:∀ (x:Nat) (q:Nat),q<n->it (move u a') x q=it (move u a) x q:=fun x=>by
   induction x with
   | zero=>intro q _;rfl
   | succ x ih=>
    intro q hq
    show it (move u a') x (move u a' q)=it (move u a) x (move u a q)
    rw [h.mv u n ht hn q hq]
    exact ih _ (move_lt ht h.ok hq)
  exact ee _ _ hp
structure RLv (k o most:Nat) (v v':Lv):Prop where
 br:v.br=v'.br
 hp:v.hp=v'.hp
 en:P2 (Rw k o most) v.ended v'.ended
 wr:Rw k o most v.wr v'.wr
theorem endWord_sim {v v' m:Lv} (h:RLv k o most v v') (e:endWord v=.ok m):∃ m',endWord v'=.ok m'/\RLv k o most m m':=by
 unfold endWord at e ⊢
 rw [h.hp] at e
 split at e
 ·rename_i z
  cases e
  rw [if_pos z]
  exact ⟨_,rfl,h.br,rfl,h.en.app (.cons h.wr .nil),Rw.nil⟩
 ·cases e
theorem endBr_sim {br:Nat} {st st':List Lv} {p:List Word × List Lv} (h:P2 (RLv k o most) st st') (e:endBr br st=.ok p):∃ p',endBr br st'=.ok p'/\P2 (Rw k o most) p.1 p'.1/\P2 (RLv k o most) p.2 p'.2:=by
 cases h with
 | nil=>cases e
 | @cons l l' t t' hl ht=>
  have e:(if l.br=br then (endWord l).bind (fun m=>.ok (m.ended,t)) else .error .wrong)=.ok p:=e
  show ∃ p',(if l'.br=br then (endWord l').bind (fun m=>.ok (m.ended,t')) else .error .wrong)=.ok p'/\_
  rw [hl.br] at e
  split at e
  ·rename_i z
   rw [if_pos z]
   cases e2:endWord l with
   | error f=>rw [e2] at e;cases e
   | ok m=>
    rw [e2] at e
    cases e
    obtain ⟨m',h1,h2⟩:=endWord_sim hl e2
    exact ⟨_,by rw [h1];rfl,h2.en,ht⟩
  ·cases e
theorem endPart_sim {ls:Bytes} {st st':List Lv} {c:Nat} {p:Word × List Lv} (h:P2 (RLv ls.length o most) st st') (e:endPart ls st c=.ok p):∃ p',endPart ls st' c=.ok p'/\Rw ls.length o most p.1 p'.1/\P2 (RLv ls.length o most) p.2 p'.2:=by
 unfold endPart at e ⊢
 cases el:letterOf ls c with
 | some l=>
  rw [el] at e
  cases e
  have hw:WOk ls.length [l]:=fun x hx=>by rw [List.mem_singleton.mp hx];exact letterOf_lt el
  exact ⟨_,rfl,⟨Nat.le_refl _,hw,hw,fun _ _ _ _ _ _=>rfl⟩,h⟩
 | none=>
  rw [el] at e
  simp only at e ⊢
  split at e
  ·rename_i z
   rw [if_pos z]
   cases e2:endBr 40 st with
   | error f=>rw [e2] at e;cases e
   | ok q=>
    rw [e2] at e
    cases e
    obtain ⟨q',h1,h2,h3⟩:=endBr_sim h e2
    refine ⟨_,by rw [h1];rfl,?_,h3⟩
    obtain ⟨q1,q2⟩:=q
    obtain ⟨q1',q2'⟩:=q'
    cases h2 with
    | nil=>exact Rw.nil
    | cons a _=>exact a
  ·rename_i z
   rw [if_neg z]
   split at e
   ·rename_i z2
    rw [if_pos z2]
    cases e2:endBr 91 st with
    | error f=>rw [e2] at e;cases e
    | ok q=>
     rw [e2] at e
     obtain ⟨q',h1,h2,h3⟩:=endBr_sim h e2
     simp only [bind_ok] at e
     split at e
     ·rename_i x y t hq
      rw [hq] at h2
      obtain ⟨q1',q2'⟩:=q'
      cases h2 with
      | @cons _ x' _ _ a r=>
       cases r with
       | @cons _ y' _ _ b r=>
        cases e3:comm x y with
        | error f=>rw [e3] at e;cases e
        | ok v=>
         rw [e3] at e
         cases e
         unfold comm at e3
         split at e3
         ·cases e3
         ·rename_i hlen
          cases e3
          refine ⟨(x'++y'++inverse x'++inverse y',q2'),?_,((a.app b).app a.inv).app b.inv,h3⟩
          rw [h1]
          show (comm x' y').bind (fun v=>(.ok (v,q2'):Got (Word × List Lv)))=_
          unfold comm
          rw [if_neg (by have:=a.len;have:=b.len;omega)]
          rfl
     ·cases e
   ·cases e
theorem turn_sim {ls:Bytes} {st st' t:List Lv} {c:Nat} {r q:Bytes} (h0:0<o) (ho:∀ n,n<=most->OrdOk o n) (h:P2 (RLv ls.length o most) st st') (e:turn ls 0 st c r=.ok (t,q)):∃ t',turn ls o st' c r=.ok (t',q)/\P2 (RLv ls.length o most) t t':=by
 unfold turn at e ⊢
 split at e
 ·rename_i z
  rw [if_pos z]
  cases h with
  | nil=>cases e
  | @cons l l' s s' hl hs=>
   simp only at e ⊢
   cases e2:takeComma l with
   | error f=>rw [e2] at e;cases e
   | ok m=>
    rw [e2] at e
    cases e
    unfold takeComma at e2 ⊢
    rw [hl.br] at e2
    have hne:(l.ended≠[])↔(l'.ended≠[]):=by
     have:=hl.en.len
     rw [<-List.length_pos_iff,<-List.length_pos_iff,this]
    split at e2
    ·cases e2
    ·rename_i z1
     rw [if_neg z1]
     split at e2
     ·cases e2
     ·rename_i z2
      rw [if_neg (fun y=>z2 ⟨y.1,hne.mpr y.2⟩)]
      obtain ⟨m',h1,h2⟩:=endWord_sim hl e2
      exact ⟨_,by rw [h1];rfl,.cons h2 hs⟩
 ·rename_i z
  rw [if_neg z]
  split at e
  ·rename_i z2
   rw [if_pos z2]
   unfold begin_ at e ⊢
   split at e
   ·cases e
   ·rename_i hl
    cases e
    rw [if_neg (by rw [<-h.len];exact hl)]
    exact ⟨_,rfl,.cons ⟨rfl,rfl,.nil,Rw.nil⟩ h⟩
  ·rename_i z2
   rw [if_neg z2]
   cases e2:endPart ls st c with
   | error f=>rw [e2] at e;cases e
   | ok p=>
    rw [e2] at e
    obtain ⟨p',h1,h2,h3⟩:=endPart_sim h e2
    rw [h1]
    simp only [bind_ok] at e ⊢
    cases e3:power r with
    | error f=>rw [e3] at e;cases e
    | ok n=>
     rw [e3] at e
     simp only [bind_ok] at e ⊢
     have hl0:least 0 n.1=n.1:=rfl
     rw [hl0] at e
     cases e4:addPart p.2 p.1 n.1.1 n.1.2 with
     | error f=>rw [e4] at e;cases e
     | ok v=>
      rw [e4] at e
      cases e
      have hp:=h2.pow h0 ho n.1
      unfold addPart at e4 ⊢
      obtain ⟨p1,p2⟩:=p
      obtain ⟨p1',p2'⟩:=p'
      cases h3 with
      | nil=>cases e4
      | @cons l l' s s' hl hs=>
       simp only at e4 ⊢
       split at e4
       ·cases e4
       ·rename_i hlen
        cases e4
        have len1:=hp.len
        rw [rep_len,rep_len] at len1
        have i1:∀ (b:Bool) (x:Word),(if b=true then inverse x else x).length=x.length:=fun b x=>by split;exact inv_len x;rfl
        rw [i1,i1] at len1
        have len2:=hl.wr.len
        rw [if_neg (Nat.not_lt.mpr (Nat.le_trans (Nat.add_le_add len2 len1) (Nat.le_of_not_lt hlen)))]
        exact ⟨_,rfl,.cons ⟨hl.br,rfl,hl.en,hl.wr.app hp⟩ hs⟩
theorem run_sim {ls:Bytes} (h0:0<o) (ho:∀ n,n<=most->OrdOk o n):∀ (f:Nat) (st st':List Lv) (b:Bytes) (ws:List Word),P2 (RLv ls.length o most) st st'->run ls 0 f st b=.ok ws->∃ ws',run ls o f st' b=.ok ws'/\P2 (Rw ls.length o most) ws ws'
 | _,st,st',[],ws,h,e=>by
  unfold run at e ⊢
  cases h with
  | nil=>cases e
  | @cons l l' s s' hl hs=>
   cases hs with
   | cons _ _=>cases e
   | nil=>
    have e:(endWord l).bind (fun m=>.ok m.ended)=.ok ws:=e
    show ∃ ws',(endWord l').bind (fun m=>.ok m.ended)=.ok ws'/\_
    cases e2:endWord l with
    | error f=>rw [e2] at e;cases e
    | ok m=>
     rw [e2] at e
     cases e
     obtain ⟨m',h1,h2⟩:=endWord_sim hl e2
     exact ⟨_,by rw [h1];rfl,h2.en⟩
 | 0,_,_,_ :: _,_,_,e=>by unfold run at e;cases e
 | f+1,st,st',c :: r,ws,h,e=>by
  simp only [run] at e ⊢
  cases e2:turn ls 0 st c r with
  | error z=>rw [e2] at e;cases e
  | ok p=>
   rw [e2] at e
   obtain ⟨t',h1,h2⟩:=turn_sim h0 ho h e2
   rw [h1]
   exact run_sim h0 ho f p.1 t' p.2 ws h2 e
theorem go_sim {ls:Bytes} {br:Nat} {b:Bytes} {ws:List Word} (h0:0<o) (ho:∀ n,n<=most->OrdOk o n) (e:go ls 0 [⟨br,[],[],false⟩] b=.ok ws):∃ ws',go ls o [⟨br,[],[],false⟩] b=.ok ws'/\P2 (Rw ls.length o most) ws ws':=
 run_sim h0 ho _ _ _ _ _ (.cons ⟨rfl,rfl,.nil,Rw.nil⟩ .nil) e
end
theorem List.mem_of_mem_dropLast' {α:Type} {x:α} {l:List α} (h:x∈l.dropLast):x∈l:=by
 rw [List.dropLast_eq_take] at h
 exact List.mem_of_mem_take h
def bars (l:Letter):Letter:=(l.1,!l.2)
def short1 (s:Word) (l:Letter):Word:=match s.getLast? with
 | some m=>if m=bars l then s.dropLast else s++[l]
 | none=>s++[l]
def shorten (w:Word):Word:=w.foldl short1 []
theorem short1_ok {k:Nat} {s:Word} {l:Letter} (hs:WOk k s) (hl:l.1<k):WOk k (short1 s l):=by
 have hx:WOk k (s++[l]):=hs.app fun x hx=>by rw [List.mem_singleton.mp hx];exact hl
 unfold short1
 split
 ·split
  ·exact fun x hx=>hs x (List.mem_of_mem_dropLast' hx)
  ·exact hx
 ·exact hx
theorem short1_mv {k n:Nat} {u:Table} (ht:isTable k n u=true) {s:Word} {l:Letter} (hs:WOk k s) (hl:l.1<k) {p:Nat} (hp:p<n):move u (short1 s l) p=move u (s++[l]) p:=by
 unfold short1
 split
 ·rename_i m hm
  split
  ·rename_i e
   have e2:s=s.dropLast++[m]:=by
    have hne:s≠[]:=by intro z;rw [z] at hm;cases hm
    have h3:=List.dropLast_concat_getLast hne
    rw [List.getLast?_eq_some_getLast hne] at hm
    cases hm
    exact h3.symm
   have hd:WOk k s.dropLast:=fun x hx=>hs x (List.mem_of_mem_dropLast' hx)
   have hm1:m.1<k:=hs m (by rw [e2];simp)
   conv=>rhs;rw [e2]
   rw [move_app,move_app,move_one,move_one]
   have e3:l=(m.1,!m.2):=by rw [e];unfold bars;simp
   rw [e3,moveBy_inv ht hm1 (move_lt ht hd hp)]
  ·rfl
 ·rfl
theorem shorten_from {k:Nat}:∀ (w s:Word),WOk k w->WOk k s->WOk k (w.foldl short1 s)/\∀ (u:Table) (n:Nat),isTable k n u=true->∀ p,p<n->move u (w.foldl short1 s) p=move u (s++w) p
 | [],s,_,hs=>⟨hs,fun u n _ p _=>by rw [List.append_nil];rfl⟩
 | l :: r,s,hw,hs=>by
  have hl:=hw l (List.mem_cons_self ..)
  obtain ⟨h1,h2⟩:=shorten_from r (short1 s l) (fun x hx=>hw x (List.mem_cons_of_mem _ hx)) (short1_ok hs hl)
  refine ⟨h1,fun u n ht p hp=>?_⟩
  rw [List.foldl_cons,h2 u n ht p hp,move_app,short1_mv ht hs hl hp,<-move_app,List.append_assoc]
  rfl
theorem shorten_ok {k:Nat} {w:Word} (h:WOk k w):WOk k (shorten w):=(shorten_from w [] h fun _ z=>absurd z (by simp)).1
theorem shorten_mv {k n:Nat} {u:Table} {w:Word} (h:WOk k w) (ht:isTable k n u=true) {p:Nat} (hp:p<n):move u (shorten w) p=move u w p:=(shorten_from w [] h fun _ z=>absurd z (by simp)).2 u n ht p hp
structure Tells (ws' ts:List Word):Prop where
 of:∀ t∈ts,∃ w∈ws',t=shorten w
 all:∀ w∈ws',shorten w=[]\/shorten w∈ts
theorem still_congr {u:Table} {n:Nat} {w w':Word} (h:∀ p,p<n->move u w' p=move u w p):still u n w'=still u n w:=by
 unfold still
 rw [Bool.eq_iff_iff,List.all_eq_true,List.all_eq_true]
 exact ⟨fun z p hp=>by rw [<-h p (List.mem_range.mp hp)];exact z p hp,fun z p hp=>by rw [h p (List.mem_range.mp hp)];exact z p hp⟩
theorem tells_still {k o most n:Nat} {ws ws' ts:List Word} (h:P2 (Rw k o most) ws ws') (T:Tells ws' ts) {u:Table} (ht:isTable k n u=true) (hn:n<=most):ts.all (still u n)=ws.all (still u n):=by
 have hsh:∀ w w',Rw k o most w w'->still u n (shorten w')=still u n w:=fun w w' r=>by
  rw [still_congr (w:=w') (fun p hp=>shorten_mv r.ok' ht hp)]
  exact still_congr fun p hp=>r.mv u n ht hn p hp
 rw [Bool.eq_iff_iff,List.all_eq_true,List.all_eq_true]
 constructor
 ·intro z w hw
  obtain ⟨w',h1,h2⟩:=h.left w hw
  rw [<-hsh w w' h2]
  rcases T.all w' h1 with y | y
  ·rw [y]
   unfold still
   simp [move]
  ·exact z _ y
 ·intro z t ht2
  obtain ⟨w',h1,rfl⟩:=T.of t ht2
  obtain ⟨w,h3,h4⟩:=h.right w' h1
  rw [hsh w w' h4]
  exact z w h3
theorem tells_ok {k o most:Nat} {ws ws' ts:List Word} (h:P2 (Rw k o most) ws ws') (T:Tells ws' ts):∀ t∈ts,WOk k t:=fun t ht=>by
 obtain ⟨w',h1,rfl⟩:=T.of t ht
 obtain ⟨w,_,h4⟩:=h.right w' h1
 exact shorten_ok h4.ok'
end Gw
namespace Gw
open Sa54
def scanA (u:Table) (k p0:Nat):Nat->List Nat
 | 0=>[p0]
 | c+1=>if cell u (c % (2*k)) ((scanA u k p0 c).getD (c / (2*k)) 0)∈scanA u k p0 c then scanA u k p0 c else scanA u k p0 c++[cell u (c % (2*k)) ((scanA u k p0 c).getD (c / (2*k)) 0)]
theorem scan_pre (u:Table) (k p0 c:Nat):∀ d,∃ t,scanA u k p0 (c+d)=scanA u k p0 c++t
 | 0=>⟨[],by simp⟩
 | d+1=>by
  obtain ⟨t,ht⟩:=scan_pre u k p0 c d
  rw [<-Nat.add_assoc]
  simp only [scanA]
  split
  ·exact ⟨t,ht⟩
  ·exact ⟨t++[_],by rw [ht,List.append_assoc]⟩
theorem scan_le (u:Table) (k p0:Nat) {c d:Nat} (h:c<=d):∃ t,scanA u k p0 d=scanA u k p0 c++t:=by
 obtain ⟨t,ht⟩:=scan_pre u k p0 c (d-c)
 rw [show c+(d-c)=d by omega] at ht
 exact ⟨t,ht⟩
theorem scan_len (u:Table) (k p0:Nat) {c d:Nat} (h:c<=d):(scanA u k p0 c).length<=(scanA u k p0 d).length:=by
 obtain ⟨t,ht⟩:=scan_le u k p0 h
 rw [ht,List.length_append]
 omega
theorem scan_ne (u:Table) (k p0 c:Nat):0<(scanA u k p0 c).length:=scan_len u k p0 (Nat.zero_le c)
theorem getD_app {l t:List Nat} {i:Nat} (h:i<l.length):(l++t).getD i 0=l.getD i 0:=by
 rw [List.getD_eq_getElem?_getD,List.getD_eq_getElem?_getD,List.getElem?_append_left h]
theorem getD_mem0 {l:List Nat} {i:Nat} (h:i<l.length):l.getD i 0∈l:=by
 rw [List.getD_eq_getElem?_getD,List.getElem?_eq_getElem h]
 exact List.getElem_mem h
section
variable {u:Table} {k n p0:Nat} (ht:isTable k n u=true) (hk:0<k) (hp:p0<n)
include ht hk hp
theorem scan_lt:∀ c,∀ x∈scanA u k p0 c,x<n
 | 0,x,h=>by rw [List.mem_singleton.mp h];exact hp
 | c+1,x,h=>by
  have ih:=scan_lt c
  simp only [scanA] at h
  split at h
  ·exact ih x h
  ·rcases List.mem_append.mp h with z | z
   ·exact ih x z
   ·rw [List.mem_singleton.mp z]
    refine cell_lt ht (Nat.mod_lt _ (by omega)) ?_
    by_cases hi:c / (2*k)<(scanA u k p0 c).length
    ·exact ih _ (getD_mem0 hi)
    ·rw [List.getD_eq_getElem?_getD,List.getElem?_eq_none (Nat.le_of_not_lt hi)]
     show 0<n
     omega
omit ht hk hp in
theorem scan_nodup:∀ c,(scanA u k p0 c).Nodup
 | 0=>by simp [scanA]
 | c+1=>by
  have ih:=scan_nodup c
  simp only [scanA]
  split
  ·exact ih
  ·rename_i h
   rw [List.nodup_append]
   refine ⟨ih,by simp,fun a ha b hb=>?_⟩
   rw [List.mem_singleton.mp hb]
   intro e
   exact h (e ▸ ha)
theorem scan_small (c:Nat):(scanA u k p0 c).length<=n:=by
 refine Nat.le_of_not_lt fun h=>?_
 have pm:=nodup_sub_perm (l2:=List.range n) (scan_nodup (u:=u) (k:=k) (p0:=p0) c) (fun x hx=>List.mem_range.mpr (scan_lt ht hk hp c x hx)) (by rw [List.length_range];omega)
 have:=pm.length_eq
 rw [List.length_range] at this
 omega
theorem scan_end:∃ m,1<=m/\m<=n/\(scanA u k p0 (2*k*m)).length=m/\∀ i,i<m->i<(scanA u k p0 (2*k*i)).length:=by
 have key:∀ j,(∃ m,1<=m/\m<=j/\(scanA u k p0 (2*k*m)).length=m/\∀ i,i<m->i<(scanA u k p0 (2*k*i)).length)\/∀ i,i<=j->i<(scanA u k p0 (2*k*i)).length:=by
  intro j
  induction j with
  | zero=>exact .inr fun i hi=>by rw [show i=0 by omega];exact scan_ne u k p0 _
  | succ j ih=>
   rcases ih with ⟨m,h1,h2,h3⟩ | h
   ·exact .inl ⟨m,h1,by omega,h3⟩
   ·by_cases hj:j+1<(scanA u k p0 (2*k*(j+1))).length
    ·refine .inr fun i hi=>?_
     by_cases e:i=j+1
     ·rw [e];exact hj
     ·exact h i (by omega)
    ·have h1:=h j (Nat.le_refl _)
     have h2:=scan_len u k p0 (show 2*k*j<=2*k*(j+1) from Nat.mul_le_mul_left _ (by omega))
     exact .inl ⟨j+1,by omega,Nat.le_refl _,by omega,fun i hi=>h i (by omega)⟩
 rcases key n with ⟨m,h1,h2,h3⟩ | h
 ·exact ⟨m,h1,h2,h3⟩
 ·have h1:=h n (Nat.le_refl _)
  have h2:=scan_small ht hk hp (2*k*n)
  omega
end
def reT (u:Table) (k m:Nat) (L:List Nat):Table:=(List.range k).map fun i=>(List.range m).map fun a=>L.idxOf (cell u (2*i) (L.getD a 0))
structure Cl (u:Table) (k n m:Nat) (L:List Nat):Prop where
 len:L.length=m
 lt:∀ x∈L,x<n
 nd:L.Nodup
 cl:∀ j a,j<2*k->a<m->cell u j (L.getD a 0)∈L
structure Met (u:Table) (k n p0 m:Nat) (L:List Nat):Prop extends Cl u k n m L where
 m1:1<=m
 mn:m<=n
 zero:L.getD 0 0=p0
 scan:L=scanA u k p0 (2*k*m)
 on:∀ i,i<m->i<(scanA u k p0 (2*k*i)).length
theorem met_ex {u:Table} {k n p0:Nat} (ht:isTable k n u=true) (hk:0<k) (hp:p0<n):∃ m L,Met u k n p0 m L:=by
 obtain ⟨m,h1,h2,h3,h4⟩:=scan_end ht hk hp
 refine ⟨m,scanA u k p0 (2*k*m),⟨h3,scan_lt ht hk hp _,scan_nodup _,fun j a hj ha=>?_⟩,h1,h2,(by
  obtain ⟨t,e⟩:=scan_le u k p0 (Nat.zero_le (2*k*m))
  rw [e]
  rfl),rfl,h4⟩
 ·have hc:2*k*a+j<2*k*m:=ix_lt hj ha
  obtain ⟨e1,e2⟩:=cell_ix (p:=a) hj
  have hlen:a<(scanA u k p0 (2*k*a+j)).length:=Nat.lt_of_lt_of_le (h4 a ha) (scan_len u k p0 (by omega))
  obtain ⟨t0,e0⟩:=scan_le u k p0 (Nat.le_of_lt hc)
  have eg:(scanA u k p0 (2*k*m)).getD a 0=(scanA u k p0 (2*k*a+j)).getD a 0:=by rw [e0];exact getD_app hlen
  obtain ⟨t,et⟩:=scan_le u k p0 (show 2*k*a+j+1<=2*k*m from hc)
  rw [eg,et]
  refine List.mem_append_left _ ?_
  simp only [scanA]
  rw [e1,e2]
  split
  ·assumption
  ·simp
section
variable {u:Table} {k n p0 m:Nat} {L:List Nat} (ht:isTable k n u=true) (hk:0<k) (M:Cl u k n m L)
theorem idx_get {L:List Nat} (nd:L.Nodup) {a:Nat} (h:a<L.length):L.idxOf (L.getD a 0)=a:=by
 rw [List.getD_eq_getElem?_getD,List.getElem?_eq_getElem h]
 exact nd.idxOf_getElem a h
theorem get_idx {L:List Nat} {x:Nat} (h:x∈L):L.getD (L.idxOf x) 0=x:=by
 have hl:=List.idxOf_lt_length_iff.mpr h
 rw [List.getD_eq_getElem?_getD,List.getElem?_eq_getElem hl]
 exact List.getElem_idxOf hl
include M in
theorem Cl.idx_lt {x:Nat} (h:x∈L):L.idxOf x<m:=by rw [<-M.len];exact List.idxOf_lt_length_iff.mpr h
include M in
theorem Cl.get_lt {a:Nat} (h:a<m):L.getD a 0<n:=M.lt _ (getD_mem0 (by rw [M.len];exact h))
include M in
theorem reT_row {i:Nat} (hi:i<k):(reT u k m L)[i]?=some ((List.range m).map fun a=>L.idxOf (cell u (2*i) (L.getD a 0))):=by
 unfold reT
 rw [List.getElem?_map,List.getElem?_range hi]
 rfl
include ht M in
theorem reT_back {i p:Nat} (hi:i<k) (hp:p<m):L.idxOf (cell u (2*i) (L.getD (L.idxOf (cell u (2*i+1) (L.getD p 0))) 0))=p:=by
 have hb:bar (2*i+1)=2*i:=by unfold bar;split<;>omega
 rw [get_idx (M.cl _ _ (by omega) hp)]
 have:=cell_bar ht (j:=2*i+1) (by omega) (M.get_lt hp)
 rw [hb] at this
 rw [this,idx_get M.nd (by rw [M.len];exact hp)]
include ht M in
theorem reT_table:isTable k m (reT u k m L)=true:=by
 rw [isTable_iff]
 refine ⟨by unfold reT;simp,fun r hr=>?_⟩
 unfold reT at hr
 obtain ⟨i,hi,rfl⟩:=List.mem_map.mp hr
 have hi:=List.mem_range.mp hi
 refine row_perm (by simp) fun p hp=>?_
 refine List.mem_map.mpr ⟨L.idxOf (cell u (2*i+1) (L.getD p 0)),List.mem_range.mpr (M.idx_lt (M.cl _ _ (by omega) hp)),?_⟩
 exact reT_back ht M hi hp
include ht M in
theorem reT_cell {j a:Nat} (hj:j<2*k) (ha:a<m):cell (reT u k m L) j a=L.idxOf (cell u j (L.getD a 0)):=by
 have hi:j / 2<k:=by omega
 have er:=reT_row M hi
 have ed:(reT u k m L).getD (j / 2) []=(List.range m).map fun a=>L.idxOf (cell u (2*(j / 2)) (L.getD a 0)):=by rw [List.getD_eq_getElem?_getD,er];rfl
 have hperm:=(isTable_iff.mp (reT_table ht M)).2 _ (List.mem_of_getElem? er)
 by_cases hp:j % 2=0
 ·have ej:2*(j / 2)=j:=by omega
  have l2:(j % 2==1)=false:=by rw [hp];rfl
  show (if (j % 2==1)=true then _ else _)=_
  rw [l2]
  simp only [Bool.false_eq_true,if_false]
  show ((reT u k m L).getD (j / 2) []).getD a 0=_
  rw [ed,List.getD_eq_getElem?_getD,List.getElem?_map,List.getElem?_range ha,ej]
  rfl
 ·have ej:2*(j / 2)+1=j:=by omega
  have l2:(j % 2==1)=true:=by rw [show j % 2=1 by omega];rfl
  show (if (j % 2==1)=true then _ else _)=_
  rw [l2]
  simp only [if_true]
  show ((reT u k m L).getD (j / 2) []).idxOf a=_
  rw [ed]
  have hb:=reT_back ht M hi ha
  rw [ej] at hb
  have hlt:L.idxOf (cell u j (L.getD a 0))<m:=M.idx_lt (M.cl _ _ hj ha)
  have nd:=row_nodup hperm
  have hl2:L.idxOf (cell u j (L.getD a 0))<((List.range m).map fun a=>L.idxOf (cell u (2*(j / 2)) (L.getD a 0))).length:=by simpa using hlt
  have z:=nd.idxOf_getElem _ hl2
  have e5:((List.range m).map fun a=>L.idxOf (cell u (2*(j / 2)) (L.getD a 0)))[L.idxOf (cell u j (L.getD a 0))]=a:=by
   rw [List.getElem_map,List.getElem_range]
   exact hb
  rw [e5] at z
  exact z
include ht M in
include ht M in
end
section
variable {u:Table} {k n p0 m:Nat} {L:List Nat} (ht:isTable k n u=true) (hk:0<k) (M:Met u k n p0 m L)
include ht hk M in
theorem reT_mx:∀ c,c<=2*k*m->mx (cvT (reT u k m L) k) c=(scanA u k p0 c).length
 | 0,_=>rfl
 | c+1,hc=>by
  have ih:=reT_mx c (by omega)
  have hi:c / (2*k)<m:=Nat.div_lt_of_lt_mul hc
  have hj:c % (2*k)<2*k:=Nat.mod_lt _ (by omega)
  have hlen:c / (2*k)<(scanA u k p0 c).length:=Nat.lt_of_lt_of_le (M.on _ hi) (scan_len u k p0 (by have:=Nat.div_mul_le_self c (2*k);rw [Nat.mul_comm] at this;exact this))
  obtain ⟨t,et⟩:=scan_le u k p0 (show c<=2*k*m by omega)
  have eg:L.getD (c / (2*k)) 0=(scanA u k p0 c).getD (c / (2*k)) 0:=by rw [M.scan,et];exact getD_app hlen
  have ec:cvT (reT u k m L) k c=some (L.idxOf (cell u (c % (2*k)) ((scanA u k p0 c).getD (c / (2*k)) 0))):=by
   unfold cvT
   rw [reT_cell ht M.toCl hj hi,eg]
  simp only [mx]
  rw [ec,ih]
  simp only [scanA]
  generalize hq:cell u (c % (2*k)) ((scanA u k p0 c).getD (c / (2*k)) 0)=q
  have eL:L=scanA u k p0 c++t:=by rw [M.scan,et]
  split
  ·rename_i h
   have:L.idxOf q<(scanA u k p0 c).length:=by
    rw [eL,List.idxOf_append,if_pos h]
    exact List.idxOf_lt_length_iff.mpr h
   omega
  ·rename_i h
   obtain ⟨t2,et2⟩:=scan_le u k p0 (show c+1<=2*k*m from hc)
   have e1:scanA u k p0 (c+1)=scanA u k p0 c++[q]:=by
    simp only [scanA]
    rw [hq,if_neg h]
   have:L.idxOf q=(scanA u k p0 c).length:=by
    rw [M.scan,et2,e1,List.append_assoc,List.idxOf_append,if_neg h]
    simp
   rw [this,List.length_append]
   simp
include ht hk M in
theorem reT_ord:InOrd (reT u k m L) k m:=by
 have e0:mx (cvT (reT u k m L) k) (2*k*m)=m:=by
  rw [reT_mx ht hk M _ (Nat.le_refl _),<-M.scan,M.len]
 refine ⟨fun c hc=>?_,e0⟩
 have hi:c / (2*k)<m:=Nat.div_lt_of_lt_mul hc
 have hj:c % (2*k)<2*k:=Nat.mod_lt _ (by omega)
 have hlen:c / (2*k)<(scanA u k p0 c).length:=Nat.lt_of_lt_of_le (M.on _ hi) (scan_len u k p0 (by have:=Nat.div_mul_le_self c (2*k);rw [Nat.mul_comm] at this;exact this))
 have h1:=reT_mx ht hk M c (by omega)
 have h2:=reT_mx ht hk M (c+1) hc
 refine ⟨?_,cell (reT u k m L) (c % (2*k)) (c / (2*k)),rfl,?_⟩
 ·rw [h1]
  have hdm:=Nat.div_add_mod c (2*k)
  have:2*k*(c / (2*k)+1)<=2*k*(scanA u k p0 c).length:=Nat.mul_le_mul_left _ hlen
  rw [Nat.mul_succ] at this
  omega
 ·have h3:mx (cvT (reT u k m L) k) (c+1)=max (mx (cvT (reT u k m L) k) c) (cell (reT u k m L) (c % (2*k)) (c / (2*k))+1):=rfl
  have h4:(scanA u k p0 (c+1)).length<=(scanA u k p0 c).length+1:=by
   simp only [scanA]
   split
   ·omega
   ·simp
  rw [h1] at h3 ⊢
  omega
end
theorem mem_insertAll (x:Nat):∀ (r y:List Nat),y∈insertAll x r↔∃ a b,r=a++b/\y=a++x :: b
 | [],y=>by
  simp only [insertAll,List.mem_singleton]
  constructor
  ·rintro rfl
   exact ⟨[],[],rfl,rfl⟩
  ·rintro ⟨a,b,h1,rfl⟩
   have h2:=List.append_eq_nil_iff.mp h1.symm
   rw [h2.1,h2.2];rfl
 | z :: r,y=>by
  simp only [insertAll,List.mem_cons,List.mem_map]
  constructor
  ·rintro (rfl | ⟨l,hl,rfl⟩)
   ·exact ⟨[],z :: r,rfl,rfl⟩
   ·obtain ⟨a,b,h1,rfl⟩:=(mem_insertAll x r l).mp hl
    exact ⟨z :: a,b,by rw [h1];rfl,rfl⟩
  ·rintro ⟨a,b,h1,rfl⟩
   cases a with
   | nil=>left;rw [List.nil_append] at h1;rw [<-h1];rfl
   | cons c a=>
    right
    injection h1 with h2 h3
    subst h2
    exact ⟨a++x :: b,(mem_insertAll x r _).mpr ⟨a,b,h3,rfl⟩,rfl⟩
theorem mem_orders:∀ (r y:List Nat),y∈orders r↔y.Perm r
 | [],y=>by
  simp only [orders,List.mem_singleton]
  exact ⟨fun h=>by rw [h],fun h=>List.perm_nil.mp h⟩
 | x :: r,y=>by
  simp only [orders,List.mem_flatMap]
  constructor
  ·rintro ⟨l,hl,hy⟩
   obtain ⟨a,b,h1,rfl⟩:=(mem_insertAll x l y).mp hy
   have h2:=(mem_orders r l).mp hl
   rw [h1] at h2
   exact List.perm_middle.trans (h2.cons x)
  ·intro h
   have hx:x∈y:=h.mem_iff.mpr (List.mem_cons_self ..)
   obtain ⟨a,b,rfl⟩:=List.append_of_mem hx
   have h2:(a++b).Perm r:=(List.perm_middle.symm.trans h).cons_inv
   exact ⟨a++b,(mem_orders r _).mpr h2,(mem_insertAll x _ _).mpr ⟨a,b,rfl,rfl⟩⟩
theorem mem_tables (n:Nat):∀ (k:Nat) (t:Table),t∈tables n k↔isTable k n t=true
 | 0,t=>by
  simp only [tables,List.mem_singleton]
  rw [isTable_iff]
  constructor
  ·rintro rfl
   exact ⟨rfl,fun r hr=>absurd hr (by simp)⟩
  ·rintro ⟨h,_⟩
   exact List.length_eq_zero_iff.mp h
 | k+1,t=>by
  simp only [tables,List.mem_flatMap,List.mem_map]
  rw [isTable_iff]
  constructor
  ·rintro ⟨r,hr,s,hs,rfl⟩
   obtain ⟨h1,h2⟩:=isTable_iff.mp ((mem_tables n k s).mp hs)
   refine ⟨by rw [List.length_cons,h1],fun x hx=>?_⟩
   rcases List.mem_cons.mp hx with z | z
   ·rw [z];exact (mem_orders _ _).mp hr
   ·exact h2 x z
  ·rintro ⟨h1,h2⟩
   cases t with
   | nil=>simp at h1
   | cons r s=>
    exact ⟨r,(mem_orders _ _).mpr (h2 r (List.mem_cons_self ..)),s,(mem_tables n k s).mpr (isTable_iff.mpr ⟨by simpa using h1,fun x hx=>h2 x (List.mem_cons_of_mem _ hx)⟩),rfl⟩
end Gw
namespace Gw
open Sa54
structure BI (k most:Nat) (Bs:List Rows) (cs:List Nat):Prop where
 len:Bs.length=cs.length
 mono:cs.Pairwise (·<=·)
 pos:∀ (i c:Nat),cs[i]?=some c->i<(most+1)*(c+1)
 kn:∀ (i:Nat) (M:Rows) (c:Nat),Bs[i]?=some M->cs[i]?=some c->∀ x,x<c->cv M k x≠none
theorem BI.first (k most:Nat):BI k most [firstM k] [0]:=by
 refine ⟨rfl,by simp,fun i c h=>?_,fun i M c _ h x hx=>?_⟩
 ·cases i with
  | zero=>rw [Nat.add_mul];omega
  | succ i=>simp at h
 ·cases i with
  | zero=>cases h;omega
  | succ i=>simp at h
theorem BI.pop {k most:Nat} {bs:List Rows} {M:Rows} {cs:List Nat} (h:BI k most (bs++[M]) cs):∃ cs' c,BI k most bs cs'/\(∀ x∈cs',x<=c)/\bs.length<(most+1)*(c+1)/\∀ x,x<c->cv M k x≠none:=by
 have hl:=h.len
 rw [List.length_append] at hl
 rcases List.eq_nil_or_concat cs with z | ⟨cs',c,z⟩
 ·rw [z] at hl;simp at hl
 ·have z:cs=cs'++[c]:=by rw [z];simp
  subst z
  have hl2:bs.length=cs'.length:=by simp at hl;exact hl
  have hm:=List.pairwise_append.mp h.mono
  refine ⟨cs',c,⟨hl2,hm.1,fun i d hd=>?_,fun i N d hN hd=>?_⟩,fun x hx=>hm.2.2 x hx c (by simp),?_,?_⟩
  ·have:=(List.getElem?_eq_some_iff.mp hd).1
   exact h.pos i d (by rw [List.getElem?_append_left this];exact hd)
  ·have h1:=(List.getElem?_eq_some_iff.mp hN).1
   have h2:=(List.getElem?_eq_some_iff.mp hd).1
   exact h.kn i N d (by rw [List.getElem?_append_left h1];exact hN) (by rw [List.getElem?_append_left h2];exact hd)
  ·exact h.pos bs.length c (by rw [hl2];simp)
  ·exact h.kn bs.length M c (by simp) (by rw [hl2];simp)
theorem BI.push {k most:Nat} {bs Ks:List Rows} {cs:List Nat} {c c1:Nat} (h:BI k most bs cs) (hc:∀ x∈cs,x<=c) (hb:bs.length<(most+1)*(c+1)) (hcc:c<=c1) (hK:Ks.length<=most+1) (hkn:∀ K∈Ks,∀ x,x<=c1->cv K k x≠none):BI k most (bs++Ks) (cs++List.replicate Ks.length (c1+1)):=by
 refine ⟨by simp [h.len],?_,fun i d hd=>?_,fun i N d hN hd=>?_⟩
 ·rw [List.pairwise_append]
  refine ⟨h.mono,?_,fun x hx y hy=>?_⟩
  ·rw [List.pairwise_replicate]
   right;omega
  ·rw [List.eq_of_mem_replicate hy]
   have:=hc x hx
   omega
 ·by_cases hi:i<cs.length
  ·rw [List.getElem?_append_left hi] at hd
   exact h.pos i d hd
  ·have hil:=(List.getElem?_eq_some_iff.mp hd).1
   rw [List.getElem?_append_right (by omega)] at hd
   have e:=List.eq_of_mem_replicate (List.mem_of_getElem? hd)
   rw [List.length_append,List.length_replicate,<-h.len] at hil
   subst e
   have h1:(most+1)*(c+2)<=(most+1)*(c1+2):=Nat.mul_le_mul_left _ (by omega)
   have h2:(most+1)*(c+2)=(most+1)*(c+1)+(most+1):=by rw [<-Nat.mul_succ]
   show i<(most+1)*(c1+2)
   omega
 ·by_cases hi:i<cs.length
  ·rw [List.getElem?_append_left hi] at hd
   rw [List.getElem?_append_left (by rw [h.len];exact hi)] at hN
   exact h.kn i N d hN hd
  ·rw [List.getElem?_append_right (by omega)] at hd
   rw [List.getElem?_append_right (by rw [h.len];omega)] at hN
   have e:=List.eq_of_mem_replicate (List.mem_of_getElem? hd)
   subst e
   exact fun x hx=>hkn N (List.mem_of_getElem? hN) x (by omega)
theorem known_le {M:Rows} {k m most c:Nat} (hk:0<k) (G:Good M k m most) (h:∀ x,x<c->cv M k x≠none):c<=2*k*most:=by
 have h1:c<=2*k*m:=by
  refine Nat.le_of_not_lt fun z=>h (2*k*m) z ?_
  unfold cv
  rw [Nat.mul_div_cancel_left _ (by omega)]
  exact getM_big G.ok (Nat.le_refl _)
 exact Nat.le_trans h1 (Nat.mul_le_mul_left _ G.le)
theorem BI.bound {k most:Nat} {Bs:List Rows} {cs:List Nat} (hk:0<k) (h:BI k most Bs cs) (hg:∀ x∈Bs,∃ m,Good x k m most):Bs.length<=(most+1)*(2*k*most+1):=by
 cases hl:Bs.length with
 | zero=>omega
 | succ n=>
  have h1:n<Bs.length:=by omega
  have h2:n<cs.length:=by rw [<-h.len];exact h1
  obtain ⟨m,G⟩:=hg _ (List.getElem_mem h1)
  have h3:=known_le hk G (h.kn n _ _ (List.getElem?_eq_getElem h1) (List.getElem?_eq_getElem h2))
  have h4:=h.pos n _ (List.getElem?_eq_getElem h2)
  have h5:(most+1)*(cs[n]+1)<=(most+1)*(2*k*most+1):=Nat.mul_le_mul_left _ (by omega)
  omega
def fac:Nat->Nat
 | 0=>1
 | n+1=>(n+1)*fac n
theorem insertAll_len (x:Nat):∀ r:List Nat,(insertAll x r).length=r.length+1
 | []=>rfl
 | y :: r=>by simp [insertAll,insertAll_len x r]
theorem flatMap_len {α β:Type} (f:α->List β) (n:Nat):∀ l:List α,(∀ x∈l,(f x).length=n)->(l.flatMap f).length=l.length*n
 | [],_=>by simp
 | x :: t,h=>by
  rw [List.flatMap_cons,List.length_append,h x (List.mem_cons_self ..),flatMap_len f n t (fun y hy=>h y (List.mem_cons_of_mem _ hy)),List.length_cons,Nat.succ_mul]
  omega
theorem orders_len:∀ r:List Nat,(orders r).length=fac r.length
 | []=>rfl
 | x :: r=>by
  simp only [orders]
  rw [flatMap_len _ (r.length+1) _ (fun l hl=>by rw [insertAll_len,((mem_orders r l).mp hl).length_eq]),orders_len r,List.length_cons]
  show _=(r.length+1)*fac r.length
  rw [Nat.mul_comm]
theorem tables_len (n:Nat):∀ k:Nat,(tables n k).length=fac n ^ k
 | 0=>rfl
 | k+1=>by
  simp only [tables]
  rw [flatMap_len _ (fac n ^ k) _ (fun r _=>by rw [List.length_map,tables_len n k]),orders_len,List.length_range,Nat.pow_succ,Nat.mul_comm]
theorem fac_mono {a b:Nat} (h:a<=b):fac a<=fac b:=by
 induction b with
 | zero=>rw [show a=0 by omega];exact Nat.le_refl _
 | succ b ih=>
  by_cases e:a=b+1
  ·rw [e];exact Nat.le_refl _
  ·have:=ih (by omega)
   show fac a<=(b+1)*fac b
   exact Nat.le_trans this (Nat.le_mul_of_pos_left _ (by omega))
theorem nodup_le {α:Type}:∀ {l1 l2:List α},l1.Nodup->(∀ x∈l1,x∈l2)->l1.length<=l2.length
 | [],l2,_,_=>by simp
 | x :: t,l2,nd,hs=>by
  have hx:x∈l2:=hs x (List.mem_cons_self ..)
  obtain ⟨a,b,rfl⟩:=List.append_of_mem hx
  have nd':=List.nodup_cons.mp nd
  have:=nodup_le (l1:=t) (l2:=a++b) nd'.2 (fun y hy=>by
   rcases List.mem_append.mp (hs y (List.mem_cons_of_mem _ hy)) with z | z
   ·exact List.mem_append_left _ z
   ·rcases List.mem_cons.mp z with z | z
    ·subst z;exact absurd hy nd'.1
    ·exact List.mem_append_right _ z)
  simp at this ⊢
  omega
theorem SI.nodup {ws:List Word} {k most:Nat} {found begun:List Rows} (hk:0<k) (h:SI ws k most found begun):found.Nodup:=by
 rw [List.nodup_iff_count]
 intro M
 by_cases hM:M∈found
 ·obtain ⟨u,n,S,rfl⟩:=h.fnd M hM
  have h1:=h.one u n S
  rw [List.countP_append] at h1
  have h2:found.count (fullM u n)<=found.countP (fun K=>@decide (Ext u k n K) (Classical.propDecidable _)):=by
   unfold List.count
   refine List.countP_mono_left fun x _ hx=>?_
   have:x=fullM u n:=by simpa using hx
   rw [this]
   simp only [decide_eq_true_eq]
   exact ext_self hk S
  omega
 ·rw [List.count_eq_zero.mpr hM]
  omega
theorem SI.bound {ws:List Word} {k most:Nat} {found begun:List Rows} (hk:0<k) (h:SI ws k most found begun):found.length<=most*fac most ^ k:=by
 have h1:=nodup_le (l2:=(List.range most).flatMap fun i=>(tables (i+1) k).map fun u=>fullM u (i+1)) (h.nodup hk) (fun M hM=>by
  obtain ⟨u,n,S,rfl⟩:=h.fnd M hM
  have n1:=S.n1
  refine List.mem_flatMap.mpr ⟨n-1,List.mem_range.mpr (by have:=S.le;omega),?_⟩
  rw [show n-1+1=n by omega]
  exact List.mem_map.mpr ⟨u,(mem_tables n k u).mpr S.tb,rfl⟩)
 refine Nat.le_trans h1 ?_
 have key:∀ m,m<=most->((List.range m).flatMap fun i=>(tables (i+1) k).map fun u=>fullM u (i+1)).length<=m*fac most ^ k:=by
  intro m
  induction m with
  | zero=>intro _;simp
  | succ m ih=>
   intro hm
   rw [List.range_succ,List.flatMap_append,List.length_append]
   have h2:=ih (by omega)
   simp only [List.flatMap_cons,List.flatMap_nil,List.append_nil,List.length_map]
   rw [tables_len,Nat.succ_mul]
   have h3:fac (m+1) ^ k<=fac most ^ k:=Nat.pow_le_pow_left (fac_mono hm) k
   omega
 exact key most (Nat.le_refl _)
end Gw
set_option Elab.async false
set_option linter.all false
namespace Gw
open PySem
def Went0 (M:Model) (G:Ctx) (p:Pos):Sem PySem.Fin->Shared->End->Shared->Prop
 | .pure (.done f),s,e,s'=>e=.ret (.ok f)/\s'=s
 | .pure (.again c),s,e,s'=>Runs M (G.goto c) p (M.den c) [] s e s'
 | .raise x,s,e,s'=>e=.ret (.error x)/\s'=s
 | .rule _ k,s,e,s'=>Runs M G p (k ()) [] s e s'
 | .at p' k,s,e,s'=>Runs M G p' (k ()) [] s e s'
 | .load a _ k,s,e,s'=>∃ o,s.heap.get? a=some o/\Runs M G p (k o) [] s e s'
 | .update a _ f k,s,e,s'=>Runs M G p (k ()) [] {s with heap:=s.heap.update a f} e s'
 | .loadIfAlive a k,s,e,s'=>Runs M G p (k (s.heap.get? a)) [] s e s'
 | .point _ k,s,e,s'=>Runs M G p (k ()) [] s e s'
 | .alloc o k,s,e,s'=>Runs M G p (k s.heap.objs.size) [] {s with heap:=s.heap.push o} e s'
 | .fresh k,s,e,s'=>Runs M G p (k s.toks) [] {s with toks:=s.toks+1} e s'
 | .ask k,s,e,s'=>Runs M G p (k ⟨M.prog,M.w.params⟩) [] s e s'
 | .choose src n k,s,e,s'=>Runs M G p (k (M.w.draws src (s.drawn.get src) % n)) [] {s with drawn:=s.drawn.bump src} e s'
 | .os q _ k,s,e,s'=>Runs M G p (k (Os.step s.os q).2) [] {s with os:=(Os.step s.os q).1} e s'
 | .handled own k,s,e,s'=>Runs M G p (k (if own then G.own else G.handled)) [] s e s'
 | .genState g k,s,e,s'=>∃ st,s.gens[g]?=some st/\Runs M G p (k st.seen) [] s e s'
 | .stack k,s,e,s'=>Runs M G p (k ((G.code,p) :: G.below)) [] s e s'
 | .thread k,s,e,s'=>Runs M G p (k 0) [] s e s'
 | .newGen c k,s,e,s'=>Runs M G p (k s.gens.size) [] {s with gens:=s.gens.push (.fresh c)} e s'
 | .call c h g l k,s,e,s'=>∃ e0 s1,Runs M (G.enter c h p) p (M.den c) [] s e0 s1/\match e0 with
  | .ret r=>Runs M G p (k r) [] s1 e s'
  | .susp v g0 l0 k0 c0 p0 fs=>e=.susp v g0 l0 k0 c0 p0 (fs++[.ret k h g l G.code p []])/\s'=s1
 | .yield v g l k,s,e,s'=>e=.susp v g l k G.code p []/\s'=s
 | .resume g r _ k,s,e,s'=>∃ res s1,Wakes M G p g r s res s1/\Runs M G p (k res) [] s1 e s'
 | _,_,_,_=>False
def Went (M:Model) (G:Ctx) (p:Pos) (t:Sem PySem.Fin):List Frame->Shared->End->Shared->Prop
 | [],s,e,s'=>Went0 M G p t s e s'
 | F :: fs,s,e,s'=>∃ e0 s1,Runs M (G.over (F :: fs)) p t [] s e0 s1/\match e0 with
  | .ret r=>(match F with
   | .ret k _ _ _ c1 p1 _=>Runs M (G.goto c1) p1 (k r) fs s1 e s'
   | .gen g k _ c1 p1=>Runs M (G.goto c1) p1 (k (End.ret r).result) fs (s1.setGen g .finished) e s')
  | .susp v g0 l0 k0 c0 p0 fs0=>match splitAtGen (F :: fs) with
   | none=>e=.susp v g0 l0 k0 c0 p0 (fs0++F :: fs)/\s'=s1
   | some (pre,(g,k,c1,p1),rest)=>Runs M (G.goto c1) p1 (k (.yielded v)) rest (s1.setGen g (End.susp v g0 l0 k0 c0 p0 (fs0++pre)).genState) e s'
theorem went {M:Model} {G:Ctx} {p:Pos} {t:Sem PySem.Fin} {fs:List Frame} {s s':Shared} {e:End} (h:Runs M G p t fs s e s'):Went M G p t fs s e s':=by
 cases h with
 | done=>exact ⟨rfl,rfl⟩
 | raise=>exact ⟨rfl,rfl⟩
 | yield=>exact ⟨rfl,rfl⟩
 | again _ b=>exact b
 | load e b=>exact ⟨_,e,b⟩
 | genState e b=>exact ⟨_,e,b⟩
 | update _ b=>exact b
 | choose _ b=>exact b
 | call a b=>exact ⟨_,_,a,b⟩
 | callSusp a=>exact ⟨_,_,a,rfl,rfl⟩
 | resumeFresh g a q b=>exact ⟨_,_,(by unfold Wakes;rw [g];exact ⟨_,_,a,q,rfl,rfl⟩),b⟩
 | resumeSuspended g a q b=>exact ⟨_,_,(by unfold Wakes;rw [g];exact ⟨_,_,a,q,rfl,rfl⟩),b⟩
 | resumeJustStarted g n b=>exact ⟨_,_,(by unfold Wakes;rw [g];dsimp only;split<;>first | exact ⟨rfl,rfl⟩ | (exfalso;rename_i e;first | exact n (Resume.send.inj e) | (cases e;exact n rfl) | cases e)),b⟩
 | resumeThrowFresh g b=>exact ⟨_,_,(by unfold Wakes;rw [g];exact ⟨rfl,rfl⟩),b⟩
 | resumeRunning g b=>exact ⟨_,_,(by unfold Wakes;rw [g];exact ⟨rfl,rfl⟩),b⟩
 | resumeFinished g b=>exact ⟨_,_,(by unfold Wakes;rw [g];exact ⟨rfl,rfl⟩),b⟩
 | segRet a b=>exact ⟨_,_,a,b⟩
 | segGen a b=>exact ⟨_,_,a,b⟩
 | segSuspOut n a=>exact ⟨_,_,a,by rw [n];exact ⟨rfl,rfl⟩⟩
 | segSuspGen n a _ b=>exact ⟨_,_,a,by rw [n];exact b⟩
 | _=>assumption
theorem runs_one {M:Model} {G:Ctx} {p:Pos} {t:Sem PySem.Fin} {fs:List Frame} {s s1:Shared} {e1:End} (h:Runs M G p t fs s e1 s1) :
  ∀ {e2:End} {s2:Shared},Runs M G p t fs s e2 s2->e1=e2/\s1=s2:=by
 induction h with
 | done=>intro e2 s2 h2;obtain ⟨rfl,rfl⟩:=went h2;exact ⟨rfl,rfl⟩
 | raise=>intro e2 s2 h2;obtain ⟨rfl,rfl⟩:=went h2;exact ⟨rfl,rfl⟩
 | yield=>intro e2 s2 h2;obtain ⟨rfl,rfl⟩:=went h2;exact ⟨rfl,rfl⟩
 | again _ _ ih=>intro e2 s2 h2;exact ih (went h2)
 | load e _ ih=>intro e2 s2 h2;obtain ⟨o,e',b⟩:=went h2;rw [e] at e';cases e';exact ih b
 | genState e _ ih=>intro e2 s2 h2;obtain ⟨o,e',b⟩:=went h2;rw [e] at e';cases e';exact ih b
 | update _ _ ih=>intro e2 s2 h2;exact ih (went h2)
 | choose _ _ ih=>intro e2 s2 h2;exact ih (went h2)
 | call _ _ ih1 ih2=>intro e2 s2 h2;obtain ⟨e0,s0,a,b⟩:=went h2;obtain ⟨rfl,rfl⟩:=ih1 a;exact ih2 b
 | callSusp _ ih=>intro e2 s2 h2;obtain ⟨e0,s0,a,b⟩:=went h2;obtain ⟨rfl,rfl⟩:=ih a;obtain ⟨rfl,rfl⟩:=b;exact ⟨rfl,rfl⟩
 | resumeFresh g _ _ _ ih1 ih2=>intro e2 s2 h2;obtain ⟨r,s0,a,b⟩:=went h2;unfold Wakes at a;rw [g] at a;obtain ⟨_,_,a,_,rfl,rfl⟩:=a;obtain ⟨rfl,rfl⟩:=ih1 a;exact ih2 b
 | resumeSuspended g _ _ _ ih1 ih2=>intro e2 s2 h2;obtain ⟨r,s0,a,b⟩:=went h2;unfold Wakes at a;rw [g] at a;obtain ⟨_,_,a,_,rfl,rfl⟩:=a;obtain ⟨rfl,rfl⟩:=ih1 a;exact ih2 b
 | resumeJustStarted g n _ ih=>
  intro e2 s2 h2;obtain ⟨r,s0,a,b⟩:=went h2;unfold Wakes at a;rw [g] at a;dsimp only at a
  split at a
  ·rename_i e;exact absurd (Resume.send.inj e) n
  ·obtain ⟨rfl,rfl⟩:=a;exact ih b
  ·rename_i e;cases e
 | resumeThrowFresh g _ ih=>intro e2 s2 h2;obtain ⟨r,s0,a,b⟩:=went h2;unfold Wakes at a;rw [g] at a;obtain ⟨rfl,rfl⟩:=a;exact ih b
 | resumeRunning g _ ih=>intro e2 s2 h2;obtain ⟨r,s0,a,b⟩:=went h2;unfold Wakes at a;rw [g] at a;obtain ⟨rfl,rfl⟩:=a;exact ih b
 | resumeFinished g _ ih=>intro e2 s2 h2;obtain ⟨r,s0,a,b⟩:=went h2;unfold Wakes at a;rw [g] at a;obtain ⟨rfl,rfl⟩:=a;exact ih b
 | segRet _ _ ih1 ih2=>intro e2 s2 h2;obtain ⟨e0,s0,a,b⟩:=went h2;obtain ⟨rfl,rfl⟩:=ih1 a;exact ih2 b
 | segGen _ _ ih1 ih2=>intro e2 s2 h2;obtain ⟨e0,s0,a,b⟩:=went h2;obtain ⟨rfl,rfl⟩:=ih1 a;exact ih2 b
 | segSuspOut n _ ih=>intro e2 s2 h2;obtain ⟨e0,s0,a,b⟩:=went h2;obtain ⟨rfl,rfl⟩:=ih a;rw [n] at b;obtain ⟨rfl,rfl⟩:=b;exact ⟨rfl,rfl⟩
 | segSuspGen n _ _ _ ih1 ih2=>intro e2 s2 h2;obtain ⟨e0,s0,a,b⟩:=went h2;obtain ⟨rfl,rfl⟩:=ih1 a;rw [n] at b;exact ih2 b
 | _=>intro e2 s2 h2;rename_i ih;exact ih (went h2)
theorem wakes_one {M:Model} {G:Ctx} {p:Pos} {g:Nat} {r:Resume} {s s1 s2:Shared} {a b:GenResult} (h:Wakes M G p g r s a s1) (k:Wakes M G p g r s b s2):a=b/\s1=s2:=by
 unfold Wakes at h k
 split at h
 ·exact h.elim
 ·rename_i c e;rw [e] at k;dsimp only at k
  rcases r with v | x
  ·by_cases n:v=.none
   ·subst n
    obtain ⟨x,y,h1,_,rfl,rfl⟩:=h;obtain ⟨x',y',k1,_,rfl,rfl⟩:=k
    obtain ⟨rfl,rfl⟩:=runs_one h1 k1;exact ⟨rfl,rfl⟩
   ·have h':a=.justStarted/\s1=s:=by cases v<;>first | exact h | exact absurd rfl n
    have k':b=.justStarted/\s2=s:=by cases v<;>first | exact k | exact absurd rfl n
    exact ⟨h'.1.trans k'.1.symm,h'.2.trans k'.2.symm⟩
  ·exact ⟨h.1.trans k.1.symm,h.2.trans k.2.symm⟩
 ·rename_i e;rw [e] at k;dsimp only at k
  obtain ⟨x,y,h1,_,rfl,rfl⟩:=h;obtain ⟨x',y',k1,_,rfl,rfl⟩:=k
  obtain ⟨rfl,rfl⟩:=runs_one h1 k1;exact ⟨rfl,rfl⟩
 ·rename_i e;rw [e] at k;obtain ⟨rfl,rfl⟩:=h;obtain ⟨rfl,rfl⟩:=k;exact ⟨rfl,rfl⟩
 ·rename_i e;rw [e] at k;obtain ⟨rfl,rfl⟩:=h;obtain ⟨rfl,rfl⟩:=k;exact ⟨rfl,rfl⟩
theorem wp_meet {a:Type} {M:Model} {G:Ctx} {Q Q':a->Pos->Shared->Prop} {E:Value->Pos->Shared->Prop} (t:Sem a) :
  ∀ {p:Pos} {s:Shared},Sem.wp M G t Q E p s->Sem.wp M G t Q' (fun _ _ _=>False) p s->∃ x p1 s1,Q x p1 s1/\Q' x p1 s1:=by
 induction t with
 | pure x=>intro p s h k;rw [Sem.wp] at h k;exact ⟨x,p,s,h,k⟩
 | raise x=>intro p s h k;rw [Sem.wp] at k;exact k.elim
 | unsupported w=>intro p s h k;rw [Sem.wp] at k;exact k.elim
 | finish w=>intro p s h k;rw [Sem.wp] at k;exact k.elim
 | register _ _=>intro p s h k;rw [Sem.wp] at k;exact k.elim
 | yield _ _ _ _=>intro p s h k;rw [Sem.wp] at k;exact k.elim
 | fork _ _=>intro p s h k;rw [Sem.wp] at k;exact k.elim
 | await _ _ _ _ _=>intro p s h k;rw [Sem.wp] at k;exact k.elim
 | load _ _ _ ih=>intro p s h k;rw [Sem.wp] at h k;obtain ⟨o,e,h⟩:=h;obtain ⟨o',e',k⟩:=k;rw [e] at e';cases e';exact ih _ h k
 | update _ _ _ _ ih=>intro p s h k;rw [Sem.wp] at h k;exact ih _ h.2 k.2
 | choose _ _ _ ih=>intro p s h k;rw [Sem.wp] at h k;exact ih _ h.2 k.2
 | genState _ _ ih=>intro p s h k;rw [Sem.wp] at h k;obtain ⟨o,e,h⟩:=h;obtain ⟨o',e',k⟩:=k;rw [e] at e';cases e';exact ih _ h k
 | resume _ _ _ _ ih=>intro p s h k;rw [Sem.wp] at h k;obtain ⟨o,s1,e,h⟩:=h;obtain ⟨o',s2,e',k⟩:=k;obtain ⟨rfl,rfl⟩:=wakes_one e e';exact ih _ h k
 | call _ _ _ _ _ ih=>intro p s h k;rw [Sem.wp] at h k;obtain ⟨o,s1,e,h⟩:=h;obtain ⟨o',s2,e',k⟩:=k;obtain ⟨x,rfl⟩:=runs_one e e';cases x;exact ih _ h k
 | _=>intro p s h k;rename_i ih;rw [Sem.wp] at h k;exact ih _ h k
end Gw
set_option Elab.async false
set_option linter.all false
namespace Gw
open PySem PyProof.Rows
section
variable {M:Model} {G:Ctx} {s:Shared} {k1 k2:SortKind} {P:Value->Prop} {al be:Type}
def Keys (P:Value->Prop) (xs:Array Keyed):Prop:=∀ (i:Nat) (q:Keyed),xs[i]?=some q->P q.1
@[reducible] def flip (k1:SortKind) (st:SortSt):SortSt:=SortSt.mk' k1 (arrOf st) (pendingOf st) (gallopOf st) (failedOf st)
def Asks (M:Model) (G:Ctx) (s:Shared) (k1 k2:SortKind) (P:Value->Prop):Prop:=
 ∀ x y,P x->P y->∃ b:Bool,(∀ p,Sem.wp M G (keyLt' k1 x y) (fun r _ s1=>s1=s/\r=b) (fun _ _ _=>False) p s) /\
  ∀ p,Sem.wp M G (keyLt' k2 x y) (fun r _ s1=>s1=s/\r=b) (fun _ _ _=>False) p s
def Sim (M:Model) (G:Ctx) (s:Shared) (k1 k2:SortKind) (P:Value->Prop) (T:al->Prop) (m m':StateT SortSt Sem al):Prop:=
 ∀ (st:SortSt),kindOf st=k2->Keys P (arrOf st)->∀ (K K':al × SortSt->Pos->Shared->Prop),
  (∀ r st1,T r->kindOf st1=k2->Keys P (arrOf st1)->(∃ p,K' (r,flip k1 st1) p s)->∀ p,K (r,st1) p s) ->
  (∃ p,Sem.wp M G (m'.run (flip k1 st)) K' (fun _ _ _=>False) p s)->∀ p,Sem.wp M G (m.run st) K (fun _ _ _=>False) p s
theorem sim_pure {T:al->Prop} {r:al} (h:T r):Sim M G s k1 k2 P T (pure r) (pure r):=by
 intro st hk hg K K' hK h' p
 obtain ⟨q,h'⟩:=h'
 rw [StateT.run_pure] at h' ⊢
 rw [Sem.wp_pure'] at h' ⊢
 exact hK r st h hk hg ⟨q,h'⟩ p
theorem sim_bind {T:al->Prop} {U:be->Prop} {m m':StateT SortSt Sem al} {f f':al->StateT SortSt Sem be} (h:Sim M G s k1 k2 P T m m')
  (hf:∀ r,T r->Sim M G s k1 k2 P U (f r) (f' r)):Sim M G s k1 k2 P U (m >>= f) (m' >>= f'):=by
 intro st hk hg K K' hK h' p
 obtain ⟨q,h'⟩:=h'
 rw [StateT.run_bind,Sem.wp_bind'] at h' ⊢
 exact h st hk hg _ _ (fun r st1 hr hk1 hg1 h1=>hf r hr st1 hk1 hg1 K K' hK h1) ⟨q,h'⟩ p
theorem sim_get {U:be->Prop} {f f':SortSt->StateT SortSt Sem be} (hf:∀ st,kindOf st=k2->Keys P (arrOf st)->Sim M G s k1 k2 P U (f st) (f' (flip k1 st))) :
  Sim M G s k1 k2 P U (get >>= f) (get >>= f'):=by
 intro st hk hg K K' hK h' p
 obtain ⟨q,h'⟩:=h'
 rw [StateT.run_bind,StateT.run_get,Sem.wp_bind',Sem.wp_pure'] at h' ⊢
 exact hf st hk hg st hk hg K K' hK ⟨q,h'⟩ p
theorem sim_modify {f:SortSt->SortSt} (h1:∀ st,kindOf (f st)=kindOf st) (h2:∀ st,Keys P (arrOf st)->Keys P (arrOf (f st))) (h3:∀ st,f (flip k1 st)=flip k1 (f st)) :
  Sim M G s k1 k2 P (fun _=>True) (modify f) (modify f):=by
 intro st hk hg K K' hK h' p
 obtain ⟨q,h'⟩:=h'
 rw [StateT.run_modify,Sem.wp_pure'] at h' ⊢
 rw [h3] at h'
 exact hK _ _ trivial ((h1 st).trans hk) (h2 st hg) ⟨q,h'⟩ p
theorem sim_set {st2:SortSt} (hk:kindOf st2=k2) (hg:Keys P (arrOf st2)):Sim M G s k1 k2 P (fun _=>True) (set st2) (set (flip k1 st2)):=by
 intro st _ _ K K' hK h' p
 obtain ⟨q,h'⟩:=h'
 rw [StateT.run_set,Sem.wp_pure'] at h' ⊢
 exact hK _ _ trivial hk hg ⟨q,h'⟩ p
theorem sim_rule {tag:String}:Sim M G s k1 k2 P (fun _=>True) (liftM (rule tag:Sem Unit)) (liftM (rule tag:Sem Unit)):=by
 intro st hk hg K K' hK h' p
 obtain ⟨q,h'⟩:=h'
 have h2:Sem.wp M G ((StateT.lift (rule tag:Sem Unit):StateT SortSt Sem Unit).run (flip k1 st)) K' (fun _ _ _=>False) q s:=h'
 show Sem.wp M G ((StateT.lift (rule tag:Sem Unit):StateT SortSt Sem Unit).run st) K (fun _ _ _=>False) p s
 rw [StateT.run_lift,Sem.wp_bind'] at h2 ⊢
 exact hK () st trivial hk hg ⟨q,h2⟩ p
theorem sim_off {T:al->Prop} {tag:String} {m:StateT SortSt Sem al}:Sim M G s k1 k2 P T m (liftM (unsupported tag:Sem al)):=by
 intro st hk hg K K' hK h' p
 obtain ⟨q,h'⟩:=h'
 have h2:Sem.wp M G ((StateT.lift (unsupported tag:Sem al):StateT SortSt Sem al).run (flip k1 st)) K' (fun _ _ _=>False) q s:=h'
 rw [StateT.run_lift,Sem.wp_bind'] at h2
 exact h2.elim
theorem sim_elem {xs:Array Keyed} {i:Nat} (h:Keys P xs):Sim M G s k1 k2 P (fun q=>P q.1) (elem' xs i) (elem' xs i):=by
 rw [elem'_eq]
 cases e:xs[i]? with
 | none=>exact sim_off
 | some q=>exact sim_pure (h i q e)
theorem sim_ask (H:Asks M G s k1 k2 P) {x y:Value} (hx:P x) (hy:P y) :
  Sim M G s k1 k2 P (fun r=>∃ b,r=Except.ok b) (liftM (keyLt' k2 x y).attempt) (liftM (keyLt' k1 x y).attempt):=by
 intro st hk hg K K' hK h' p
 obtain ⟨q,h'⟩:=h'
 obtain ⟨b,e1,e2⟩:=H x y hx hy
 have h2:Sem.wp M G ((StateT.lift (keyLt' k1 x y).attempt:StateT SortSt Sem _).run (flip k1 st)) K' (fun _ _ _=>False) q s:=h'
 show Sem.wp M G ((StateT.lift (keyLt' k2 x y).attempt:StateT SortSt Sem _).run st) K (fun _ _ _=>False) p s
 rw [StateT.run_lift,Sem.wp_bind',Sem.wp_attempt] at h2 ⊢
 obtain ⟨r,p1,s1,h1,rfl,rfl⟩:=wp_meet _ h2 (e1 q)
 refine Sem.wp_mono M G _ ?_ ?_ p s1 (e2 p)
 ·rintro r p2 s2 ⟨rfl,rfl⟩
  exact hK _ st ⟨_,rfl⟩ hk hg ⟨p1,h1⟩ p2
 ·exact fun _ _ _ h=>h.elim
theorem sim_lt (H:Asks M G s k1 k2 P) {x y:Keyed} (hx:P x.1) (hy:P y.1):Sim M G s k1 k2 P (fun _=>True) (lt' x y) (lt' x y):=by
 rw [lt'_eq]
 refine sim_get fun st hk hg=>?_
 rw [hk]
 refine sim_bind (sim_ask H hx hy) fun r hr=>?_
 obtain ⟨b,rfl⟩:=hr
 exact sim_pure trivial
theorem sim_ite {T:al->Prop} {c:Prop} [Decidable c] {a b a' b':StateT SortSt Sem al} (h1:c->Sim M G s k1 k2 P T a a') (h2:¬ c->Sim M G s k1 k2 P T b b') :
  Sim M G s k1 k2 P T (if c then a else b) (if c then a' else b'):=by
 split
 ·exact h1 ‹_›
 ·exact h2 ‹_›
theorem sim_list {J:be->Prop} {f f':Nat->be->StateT SortSt Sem (ForInStep be)}
  (h:∀ i b,J b->Sim M G s k1 k2 P (fun r=>match r with | .done b=>J b | .yield b=>J b) (f i b) (f' i b)) :
  ∀ (l:List Nat) {b:be},J b->Sim M G s k1 k2 P J (forIn l b f) (forIn l b f')
 | [],b,hb=>by rw [List.forIn_nil,List.forIn_nil];exact sim_pure hb
 | i :: l,b,hb=>by
  rw [List.forIn_cons,List.forIn_cons]
  refine sim_bind (h i b hb) fun r hr=>?_
  cases r with
  | done b=>exact sim_pure hr
  | yield b=>exact sim_list h l hr
theorem sim_for {J:be->Prop} {lo hi:Nat} {f f':Nat->be->StateT SortSt Sem (ForInStep be)} {b:be} (hb:J b)
  (h:∀ i b,J b->Sim M G s k1 k2 P (fun r=>match r with | .done b=>J b | .yield b=>J b) (f i b) (f' i b)) :
  Sim M G s k1 k2 P J (forIn [lo:hi] b f) (forIn [lo:hi] b f'):=by
 rw [Std.Legacy.Range.forIn_eq_forIn_range',Std.Legacy.Range.forIn_eq_forIn_range']
 exact sim_list h _ hb
theorem sim_ltAt (H:Asks M G s k1 k2 P) {i j:Nat}:Sim M G s k1 k2 P (fun _=>True) (ltAt' i j) (ltAt' i j):=by
 rw [ltAt'_eq]
 refine sim_get fun st hk hg=>?_
 exact sim_bind (sim_elem hg) fun x hx=>sim_bind (sim_elem hg) fun y hy=>sim_lt H hx hy
end
end Gw
set_option Elab.async false
set_option linter.all false
namespace Gw
open PySem PyProof.Rows
section
variable {M:Model} {G:Ctx} {s:Shared} {k1 k2:SortKind} {P:Value->Prop} {al be:Type}
theorem Keys.ofMem {xs:Array Keyed} (h:∀ q∈xs,P q.1):Keys P xs:=fun i q e=>h q (Array.mem_of_getElem? e)
theorem Keys.mem {xs:Array Keyed} (h:Keys P xs) {q:Keyed} (m:q∈xs):P q.1:=by
 obtain ⟨i,hi,e⟩:=Array.getElem_of_mem m
 exact h i q (by rw [Array.getElem?_eq_getElem hi,e])
theorem Keys.swap {xs:Array Keyed} (h:Keys P xs) (i j:Nat):Keys P (xs.swapIfInBounds i j):=by
 unfold Array.swapIfInBounds
 split
 ·split
  ·refine Keys.ofMem fun q m=>h.mem ((Array.Perm.mem_iff (Array.swap_perm _ _)).mp m)
  ·exact h
 ·exact h
theorem Keys.swaps {u v:Nat->Nat}:∀ (l:List Nat) {xs:Array Keyed},Keys P xs->Keys P (l.foldl (fun a k=>a.swapIfInBounds (u k) (v k)) xs)
 | [],xs,h=>h
 | k :: l,xs,h=>Keys.swaps l (h.swap _ _)
theorem Keys.set {xs:Array Keyed} (h:Keys P xs) {i:Nat} {q:Keyed} (hq:P q.1):Keys P (xs.setIfInBounds i q):=by
 intro j r e
 rw [Array.getElem?_setIfInBounds] at e
 split at e
 ·split at e
  ·cases e;exact hq
  ·cases e
 ·exact h j r e
theorem Keys.sets {c:Nat}:∀ (l:List (Keyed × Nat)) {xs:Array Keyed},(∀ q∈l,P q.1.1)->Keys P xs->Keys P (l.foldl (fun a x=>a.setIfInBounds (c+x.2) x.1) xs)
 | [],xs,_,h=>h
 | (p,j) :: l,xs,hl,h=>Keys.sets l (fun q m=>hl q (.tail _ m)) (h.set (hl (p,j) (.head _)))
theorem Keys.extract {xs:Array Keyed} (h:Keys P xs) (i j:Nat):Keys P (xs.extract i j):=by
 refine Keys.ofMem fun q m=>h.mem ?_
 rw [<-Array.mem_toList_iff] at m ⊢
 rw [Array.toList_extract] at m
 exact List.mem_of_mem_drop (List.mem_of_mem_take m)
theorem Keys.app {xs ys:Array Keyed} (h:Keys P xs) (h':Keys P ys):Keys P (xs++ys):=
 Keys.ofMem fun q m=>(Array.mem_append.mp m).elim h.mem h'.mem
theorem Keys.push {xs:Array Keyed} (h:Keys P xs) {q:Keyed} (h':P q.1):Keys P (xs.push q):=
 Keys.ofMem fun r m=>(Array.mem_push.mp m).elim h.mem fun e=>e ▸ h'
theorem Keys.rev {xs:Array Keyed} (h:Keys P xs):Keys P xs.reverse:=Keys.ofMem fun r m=>h.mem (Array.mem_reverse.mp m)
theorem Keys.one {q:Keyed} (h':P q.1):Keys P #[q]:=Keys.ofMem fun r m=>by
 have e:r=q:=by simpa using m
 exact e ▸ h'
theorem sim_reverse {i j:Nat}:Sim M G s k1 k2 P (fun _=>True) (reverseSlice' i j) (reverseSlice' i j):=by
 rw [reverseSlice'_eq]
 exact sim_modify (fun _=>rfl) (fun st h=>Keys.swaps _ h) (fun _=>rfl)
theorem sim_move {i j:Nat}:Sim M G s k1 k2 P (fun _=>True) (moveDown' i j) (moveDown' i j):=by
 rw [moveDown'_eq]
 exact sim_modify (fun _=>rfl) (fun st h=>Keys.swaps _ h) (fun _=>rfl)
theorem sim_minGallop {g:Nat}:Sim M G s k1 k2 P (fun _=>True) (setMinGallop' g) (setMinGallop' g):=by
 rw [setMinGallop'_eq]
 exact sim_modify (fun _=>rfl) (fun st h=>h) (fun _=>rfl)
local macro_rules | `(tactic| walk_at "sim") => `(tactic| with_reducible (first
 | exact sim_pure trivial
 | (refine sim_ite (fun _=>?_) (fun _=>?_))
 | (refine sim_bind (sim_ltAt ‹_›) fun r _=>?_;rcases r with _ | r<;>try dsimp only)
 | (refine sim_bind sim_reverse fun _ _=>?_;try dsimp only)
 | (refine sim_bind sim_move fun _ _=>?_;try dsimp only)
 | (refine sim_bind sim_rule fun _ _=>?_;try dsimp only)
 | (refine sim_bind (sim_for (J:=fun _=>True) trivial fun _ b _=>?_) fun b _=>?_;all_goals (rcases b with ⟨_ | _,_⟩<;>try dsimp only))))
theorem sim_binary (H:Asks M G s k1 k2 P) {lo n ok:Nat}:Sim M G s k1 k2 P (fun _=>True) (binarySort' lo n ok) (binarySort' lo n ok):=by
 rw [binarySort'_eq]
 repeat' walk_at "sim"
theorem sim_count (H:Asks M G s k1 k2 P) {lo n:Nat}:Sim M G s k1 k2 P (fun _=>True) (countRun' lo n) (countRun' lo n):=by
 rw [countRun'_eq]
 repeat' walk_at "sim"
theorem sim_beyond (H:Asks M G s k1 k2 P) {left:Bool} {key:Keyed} {arr:Array Keyed} {base i:Nat} (hk:P key.1) (ha:Keys P arr) :
  Sim M G s k1 k2 P (fun _=>True) (beyond' left key arr base i) (beyond' left key arr base i):=by
 unfold beyond'
 refine sim_bind (sim_elem ha) fun x hx=>?_
 refine sim_ite (fun _=>sim_lt H hx hk) fun _=>?_
 exact sim_bind (sim_lt H hk hx) fun _ _=>sim_pure trivial
local macro_rules | `(tactic| walk_at "simg") => `(tactic| with_reducible (first
 | exact sim_pure trivial
 | (refine sim_ite (fun _=>?_) (fun _=>?_))
 | (refine sim_bind (sim_beyond ‹_› ‹_› ‹_›) fun r _=>?_;rcases r with _ | r<;>try dsimp only)
 | (refine sim_bind (sim_for (J:=fun _=>True) trivial fun _ b _=>?_) fun b _=>?_;all_goals (rcases b with ⟨_ | _,_⟩<;>try dsimp only))))
theorem sim_gallop (H:Asks M G s k1 k2 P) {left:Bool} {key:Keyed} {arr:Array Keyed} {base n hint:Nat} (hk:P key.1) (ha:Keys P arr) :
  Sim M G s k1 k2 P (fun _=>True) (gallop' left key arr base n hint) (gallop' left key arr base n hint):=by
 rw [gallop'_eq]
 repeat' walk_at "simg"
def KeysO (P:Value->Prop):Option (Array Keyed)->Prop
 | none=>True
 | some r=>Keys P r
theorem KeysO.mk {r:Array Keyed} (h:Keys P r):KeysO P (some r):=h
theorem KeysO.nil:KeysO P none:=trivial
theorem KeysO.get {r:Array Keyed} (h:KeysO P (some r)):Keys P r:=h
def JLo (P:Value->Prop) {g:Type} (b:Option (Array Keyed) × Array Keyed × g):Prop:=KeysO P b.1/\Keys P b.2.1
theorem JLo.mk {g:Type} {r:Option (Array Keyed)} {out:Array Keyed} {c:g} (h:KeysO P r) (k:Keys P out):JLo (g:=g) P (r,out,c):=⟨h,k⟩
theorem JLo.out {g:Type} {r:Option (Array Keyed)} {out:Array Keyed} {c:g} (h:JLo (g:=g) P (r,out,c)):Keys P out:=h.2
theorem JLo.res {g:Type} {r:Option (Array Keyed)} {out:Array Keyed} {c:g} (h:JLo (g:=g) P (r,out,c)):KeysO P r:=h.1
def JHi (P:Value->Prop) {g:Type} (b:Option (Array Keyed) × Nat × Nat × Array Keyed × g):Prop:=KeysO P b.1/\Keys P b.2.2.2.1
theorem JHi.mk {g:Type} {r:Option (Array Keyed)} {out:Array Keyed} {na nb:Nat} {c:g} (h:KeysO P r) (k:Keys P out):JHi (g:=g) P (r,na,nb,out,c):=⟨h,k⟩
theorem JHi.out {g:Type} {r:Option (Array Keyed)} {out:Array Keyed} {na nb:Nat} {c:g} (h:JHi (g:=g) P (r,na,nb,out,c)):Keys P out:=h.2
theorem JHi.res {g:Type} {r:Option (Array Keyed)} {out:Array Keyed} {na nb:Nat} {c:g} (h:JHi (g:=g) P (r,na,nb,out,c)):KeysO P r:=h.1
local macro_rules | `(tactic| walk_at "keys") => `(tactic| (repeat' (with_reducible first | assumption | apply Keys.app | apply Keys.push | apply Keys.extract | apply Keys.rev)))
local macro_rules | `(tactic| walk_at "siml") => `(tactic| first
 | with_reducible exact sim_off
 | with_reducible (refine sim_ite (fun _=>?_) (fun _=>?_))
 | with_reducible (refine sim_bind (sim_elem ‹_›) fun r _=>?_;try dsimp only)
 | with_reducible (refine sim_bind (sim_lt ‹_› ‹_› ‹_›) fun r _=>?_;rcases r with _ | r<;>try dsimp only)
 | with_reducible (refine sim_bind (sim_gallop ‹_› ‹_› ‹_›) fun r _=>?_;rcases r with _ | r<;>try dsimp only)
 | with_reducible (refine sim_bind sim_minGallop fun _ _=>?_;try dsimp only)
 | with_reducible (refine sim_bind sim_rule fun _ _=>?_;try dsimp only)
 | with_reducible (refine sim_bind (sim_for (J:=JLo P) (JLo.mk KeysO.nil ?_) fun _ c hc=>?_) fun c hc=>?_;walk_at "keys";all_goals (rcases c with ⟨_ | r,out,c⟩;all_goals (have hR:=JLo.res hc;replace hc:=JLo.out hc;try replace hR:=KeysO.get hR;try dsimp only)))
 | (refine sim_pure (JLo.mk ?_ ?_);(first | exact trivial | (refine KeysO.mk ?_;walk_at "keys"));walk_at "keys"))
local macro_rules | `(tactic| walk_at "simh") => `(tactic| first
 | with_reducible exact sim_off
 | with_reducible (refine sim_ite (fun _=>?_) (fun _=>?_))
 | with_reducible (refine sim_bind (sim_elem ‹_›) fun r _=>?_;try dsimp only)
 | with_reducible (refine sim_bind (sim_lt ‹_› ‹_› ‹_›) fun r _=>?_;rcases r with _ | r<;>try dsimp only)
 | with_reducible (refine sim_bind (sim_gallop ‹_› ‹_› ‹_›) fun r _=>?_;rcases r with _ | r<;>try dsimp only)
 | with_reducible (refine sim_bind sim_minGallop fun _ _=>?_;try dsimp only)
 | with_reducible (refine sim_bind sim_rule fun _ _=>?_;try dsimp only)
 | with_reducible (refine sim_bind (sim_for (J:=JHi P) (JHi.mk KeysO.nil ?_) fun _ c hc=>?_) fun c hc=>?_;walk_at "keys";all_goals (rcases c with ⟨_ | r,na,nb,out,c⟩;all_goals (have hR:=JHi.res hc;replace hc:=JHi.out hc;try replace hR:=KeysO.get hR;try dsimp only)))
 | (refine sim_pure (JHi.mk ?_ ?_);(first | exact trivial | (refine KeysO.mk ?_;walk_at "keys"));walk_at "keys"))
set_option maxHeartbeats 4000000 in
theorem sim_lo (H:Asks M G s k1 k2 P) {a b:Array Keyed} (ha:Keys P a) (hb:Keys P b):Sim M G s k1 k2 P (Keys P) (mergeLo' a b) (mergeLo' a b):=by
 rw [mergeLo'_eq]
 refine sim_bind sim_rule fun _ _=>?_
 dsimp only
 refine sim_bind (sim_elem hb) fun x hx=>?_
 refine sim_ite (fun _=>?_) (fun _=>?_)
 ·exact sim_pure (((Keys.one hx).app (ha.extract _ _)).app (hb.extract _ _))
 refine sim_ite (fun _=>?_) (fun _=>?_)
 ·exact sim_pure (((Keys.one hx).app (hb.extract _ _)).app (ha.extract _ _))
 refine sim_get fun st hk hg=>?_
 refine sim_bind (sim_for (J:=JLo P) (JLo.mk trivial (Keys.one hx)) fun _ c hc=>?_) fun c hc=>?_
 rotate_left
 ·rcases c with ⟨_ | r,c⟩
  ·exact sim_off
  ·exact sim_pure (KeysO.get hc.1)
 rcases c with ⟨r,out,ia,ib,g⟩
 replace hc:=JLo.out hc
 dsimp only
 repeat' walk_at "siml"
set_option maxHeartbeats 4000000 in
theorem sim_hi (H:Asks M G s k1 k2 P) {a b:Array Keyed} (ha:Keys P a) (hb:Keys P b):Sim M G s k1 k2 P (Keys P) (mergeHi' a b) (mergeHi' a b):=by
 rw [mergeHi'_eq]
 refine sim_bind sim_rule fun _ _=>?_
 dsimp only
 refine sim_bind (sim_elem ha) fun x hx=>?_
 refine sim_ite (fun _=>?_) (fun _=>?_)
 ·exact sim_pure (((ha.extract _ _).app (hb.extract _ _)).app (Keys.one hx).rev)
 refine sim_ite (fun _=>?_) (fun _=>?_)
 ·exact sim_pure (((hb.extract _ _).app (ha.extract _ _)).app (Keys.one hx).rev)
 refine sim_get fun st hk hg=>?_
 refine sim_bind (sim_for (J:=JHi P) (JHi.mk trivial (Keys.one hx)) fun _ c hc=>?_) fun c hc=>?_
 rotate_left
 ·rcases c with ⟨_ | r,c⟩
  ·exact sim_off
  ·exact sim_pure (KeysO.get hc.1)
 rcases c with ⟨r,na,nb,out,g⟩
 replace hc:=JHi.out hc
 dsimp only
 repeat' walk_at "simh"
end
end Gw
set_option Elab.async false
set_option linter.all false
namespace Gw
open PySem PyProof.Rows
section
variable {M:Model} {G:Ctx} {s:Shared} {k1 k2:SortKind} {P:Value->Prop}
set_option maxHeartbeats 4000000 in
theorem sim_mergeAt (H:Asks M G s k1 k2 P) {i:Nat}:Sim M G s k1 k2 P (fun _=>True) (mergeAt' i) (mergeAt' i):=by
 rw [mergeAt'_eq]
 refine sim_get fun st hk hg=>?_
 show Sim M G s k1 k2 P (fun _=>True) (match (pendingOf st)[i]?,(pendingOf st)[i+1]? with | _,_=>_) (match (pendingOf st)[i]?,(pendingOf st)[i+1]? with | _,_=>_)
 rcases (pendingOf st)[i]? with _ | ⟨sa,na,pw⟩
 ·exact sim_off
 rcases (pendingOf st)[i+1]? with _ | ⟨sb,nb,pw2⟩
 ·exact sim_off
 dsimp only
 refine sim_bind (sim_set (st2:=setPending st _) hk hg) fun _ _=>?_
 refine sim_bind (sim_elem hg) fun x hx=>?_
 refine sim_bind (sim_gallop H hx hg) fun r _=>?_
 rcases r with _ | k
 ·exact sim_pure trivial
 dsimp only
 refine sim_ite (fun _=>sim_pure trivial) fun _=>?_
 refine sim_bind (sim_elem hg) fun x hx=>?_
 refine sim_bind (sim_gallop H hx hg) fun r _=>?_
 rcases r with _ | k
 ·exact sim_pure trivial
 dsimp only
 refine sim_ite (fun _=>sim_pure trivial) fun _=>?_
 have hm:∀ {m:Array Keyed} {c:Nat},Keys P m->Sim M G s k1 k2 P (fun _=>True)
   (do modify fun s=>setArr s (List.foldl (fun a x=>a.setIfInBounds (c+x.snd) x.fst) (arrOf s) m.toList.zipIdx);let d <-get;pure (failedOf d).isNone)
   (do modify fun s=>setArr s (List.foldl (fun a x=>a.setIfInBounds (c+x.snd) x.fst) (arrOf s) m.toList.zipIdx);let d <-get;pure (failedOf d).isNone):=by
  intro m c h
  refine sim_bind (sim_modify (fun _=>rfl) (fun st hs=>Keys.sets _ (fun q mq=>?_) hs) (fun _=>rfl)) fun _ _=>?_
  ·obtain ⟨x,j⟩:=q
   exact h.mem (Array.mem_toList_iff.mp (List.fst_mem_of_mem_zipIdx mq))
  ·exact sim_get fun st _ _=>sim_pure trivial
 refine sim_ite (fun _=>?_) fun _=>?_
 ·exact sim_bind (sim_lo H (hg.extract _ _) (hg.extract _ _)) fun m h=>hm h
 ·exact sim_bind (sim_hi H (hg.extract _ _) (hg.extract _ _)) fun m h=>hm h
local macro_rules | `(tactic| walk_at "sims") => `(tactic| with_reducible (first
 | exact sim_pure trivial
 | (refine sim_ite (fun _=>?_) (fun _=>?_))
 | (refine sim_bind (sim_count ‹_›) fun r _=>?_;rcases r with _ | r<;>try dsimp only)
 | (refine sim_bind (sim_binary ‹_›) fun r _=>?_;try dsimp only)
 | (refine sim_bind (sim_mergeAt ‹_›) fun r _=>?_;try dsimp only)
 | (refine sim_bind sim_rule fun _ _=>?_;try dsimp only)
 | (refine sim_get fun st2 _ _=>?_;(simp only [show pendingOf (flip k1 st2)=pendingOf st2 from rfl]);generalize pendingOf st2=pd;split<;>try dsimp only)
 | (refine sim_bind (sim_modify (fun _=>rfl) (fun st h=>h) (fun _=>rfl)) fun _ _=>?_;try dsimp only)
 | (refine sim_bind (sim_for (J:=fun _=>True) trivial fun _ b _=>?_) fun b _=>?_;all_goals (rcases b with ⟨_ | _,_⟩<;>try dsimp only))))
set_option maxHeartbeats 4000000 in
theorem sim_sort (H:Asks M G s k1 k2 P):Sim M G s k1 k2 P (fun _=>True) sortRuns' sortRuns':=by
 rw [sortRuns'_eq]
 refine sim_get fun st hk hg=>?_
 dsimp only
 rw [show arrOf (flip k1 st)=arrOf st from rfl]
 generalize (arrOf st).size=n
 generalize minRun' n n 0=mr
 repeat' walk_at "sims"
end
end Gw
set_option Elab.async false
set_option linter.all false
namespace Gw
open PySem PyProof.Rows PySem.SeqAt
open AutoSeq1 (wpAny_loadPart')
open MeetsSeq MeetsSeq2 MeetsSeq3
inductive Nums:List Value->List Int->Prop
 | nil:Nums [] []
 | cons {a:Int} {t:Tok} {ps:List Value} {xs:List Int}:Nums ps xs->Nums (.int a t :: ps) (a :: xs)
def ltI:List Int->List Int->Bool
 | [],[]=>false
 | [],_ :: _=>true
 | _ :: _,[]=>false
 | x :: xs,y :: ys=>if x=y then ltI xs ys else decide (x<y)
set_option maxHeartbeats 4000000 in
theorem lt_loop (l b:Addr) (items items2:Array Value) (n n2:Nat) (dd dd2:Option Addr) (sl sl2:Array (Option Value)) :
  ∀ (ps qs:List Value) (xs ys:List Int) (i:Nat),items.toList.drop i=ps->items2.toList.drop i=qs->items.size=i+ps.length->items2.size=i+qs.length ->
   Nums ps xs->Nums qs ys->Meets (Builtin.«list.__eq__.loop» ⟨[.ref l,.ref b,rawInt i,rawInt 0],[]⟩)
   (fun A R s=>s.heap.get? l=some {cls:=.type "list",dict:=dd,data:=.seq items n,slots:=sl}/\s.heap.get? b=some {cls:=.type "list",dict:=dd2,data:=.seq items2 n2,slots:=sl2} /\
    R (.ok (.ret (.bool (ltI xs ys)))) s):=by
 intro ps
 induction ps with
 | nil=>
  intro qs xs ys i e1 e2 z1 z2 k1 k2 prog w A R s h
  obtain ⟨hp,g,d,tk,os⟩:=s;obtain ⟨hl,hb,h⟩:=h
  wp_walk using wpAny_loadPart' hl,wpAny_loadPart' hb
  have hi1:items[((i:Nat):Int).toNat]?=none:=by simp at z1 ⊢;omega
  rw [hi1]
  have c:ltI xs ys=decide (items.size<items2.size):=by
   cases k1
   cases k2 with
   | nil=>simp at z1 z2;simp [ltI];omega
   | cons k=>simp at z1 z2;simp [ltI];omega
  rw [c] at h
  wp_walk using wpAny_loadPart' hl,wpAny_loadPart' hb
  exact h
 | cons v ps ih=>
  intro qs xs ys i e1 e2 z1 z2 k1 k2 prog w A R s h
  obtain ⟨hp,g,d,tk,os⟩:=s;obtain ⟨hl,hb,h⟩:=h
  have hi1:items[((i:Nat):Int).toNat]?=some v:=by
   have e:=congrArg List.head? e1
   rw [List.head?_drop] at e
   simpa using e
  cases k2 with
  | nil=>
   have hi2:items2[((i:Nat):Int).toNat]?=none:=by simp at z2 ⊢;omega
   cases k1 with
   | @cons a t _ xs k1=>
    have c:ltI (a :: xs) []=decide (items.size<items2.size):=by simp at z1 z2;simp [ltI];omega
    rw [c] at h
    wp_walk using wpAny_loadPart' hl,wpAny_loadPart' hb
    rw [hi1,hi2]
    wp_walk using wpAny_loadPart' hl,wpAny_loadPart' hb
    exact h
  | @cons c u qs ys k2=>
   have hi2:items2[((i:Nat):Int).toNat]?=some (.int c u):=by
    have e:=congrArg List.head? e2
    rw [List.head?_drop] at e
    simpa using e
   cases k1 with
   | @cons a t ps xs k1=>
    wp_walk using wpAny_loadPart' hl,wpAny_loadPart' hb
    rw [hi1,hi2]
    refine wpAny_bind (EqAt.int_int a t c u prog w _ _ ?_)
    have hc:((i:Int)+1)=((i+1:Nat):Int):=by push_cast;rfl
    by_cases ac:a=c
    ·have e:(a==c)=true:=by simpa using ac
     rw [ltI,if_pos ac] at h
     rw [e]
     wp_walk
     rw [hc]
     refine ⟨plainId_quiet plain_eq_loop _,codeAny_builtin entry_eq_loop ?_⟩
     rw [Around.under_plainId plain_eq_loop _]
     exact ih qs xs ys (i+1) (by rw [<-List.drop_drop,e1];rfl) (by rw [<-List.drop_drop,e2];rfl) (by simp at z1;omega) (by simp at z2;omega) k1 k2 prog w A R _ ⟨hl,hb,h⟩
    ·have e:(a==c)=false:=by simpa using ac
     rw [ltI,if_neg ac] at h
     rw [e]
     wp_walk using wpAny_loadPart' hl,wpAny_loadPart' hb
     rw [hi1,hi2]
     exact wpAny_bind (show wpAny (model prog w) _ (richCompare .Lt (.int a t) (.int c u)) _ _ _ from P.lt_int (wpAny_pure h))
theorem list_lt (l b:Addr) (items items2:Array Value) (n n2:Nat) (dd dd2:Option Addr) (sl sl2:Array (Option Value)) {xs ys:List Int} (k1:Nums items.toList xs) (k2:Nums items2.toList ys) :
  Meets (Builtin.«list.__lt__» ⟨[.ref l,.ref b],[]⟩)
   (fun A R s=>s.heap.get? l=some {cls:=.type "list",dict:=dd,data:=.seq items n,slots:=sl}/\s.heap.get? b=some {cls:=.type "list",dict:=dd2,data:=.seq items2 n2,slots:=sl2} /\
    R (.ok (.ret (.bool (ltI xs ys)))) s):=by
 intro prog w A R s h
 obtain ⟨hp,g,d,tk,os⟩:=s;obtain ⟨hl,hb,h⟩:=h
 have f3:=AutoSeq1.sub_list_list
 wp_walk using wpAny_loadPart' hl,wpAny_loadPart' hb
 refine ⟨plainId_quiet plain_eq_loop _,codeAny_builtin entry_eq_loop ?_⟩
 rw [Around.under_plainId plain_eq_loop _]
 exact lt_loop l b items items2 n n2 dd dd2 sl sl2 _ _ xs ys 0 rfl rfl (by simp) (by simp) k1 k2 prog w A R _ ⟨hl,hb,h⟩
section
variable {prog:Program} {w:World} {A:Around} {E:Value->Shared->Prop} {s:Shared}
def NumsAt (h:Heap) (v:Value) (xs:List Int):Prop:=∃ (a:Addr) (items:Array Value),v=.ref a/\h.IsList a items/\Nums items.toList xs
theorem key_lists (hu:A.units<cLine) {x y:Value} {xs ys:List Int} (k1:NumsAt s.heap x xs) (k2:NumsAt s.heap y ys) {Q:Bool->Shared->Prop} (h:Q (ltI xs ys) s) :
  wpAny (model prog w) A (keyLt' oneType' x y) Q E s:=by
 obtain ⟨l,items,rfl,hl,k1⟩:=k1
 obtain ⟨b,items2,rfl,hb,k2⟩:=k2
 obtain ⟨⟨cls,dd,data,sl⟩,ho,hc,n,hd⟩:=id hl
 obtain ⟨⟨cls2,dd2,data2,sl2⟩,ho2,hc2,n2,hd2⟩:=id hb
 simp only at hc hd hc2 hd2
 subst hc hd hc2 hd2
 rw [keyLt'_oneType,oneLt'_eq]
 simp only [if_true]
 refine wpAny_bind (wpAny_cRoomFor hu (wpAny_bind (wpAny_callSpecialIfBound?_slot ⟨_,ho,rfl⟩ F.slot_list_lt
  (call_meets F.slot_list_lt ⟨_,ho,rfl⟩ F.entry_list_lt (F.args_list_lt_2 _ _) (list_lt l b items items2 n n2 dd dd2 sl sl2 k1 k2) ⟨ho,ho2,?_⟩))))
 exact wpAny_truthy_bool h
theorem nums_key {i:Nat} {ps:List Value} {xs:List Int} (k:Nums ps xs):tupItems (fun _=>false) i ps=some (xs.map Sum.inl):=by
 induction k generalizing i with
 | nil=>rfl
 | cons k ih=>rw [tupItems,if_neg (by simp),ih];rfl
theorem numsAt_key {h:Heap} {v:Value} {xs:List Int} (k:NumsAt h v xs):tupKey h (fun _=>false) v=some (xs.map Sum.inl):=by
 obtain ⟨a,items,rfl,⟨o,ho,_,n,hd⟩,k⟩:=k
 simp only [tupKey,ho,hd]
 exact nums_key k
theorem lex_ltI:∀ xs ys:List Int,lexLt itemOrd (xs.map Sum.inl) (ys.map Sum.inl)=ltI xs ys
 | [],[]=>rfl
 | [],_ :: _=>rfl
 | _ :: _,[]=>rfl
 | x :: xs,y :: ys=>by
  rw [List.map_cons,List.map_cons,lex_cons,ltI,lex_ltI xs ys]
  show (decide (x<y)||(!decide (y<x)&&ltI xs ys))=_
  by_cases e:x=y
  ·subst e;simp
  ·rw [if_neg e]
   by_cases c:x<y
   ·simp [c]
   ·have:y<x:=by omega
    simp [c,this]
theorem asks_lists (hu:A.units<cLine) {G:Ctx} (hG:G.In A):Asks (model prog w) G s (tuples' false) oneType' (fun v=>∃ xs,NumsAt s.heap v xs):=by
 rintro x y ⟨xs,k1⟩ ⟨ys,k2⟩
 refine ⟨ltI xs ys,fun p=>?_,fun p=>?_⟩
 ·exact tup_ltAt (shape:=fun _=>false) false A (fun _ _=>False) x y _ _ (numsAt_key k1) (numsAt_key k2) (Q:=fun r s1=>s1=s/\r=ltI xs ys) ⟨rfl,lex_ltI xs ys⟩ G p hG
 ·exact key_lists (E:=fun _ _=>False) (Q:=fun r s1=>s1=s/\r=ltI xs ys) hu k1 k2 ⟨rfl,rfl⟩ G p hG
end
end Gw
set_option Elab.async false
set_option linter.all false
namespace Gw
open PySem PyProof.Rows PySem.W
section
variable {prog:Program} {w:World} {A:Around} {E:Value->Shared->Prop} {s:Shared}
theorem pairsOf_map (vs:List Value):(pairsOf vs).toList=vs.map fun v=>(v,v):=by
 rw [pairsOf_toList]
 induction vs with
 | nil=>rfl
 | cons v vs ih=>rw [List.zip_cons_cons,ih];rfl
theorem pairs_at {vs:List Value} {q:Keyed} (h:q∈pairsOf vs):q.1=q.2/\q.1∈vs:=by
 rw [<-Array.mem_toList_iff,pairsOf_map] at h
 obtain ⟨v,hv,e⟩:=List.mem_map.mp h
 subst e
 exact ⟨rfl,hv⟩
theorem lists_run {vs:List Value} {f:Value->List Int} {Q:Unit->SortSt->Prop} (hu:A.units<cLine) (h2:2<=vs.length) (hv:∀ v∈vs,NumsAt s.heap v (f v))
  (h:∀ st',(arrOf st').Perm (pairsOf vs)->failedOf st'=none->SortedToK (tupKind s.heap (fun _=>false)) (arrOf st') (pairsOf vs).size->Q () st') :
  wpS (model prog w) A E s sortRuns' Q (SortSt.mk' oneType' (pairsOf vs) #[] 7 none):=by
 intro G p hG
 have hk:∀ q∈pairsOf vs,∃ xs,NumsAt s.heap q.1 xs:=fun q m=>⟨_,hv q.1 (pairs_at m).2⟩
 have lib:wpS (model prog w) A (fun _ _=>False) s sortRuns' (fun _ st'=>(arrOf st').Perm (pairsOf vs)/\failedOf st'=none/\SortedToK (tupKind s.heap (fun _=>false)) (arrOf st') (pairsOf vs).size)
   (SortSt.mk' (tuples' false) (pairsOf vs) #[] 7 none):=
  PyProof.Rows.G.wpS_sortRunsSt (κ:=tupKind s.heap (fun _=>false)) (kd:=tuples' false) (a₀:=pairsOf vs) (fun A E x y a b Q=>tup_ltAt false A E x y a b)
   (fun q m=>by obtain ⟨xs,k⟩:=hk q (Array.mem_toList_iff.mp m);exact ⟨_,numsAt_key k⟩) ⟨Array.Perm.refl _,rfl,rfl⟩ rfl (Stable.refl _) (by rw [pairsOf_size];exact h2)
   fun st' a1 a2 a3 _=>⟨a1,a2,a3⟩
 refine Sem.wp_mono _ _ _ (fun _ _ _ h=>h) (fun _ _ _ h=>h.elim) p s (sim_sort (asks_lists (prog:=prog) (w:=w) (s:=s) hu hG) (SortSt.mk' oneType' (pairsOf vs) #[] 7 none) rfl
  (Keys.ofMem hk) (fun r _ s'=>s'=s/\Q r.1 r.2) (fun r _ s'=>s'=s/\_) ?_ ⟨p,lib G p hG⟩ p)
 rintro r st1 _ _ _ ⟨_,_,a1,a2,a3⟩ _
 exact ⟨rfl,h st1 a1 a2 a3⟩
theorem sorted_out {h:Heap} {vs:List Value} {f:Value->List Int} (hv:∀ v∈vs,NumsAt h v (f v)) {arr:Array Keyed} (hp:arr.Perm (pairsOf vs))
  (hs:SortedToK (tupKind h (fun _=>false)) arr (pairsOf vs).size):((arr.map (·.2)).toList).Perm vs/\((arr.map (·.2)).toList).Pairwise fun x y=>ltI (f y) (f x)=false:=by
 have hl:arr.toList.Perm (vs.map fun v=>(v,v)):=by
  have e:=Array.perm_iff_toList_perm.mp hp
  rwa [pairsOf_map] at e
 refine ⟨?_,?_⟩
 ·rw [Array.toList_map]
  have e:=hl.map (·.2)
  rwa [List.map_map,show ((fun x:Keyed=>x.2)∘fun v=>(v,v))=id from rfl,List.map_id] at e
 ·rw [List.pairwise_iff_getElem]
  intro i j hi hj hij
  have hi':i<arr.size:=by simpa using hi
  have hj':j<arr.size:=by simpa using hj
  have c:=hs i j (Nat.le_of_lt hij) (by rw [<-hp.size_eq];exact hj')
  have kk:∀ (i:Nat) (hi:i<arr.size),KK (tupKind h (fun _=>false)) arr i=(f arr[i].2).map Sum.inl:=by
   intro i hi
   obtain ⟨e1,e2⟩:=pairs_at ((Array.Perm.mem_iff hp).mp (Array.getElem_mem hi))
   unfold KK
   rw [Array.getElem?_eq_getElem hi]
   show (tupKey h (fun _=>false) arr[i].1).getD []=_
   rw [numsAt_key (hv _ e2),e1];rfl
  rw [kk i hi',kk j hj'] at c
  have c2:lexLt itemOrd ((f arr[j].2).map Sum.inl) ((f arr[i].2).map Sum.inl)=false:=c
  rw [lex_ltI] at c2
  simpa using c2
theorem ne_from {a n k:Nat} (h:a<n) (e:n<=k):a≠k:=Nat.ne_of_lt (Nat.lt_of_lt_of_le h e)
theorem one_type {vs:List Value} {f:Value->List Int} {Q:SortKind->Shared->Prop} (h2:2<=vs.length) (hv:∀ v∈vs,NumsAt s.heap v (f v)) (h:Q oneType' s) :
  wpAny (model prog w) A (keyKind' vs.toArray) Q E s:=by
 refine kas_kind (T:=.type "list") h2 (fun v m=>?_) (by decide) (by decide) h
 obtain ⟨a,items,rfl,⟨o,ho,hc,n,hd⟩,k⟩:=hv v m
 exact fun A Q E s' k q=>wpAny_typeOf ⟨o,k _ _ ho,hc⟩ q
theorem sort_lists {a:Addr} {vs:List Value} {n:Nat} {f:Value->List Int} {R:PySem.Fin->Shared->Prop} (hu:A.units<cLine) (ho:s.heap.get? a=some (seqObj "list" vs.toArray n))
  (hL:vs.length<=sizeLine) (hv:∀ v∈vs,NumsAt (PyProof.Rows.G.sortHeap6 s.heap a vs) v (f v))
  (h:∀ out:Array Value,out.toList.Perm vs->(out.toList.Pairwise fun x y=>ltI (f y) (f x)=false)->R (.done (.ret .none)) {s with heap:=sortedHeap s.heap a vs out}) :
  wpAny (model prog w) A (Builtin.«list.sort» ⟨[.ref a],[]⟩) R E s:=by
 have lt:=Heap.lt_size ho
 have e1:=get?_update_seq ho (fun _=>#[])
 have e6:(PyProof.Rows.G.sortHeap6 s.heap a vs).get? a=(s.heap.update a (Obj.mapSeq fun _=>#[])).get? a:=by
  unfold PyProof.Rows.G.sortHeap6
  rw [Heap.get?_push_ne,Heap.get?_push_ne]
  all_goals exact ne_from lt (by simp only [size_push',Heap.size_update];omega)
 rw [e1] at e6
 have last:∀ out:Array Value,out.size=vs.length->out.toList.Perm vs->(out.toList.Pairwise fun x y=>ltI (f y) (f x)=false) ->
   wpAny (model prog w) A (Builtin.List.listUpdate (.ref a) (fun _=>out)) (fun _ s'=>R (.done (.ret .none)) s') E {s with heap:=PyProof.Rows.G.sortHeap6 s.heap a vs}:=by
  intro out z p1 p2
  exact listUpdate_at e6 rfl (h out p1 p2) (hsz2:=by show out.size<=_;rw [z];omega)
 rw [list_sort_plain]
 refine wpAny_bind (listItems_at ho rfl (wpAny_bind (listUpdate_at ho rfl (wpAny_bind (seqEpoch_at e1 rfl (wpAny_bind (wpAny_newTuple (wpAny_bind (wpAny_newList (wpAny_holding ?_))))))))))
 show wpAny _ _ _ _ _ {s with heap:=PyProof.Rows.G.sortHeap6 s.heap a vs}
 dsimp only
 have zz:∀ arr:Array Keyed,arr.Perm (pairsOf vs)->(arr.map (·.2)).size=vs.length:=fun arr p=>by rw [Array.size_map,p.size_eq,pairsOf_size]
 by_cases h2:vs.toArray.size<2
 ·rw [if_pos h2,if_pos h2]
  refine wpAny_bind (wpAny_pure ?_)
  rw [StateT.run_pure]
  refine wpAny_bind (wpAny_pure (wpAny_bind (seqEpoch_at e6 rfl (wpAny_bind (wpAny_mono (last _ (zz (pairsOf vs) (Array.Perm.refl _)) ?_ ?_) (fun _ s' h'=>?_) fun _ _ e=>e)))))
  ·show ((pairsOf vs).map (·.2)).toList.Perm vs
   rw [Array.toList_map,pairsOf_map,List.map_map,show ((fun x:Keyed=>x.2)∘fun v=>(v,v))=id from rfl,List.map_id]
  ·show ((pairsOf vs).map (·.2)).toList.Pairwise _
   rw [Array.toList_map,pairsOf_map,List.map_map]
   match vs,h2 with
   | [],_=>exact List.Pairwise.nil
   | [v],_=>exact List.pairwise_singleton _ _
   | v :: u :: r,h2=>simp at h2;omega
  ·simp only [bne_self_eq_false,Bool.false_eq_true,if_false]
   exact wpAny_pure h'
 ·rw [if_neg h2,if_neg h2]
  have h2':2<=vs.length:=by simpa using h2
  refine wpAny_bind (one_type h2' hv (wpAny_bind (wpAny_mono (lists_run (Q:=fun _ st'=>(arrOf st').Perm (pairsOf vs)/\failedOf st'=none/\SortedToK (tupKind (PyProof.Rows.G.sortHeap6 s.heap a vs) fun _=>false) (arrOf st') (pairsOf vs).size) hu h2' hv fun st' a1 a2 a3=>⟨a1,a2,a3⟩) ?_ fun _ _ e=>e)))
  rintro ⟨⟨⟩,st'⟩ s' ⟨rfl,a1,a2,a3⟩
  obtain ⟨o1,o2⟩:=sorted_out hv a1 a3
  refine wpAny_bind (seqEpoch_at e6 rfl (wpAny_bind (wpAny_mono (last _ (zz _ a1) o1 o2) (fun _ s' h'=>?_) fun _ _ e=>e)))
  rw [a2]
  simp only [bne_self_eq_false,Bool.false_eq_true,if_false]
  exact wpAny_pure h'
theorem sorted_lists {l:Addr} {vs:List Value} {f:Value->List Int} {Q:Value->Shared->Prop} (hu:A.units+2<cLine) (hl:s.heap.IsList l vs.toArray) (hL:vs.length<=sizeLine)
  (hv:∀ v∈vs,NumsAt s.heap v (f v))
  (h:∀ out:Array Value,out.toList.Perm vs->(out.toList.Pairwise fun x y=>ltI (f y) (f x)=false)->Q (.ref (s.heap.objs.size+1)) {s with heap:=sortedAll s.heap vs out}) :
  wpAny (model prog w) A (call (.builtin "sorted") [.ref l]) Q E s:=by
 have z:((s.heap.push (seqObj "list" #[] 0)).update s.heap.objs.size (Obj.mapSeq (·++vs.toArray))).objs.size=s.heap.objs.size+1:=by rw [Heap.size_update,size_push']
 have ho:(((s.heap.push (seqObj "list" #[] 0)).update s.heap.objs.size (Obj.mapSeq (·++vs.toArray))).push (seqObj "list" vs.toArray 0)).get? (s.heap.objs.size+1)=some (seqObj "list" vs.toArray 0):=by
  conv=>lhs;rw [<-z]
  exact Heap.get?_push_size _ rfl
 refine Calls.call_function_entry kind_sorted plain_sorted entry_sorted (args_sorted1 _) ?_
 unfold Builtin.«sorted»
 refine wpAny_bind (m:=checkCount "sorted" 1 1 _) (wpAny_pure (wpAny_bind (collect_list hl (wpAny_bind (wpAny_newList ?_)))))
 show wpAny _ _ _ _ _ {s with heap:=((s.heap.push (seqObj "list" #[] 0)).update s.heap.objs.size (Obj.mapSeq (·++vs.toArray))).push (seqObj "list" vs.toArray 0)}
 rw [z]
 refine wpAny_bind (wpAny_holding (wpAny_call_entry slot_list_sort ⟨_,ho,rfl⟩ entry_list_sort
  (sort_lists (f:=f) ?_ ho hL (fun v m=>?_) fun out a1 a2=>⟨_,rfl,wpAny_pure ⟨_,rfl,h out a1 a2⟩⟩) (args_list_sort _)))
 ·show A.units+1+1<cLine
  omega
 ·obtain ⟨b,items,rfl,⟨o,hb,hc,hd⟩,k⟩:=hv v m
  refine ⟨b,items,rfl,⟨o,?_,hc,hd⟩,k⟩
  have lt:=Heap.lt_size hb
  unfold PyProof.Rows.G.sortHeap6
  rw [Heap.get?_push_ne,Heap.get?_push_ne,Heap.get?_update_ne,Heap.get?_push_ne,Heap.get?_update_ne,Heap.get?_push_ne]
  ·exact hb
  all_goals first | exact ne_from lt (Nat.le_refl _) | exact ne_from lt (Nat.le_succ _) | exact ne_from lt (by simp only [size_push',Heap.size_update];omega)
end
end Gw
set_option Elab.async false
set_option linter.all false
set_option maxRecDepth 100000
namespace L2
open PySem PySem.Spec PyProof.Rows Gw
theorem nums_of {us:List Value} {ns:List Int} (h:IntsAre us ns):Nums us ns:=by
 induction h with
 | nil=>exact .nil
 | cons n t _ ih=>exact .cons ih
def refOf:Value->Addr
 | .ref r=>r
 | _=>0
section
variable {X:Cx}
def rSortedLL (K:PySem.W.Frag):List V->Hp->VK->Prop:=fun vs H Q=>∃ (a:Addr) (rs:List Addr) (f:Addr->List Int),vs=[V.ref a]/\SqL K H a (rs.map V.ref)/\(∀ r∈rs,H r=some (.lst ((f r).map V.int))) /\
 ∀ (rs':List Addr) (p:Addr),rs'.Perm rs->(rs'.Pairwise fun x y=>ltI (f y) (f x)=false)->H p=none->Q (.ref p) (upd H p (.lst (rs'.map V.ref)))
theorem cr_sortedLL (hu:X.A.units+2<cLine):CallR X (.builtin "sorted") (rSortedLL X.K):=by
 intro pins s σ H vs us Q I r h
 obtain ⟨a,rs,f,rfl,hs,hf,q⟩:=h
 obtain ⟨its,rv,hl,hz⟩:=I.list hs
 have ei:=vals_refs rv
 rw [Vals.ref1 r]
 have hlen:=rv.length
 have hn:∀ v∈its,NumsAt s.heap v (f (refOf v)):=by
  intro v hv
  rw [ei] at hv
  obtain ⟨r,hr,rfl⟩:=List.mem_map.mp hv
  obtain ⟨_,it2,n,rv2,hob⟩:=I.hok r _ (hf r hr)
  exact ⟨r,it2.toArray,rfl,⟨_,hob,rfl,n,rfl⟩,nums_of rv2.ints⟩
 refine sorted_lists hu hl.isList (by omega) hn fun out h1 h2=>?_
 obtain ⟨ep,he'⟩:=PyProof.Rows.sortedAll_at s.heap its out
 have eo:out.toList=(out.toList.map refOf).map Value.ref:=by
  rw [List.map_map]
  have e:∀ l:List Value,(∀ v∈l,v∈its)->l=l.map (Value.ref∘refOf):=by
   intro l hl
   induction l with
   | nil=>rfl
   | cons v l ih=>
    have hv:=hl v (.head _)
    rw [ei] at hv
    obtain ⟨r,_,rfl⟩:=List.mem_map.mp hv
    rw [List.map_cons,<-ih fun v hv=>hl v (.tail _ hv)]
    rfl
  exact e _ fun v hv=>h1.mem_iff.mp hv
 generalize hrs:out.toList.map refOf=rs' at eo
 have hp:rs'.Perm rs:=by
  have e:=h1.map refOf
  rw [hrs,ei,List.map_map] at e
  have e2:rs.map (refOf∘Value.ref)=rs:=by rw [show refOf∘Value.ref=id from rfl,List.map_id]
  rwa [e2] at e
 have hl':(rs'.map V.ref).length<=sizeLine:=by
  have:=hp.length_eq
  rw [List.length_map] at hz ⊢
  omega
 have rv':Vals (rs'.map V.ref) out.toList:=by
  rw [eo]
  clear hrs eo hp hl'
  induction rs' with
  | nil=>exact .nil
  | cons r l ih=>exact .cons rfl ih
 have hq:rs'.Pairwise fun x y=>ltI (f y) (f x)=false:=by
  rw [<-hrs]
  exact List.pairwise_map.mpr h2
 exact ⟨.ref _,upd H (s.heap.objs.size+1) (.lst (rs'.map V.ref)),I.laid (t':=s.toks) (fun _ _=>PyProof.Rows.sortedAll_old) (Nat.le_succ _) ⟨hl',out.toList,ep,rv',he'⟩,rfl,q rs' _ hp hq (I.hok.fresh (Nat.le_succ _))⟩
end
end L2
namespace Gw
open Sa54
theorem steps_succ (k:Nat):steps (k+1)=steps k++[(k,false),(k,true)]:=by
 unfold steps
 rw [List.range_succ,List.flatMap_append]
 rfl
theorem steps_map:∀ k,steps k=(List.range (2*k)).map letr
 | 0=>rfl
 | k+1=>by
  rw [steps_succ,steps_map k,show 2*(k+1)=2*k+1+1 by omega,List.range_succ,List.range_succ,List.map_append,List.map_append,List.append_assoc]
  have e1:letr (2*k)=(k,false):=by unfold letr;rw [show 2*k / 2=k by omega,show 2*k % 2=0 by omega];rfl
  have e2:letr (2*k+1)=(k,true):=by unfold letr;rw [show (2*k+1) / 2=k by omega,show (2*k+1) % 2=1 by omega];rfl
  simp [e1,e2]
theorem fold_scan (u:Table) (k p0 i:Nat) (hk:0<k) (hi:i<(scanA u k p0 (2*k*i)).length):∀ j,j<=2*k ->
  ((List.range j).map letr).foldl (fun l s=>let q:=moveBy u s ((scanA u k p0 (2*k*i)).getD i 0);if l.contains q=true then l else l++[q]) (scanA u k p0 (2*k*i))=scanA u k p0 (2*k*i+j)
 | 0,_=>rfl
 | j+1,hj=>by
  rw [List.range_succ,List.map_append,List.foldl_append,fold_scan u k p0 i hk hi j (by omega)]
  obtain ⟨e1,e2⟩:=cell_ix (k:=k) (p:=i) (j:=j) (by omega)
  obtain ⟨t,et⟩:=scan_pre u k p0 (2*k*i) j
  have eg:(scanA u k p0 (2*k*i+j)).getD i 0=(scanA u k p0 (2*k*i)).getD i 0:=by rw [et];exact getD_app hi
  show (if (scanA u k p0 (2*k*i+j)).contains (cell u j ((scanA u k p0 (2*k*i)).getD i 0))=true then _ else _)=scanA u k p0 (2*k*i+j+1)
  simp only [scanA]
  rw [e1,e2,eg,List.contains_eq_mem]
  simp only [decide_eq_true_eq]
  rfl
theorem met_run {u:Table} {k n p0 m:Nat} {L:List Nat} (ht:isTable k n u=true) (hk:0<k) (M:Met u k n p0 m L):∀ f i,i<=m->m<=i+f->metFrom u f (scanA u k p0 (2*k*i)) i=L
 | 0,i,h1,h2=>by
  have:i=m:=by omega
  subst this
  exact M.scan.symm
 | f+1,i,h1,h2=>by
  rw [metFrom]
  by_cases e:i=m
  ·subst e
   rw [<-M.scan,List.getElem?_eq_none (by rw [M.len];omega)]
  ·have hi:=M.on i (by omega)
   have eg:(scanA u k p0 (2*k*i))[i]?=some ((scanA u k p0 (2*k*i)).getD i 0):=by
    rw [List.getD_eq_getElem?_getD,List.getElem?_eq_getElem hi];rfl
   rw [eg,(isTable_row ht).1,steps_map]
   show metFrom u f (List.foldl _ _ _) (i+1)=L
   rw [fold_scan u k p0 i hk hi (2*k) (Nat.le_refl _)]
   have e2:2*k*i+2*k=2*k*(i+1):=by rw [Nat.mul_add,Nat.mul_one]
   rw [e2]
   exact met_run ht hk M f (i+1) (by omega) (by omega)
theorem met_is {u:Table} {k n p0 m:Nat} {L:List Nat} (ht:isTable k n u=true) (hk:0<k) (M:Met u k n p0 m L):met u n p0=L:=
 met_run ht hk M n 0 (Nat.zero_le _) (by have:=M.mn;omega)
theorem scan_ord {u:Table} {k n:Nat} (ho:Ord (cvT u k) k (2*k*n)):∀ c,c<=2*k*n->scanA u k 0 c=List.range (mx (cvT u k) c)
 | 0,_=>rfl
 | c+1,h=>by
  have ih:=scan_ord ho c (by omega)
  obtain ⟨h1,q,h2,h3⟩:=ho c (by omega)
  have hk:0<2*k:=by
   rcases Nat.eq_zero_or_pos (2*k) with z | z
   ·rw [z,Nat.zero_mul] at h1;omega
   ·exact z
  have hd:c / (2*k)<mx (cvT u k) c:=Nat.div_lt_of_lt_mul h1
  have eg:(List.range (mx (cvT u k) c)).getD (c / (2*k)) 0=c / (2*k):=by
   rw [List.getD_eq_getElem?_getD,List.getElem?_range hd];rfl
  have eq:cell u (c % (2*k)) (c / (2*k))=q:=Option.some.inj h2
  simp only [scanA,mx]
  rw [ih,eg,eq,h2]
  dsimp only
  by_cases z:q<mx (cvT u k) c
  ·rw [if_pos (List.mem_range.mpr z),Nat.max_eq_left (by omega)]
  ·rw [if_neg (fun e=>z (List.mem_range.mp e)),show q=mx (cvT u k) c by omega,Nat.max_eq_right (by omega),List.range_succ]
theorem range_idx {n a:Nat} (h:a<n):(List.range n).idxOf a=a:=by
 have e:=idx_get (L:=List.range n) List.nodup_range (a:=a) (by simpa using h)
 rwa [List.getD_eq_getElem?_getD,List.getElem?_range h] at e
theorem range_get {n a:Nat} (h:a<n):(List.range n).getD a 0=a:=by rw [List.getD_eq_getElem?_getD,List.getElem?_range h];rfl
theorem ordered_iff {u:Table} {k n:Nat} (ht:isTable k n u=true) (hk:0<k) (hn:1<=n):(whole u n&&inOrder u n)=true↔InOrd u k n:=by
 obtain ⟨m,L,M⟩:=met_ex ht hk (p0:=0) hn
 have e:=met_is ht hk M
 have hw:(whole u n&&inOrder u n)=true↔L=List.range n:=by
  unfold whole inOrder
  rw [e]
  simp only [Bool.and_eq_true,beq_iff_eq]
  exact ⟨fun h=>h.2,fun h=>⟨by rw [h];simp,h⟩⟩
 rw [hw]
 constructor
 ·intro h
  have hm:m=n:=by rw [<-M.len,h];simp
  subst hm
  subst h
  have ho:=reT_ord ht hk M
  have eu:reT u k m (List.range m)=u:=by
   refine table_ext (reT_table ht M.toCl) ht fun i p hi hp=>?_
   rw [reT_cell ht M.toCl (by omega) hp,range_get hp,range_idx (cell_lt ht (by omega) hp)]
  rwa [eu] at ho
 ·intro ho
  have hm:m=n:=by
   rcases Nat.lt_or_ge m n with z | z
   ·exfalso
    have h1:=(ho.1 (2*k*m) (Nat.mul_lt_mul_of_pos_left z (by omega))).1
    have h2:=congrArg List.length (scan_ord ho.1 (2*k*m) (Nat.mul_le_mul_left _ (Nat.le_of_lt z)))
    rw [<-M.scan,M.len,List.length_range] at h2
    rw [<-h2] at h1
    omega
   ·have:=M.mn;omega
  subst hm
  rw [M.scan,scan_ord ho.1 _ (Nat.le_refl _),ho.2]
theorem insertAll_erase {x:Nat}:∀ {r y:List Nat},x∉r->y∈insertAll x r->y.erase x=r:=by
 intro r y hx hy
 obtain ⟨a,b,rfl,rfl⟩:=(mem_insertAll x r y).mp hy
 have ha:x∉a:=fun h=>hx (List.mem_append_left _ h)
 rw [List.erase_append_right _ ha,List.erase_cons_head]
theorem insertAll_nodup {x:Nat}:∀ {r:List Nat},x∉r->(insertAll x r).Nodup
 | [],_=>by simp [insertAll]
 | y :: r,h=>by
  have hy:x≠y:=fun e=>h (by simp [e])
  rw [insertAll,List.nodup_cons]
  refine ⟨fun m=>?_,?_⟩
  ·obtain ⟨l,_,e⟩:=List.mem_map.mp m
   exact hy (List.cons.inj e).1.symm
  ·exact List.pairwise_map.mpr ((insertAll_nodup fun m=>h (.tail _ m)).imp fun hne e=>hne (List.cons.inj e).2)
theorem orders_nodup:∀ {r:List Nat},r.Nodup->(orders r).Nodup
 | [],_=>by simp [orders]
 | x :: r,h=>by
  obtain ⟨hx,hr⟩:=List.nodup_cons.mp h
  have out:∀ l∈orders r,x∉l:=fun l hl m=>hx (((mem_orders r l).mp hl).mem_iff.mp m)
  refine List.pairwise_flatMap.mpr ⟨fun l hl=>insertAll_nodup (out l hl),?_⟩
  refine (List.Pairwise.imp_of_mem (fun {a b} ha hb hne y hy z hz e=>?_) (orders_nodup hr))
  subst e
  exact hne ((insertAll_erase (out a ha) hy).symm.trans (insertAll_erase (out b hb) hz))
theorem tables_nodup (n:Nat):∀ k,(tables n k).Nodup
 | 0=>by simp [tables]
 | k+1=>by
  refine List.pairwise_flatMap.mpr ⟨fun r _=>List.pairwise_map.mpr ((tables_nodup n k).imp fun hne e=>hne (List.cons.inj e).2),?_⟩
  refine (orders_nodup List.nodup_range).imp fun hne y hy z hz e=>?_
  obtain ⟨_,_,rfl⟩:=List.mem_map.mp hy
  obtain ⟨_,_,rfl⟩:=List.mem_map.mp hz
  exact hne (List.cons.inj e).1
theorem ltI_cons (x y:Int) (xs ys:List Int):ltI (x :: xs) (y :: ys)=if x=y then ltI xs ys else decide (x<y):=rfl
theorem ltI_anti:∀ {x y:List Int},ltI x y=false->ltI y x=false->x=y
 | [],[],_,_=>rfl
 | [],_ :: _,h,_=>by cases h
 | _ :: _,[],_,h=>by cases h
 | x :: xs,y :: ys,h1,h2=>by
  rw [ltI_cons] at h1 h2
  by_cases e:x=y
  ·subst e
   rw [if_pos rfl] at h1 h2
   rw [ltI_anti h1 h2]
  ·rw [if_neg e,decide_eq_false_iff_not] at h1
   rw [if_neg (Ne.symm e),decide_eq_false_iff_not] at h2
   omega
theorem ltI_asym:∀ {x y:List Int},ltI x y=true->ltI y x=false
 | [],[],h=>by cases h
 | [],_ :: _,_=>rfl
 | _ :: _,[],h=>by cases h
 | x :: xs,y :: ys,h=>by
  rw [ltI_cons] at h ⊢
  by_cases e:x=y
  ·subst e
   rw [if_pos rfl] at h ⊢
   exact ltI_asym h
  ·rw [if_neg e,decide_eq_true_eq] at h
   rw [if_neg (Ne.symm e),decide_eq_false_iff_not]
   omega
theorem ltI_trans:∀ {x y z:List Int},ltI y x=false->ltI z y=false->ltI z x=false
 | [],_,[],_,_=>rfl
 | _ :: _,[],[],h,_=>by cases h
 | _ :: _,_ :: _,[],_,h=>by cases h
 | [],_,_ :: _,_,_=>rfl
 | x :: xs,[],z :: zs,h,_=>by cases h
 | x :: xs,y :: ys,z :: zs,h1,h2=>by
  rw [ltI_cons] at h1 h2 ⊢
  by_cases e1:y=x
  ·subst e1
   rw [if_pos rfl] at h1
   by_cases e2:z=y
   ·subst e2
    rw [if_pos rfl] at h2 ⊢
    exact ltI_trans h1 h2
   ·rw [if_neg e2] at h2 ⊢
    exact h2
  ·rw [if_neg e1,decide_eq_false_iff_not] at h1
   by_cases e2:z=y
   ·subst e2
    rw [if_neg e1,decide_eq_false_iff_not];exact h1
   ·rw [if_neg e2,decide_eq_false_iff_not] at h2
    rw [if_neg (by omega),decide_eq_false_iff_not];omega
def asInts (l:List Nat):List Int:=l.map Int.ofNat
theorem before_is:∀ {x y:List Nat},x.length=y.length->before x y=ltI (asInts x) (asInts y)
 | [],[],_=>rfl
 | [],_ :: _,h=>by cases h
 | _ :: _,[],h=>by cases h
 | x :: xs,y :: ys,h=>by
  rw [before,before_is (by simpa using h)]
  show _=ltI ((x:Int) :: asInts xs) ((y:Int) :: asInts ys)
  rw [ltI_cons]
  by_cases e:x=y
  ·subst e;simp
  ·rw [if_neg (by omega)]
   have:(x==y)=false:=by simpa using e
   rw [this,Bool.false_and,Bool.or_false]
   rw [Bool.eq_iff_iff,decide_eq_true_eq,decide_eq_true_eq];omega
theorem flat_len {k n:Nat} {u:Table} (h:isTable k n u=true):u.flatten.length=k*n:=by
 obtain ⟨h1,h2⟩:=isTable_row h
 subst h1
 have:∀ v:Table,(∀ r∈v,r.length=n)->v.flatten.length=v.length*n:=by
  intro v hv
  induction v with
  | nil=>simp
  | cons r v ih=>rw [List.flatten_cons,List.length_append,hv r (.head _),ih fun r hr=>hv r (.tail _ hr),List.length_cons,Nat.add_mul,Nat.one_mul,Nat.add_comm]
 exact this u fun r hr=>(h2 r hr).1
theorem tbl_full {k n:Nat} {u:Table} (h:isTable k n u=true):tbl (fullM u n) k=u:=by
 obtain ⟨h1,h2⟩:=isTable_row h
 refine List.ext_getElem? fun i=>?_
 unfold tbl
 rw [List.getElem?_map]
 by_cases hi:i<k
 ·have hu:i<u.length:=by omega
  rw [List.getElem?_range hi,Option.map_some,List.getD_eq_getElem?_getD,(fullM_at n u i u[i] (List.getElem?_eq_getElem hu)).1,List.getElem?_eq_getElem hu]
  simp [List.map_map,Function.comp_def]
 ·rw [List.getElem?_eq_none (by simpa using hi),List.getElem?_eq_none (by omega)];rfl
def ofN (n:Nat) (Fs:List Rows):List Rows:=Fs.filter fun M=>decide (pl M=n)
def nums (t:Table):List Int:=asInts t.flatten
theorem found_sols {ts:List Word} {k n m:Nat} {found:List Rows} (hk:0<k) (h:SI ts k n found []) :
  ((ofN m found).map fun M=>tbl M k).Nodup/\∀ t,t∈((ofN m found).map fun M=>tbl M k)↔Sol ts k n t m:=by
 have full:∀ {u q},Sol ts k n u q->pl (fullM u q)=q/\tbl (fullM u q) k=u:=fun {u q} S=>⟨(fullM_ok S.tb).pl hk,tbl_full S.tb⟩
 refine ⟨?_,fun t=>?_⟩
 ·refine List.pairwise_map.mpr (List.Pairwise.imp_of_mem (fun {a b} ha hb hne e=>hne ?_) (List.Pairwise.filter _ (h.nodup hk)))
  obtain ⟨ha1,ha2⟩:=List.mem_filter.mp ha
  obtain ⟨hb1,hb2⟩:=List.mem_filter.mp hb
  obtain ⟨u,q,S,rfl⟩:=h.fnd a ha1
  obtain ⟨v,q',S',rfl⟩:=h.fnd b hb1
  rw [(full S).2,(full S').2] at e
  have e1:pl (fullM u q)=m:=by simpa using ha2
  have e2:pl (fullM v q')=m:=by simpa using hb2
  rw [(full S).1] at e1
  rw [(full S').1] at e2
  rw [e,e1,e2]
 ·rw [List.mem_map]
  constructor
  ·rintro ⟨M,hM,rfl⟩
   obtain ⟨h1,h2⟩:=List.mem_filter.mp hM
   obtain ⟨u,q,S,rfl⟩:=h.fnd M h1
   have e1:pl (fullM u q)=m:=by simpa using h2
   rw [(full S).1] at e1
   subst e1
   rw [(full S).2]
   exact S
  ·intro S
   exact ⟨fullM t m,List.mem_filter.mpr ⟨h.all hk S,by simpa using (full S).1⟩,(full S).2⟩
section
variable {g:Group} {n:Nat} {ts:List Word} (hk:0<g.letters.length) (hn:1<=n) (hts:∀ u m,isTable g.letters.length m u=true->m<=n->ts.all (still u m)=g.nothing.all (still u m))
include hk hn hts in
theorem mem_due (t:Table):t∈((tables n g.letters.length).filter fun t=>groups g n t&&(whole t n&&inOrder t n))↔Sol ts g.letters.length n t n:=by
 rw [List.mem_filter,mem_tables]
 constructor
 ·rintro ⟨h1,h2⟩
  rw [Bool.and_eq_true] at h2
  exact ⟨h1,hn,Nat.le_refl _,(ordered_iff h1 hk hn).mp h2.2,by rw [hts t n h1 (Nat.le_refl _)];exact h2.1⟩
 ·intro S
  refine ⟨S.tb,?_⟩
  rw [Bool.and_eq_true]
  exact ⟨by have:=S.st;rwa [hts t n S.tb (Nat.le_refl _)] at this,(ordered_iff S.tb hk hn).mpr S.ord⟩
include hk hn hts in
include hk hn hts in
theorem found_perm {found:List Rows} (h:SI ts g.letters.length n found []):((ofN n found).map fun M=>tbl M g.letters.length).Perm (all g n):=by
 refine List.Perm.trans ?_ (List.mergeSort_perm _ _).symm
 obtain ⟨h1,h2⟩:=found_sols (m:=n) hk h
 exact (List.perm_ext_iff_of_nodup h1 (List.Pairwise.filter _ (tables_nodup n _))).mpr fun t=>by rw [h2,mem_due hk hn hts]
include hk hn hts in
theorem table_due {found:List Rows} (h:SI ts g.letters.length n found []) {out:List (List Int)} (hp:out.Perm ((ofN n found).map fun M=>nums (tbl M g.letters.length))) (hs:out.Pairwise fun x y=>ltI y x=false) :
  out=(all g n).map nums:=by
 have e:=List.map_mergeSort (r:=fun t u=>!before u.flatten t.flatten) (s:=fun x y=>!ltI y x) (f:=nums) (l:=(tables n g.letters.length).filter fun t=>groups g n t&&(whole t n&&inOrder t n)) fun a ha b hb=>by
  have la:=flat_len ((mem_due hk hn hts a).mp ha).tb
  have lb:=flat_len ((mem_due hk hn hts b).mp hb).tb
  rw [before_is (lb.trans la.symm)]
  rfl
 have hp2:=(found_perm hk hn hts h).map nums
 rw [List.map_map] at hp2
 have hp3:=hp.trans hp2
 unfold all at hp3 ⊢
 rw [e] at hp3 ⊢
 refine List.Perm.eq_of_pairwise (le:=fun x y=>ltI y x=false) (fun a b _ _ h1 h2=>ltI_anti h2 h1) hs ?_ hp3
 refine (List.pairwise_mergeSort (le:=fun x y=>!ltI y x) (fun a b c h1 h2=>?_) (fun a b=>?_) _).imp fun h=>by simpa using h
 ·simp only [Bool.not_eq_true'] at h1 h2 ⊢
  exact ltI_trans h1 h2
 ·cases z:ltI b a with
  | false=>rfl
  | true=>rw [ltI_asym z];rfl
end
end Gw
set_option Elab.async false
set_option linter.all false
set_option maxRecDepth 100000
namespace Gw
open PySem PySem.Spec PyProof.Rows L2
abbrev nv (b:List Nat):List V:=b.map fun (n:Nat)=>V.int (n:Int)
def encL (l:Sa54.Letter):Int:=if l.2=true then -((l.1:Int)+1) else (l.1:Int)+1
abbrev wv (w:Sa54.Word):List V:=w.map fun l=>V.int (encL l)
def lf (br:Int) (e w:Addr) (hp:Bool):List (Str × V):=[("bracket",.int br),("ended",.ref e),("written",.ref w),("has_part",.bl hp)]
theorem lf_br {br:Int} {e w:Addr} {hp:Bool}:(lf br e w hp).lookup ("bracket" : Str)=some (.int br):=by kernel_rfl
theorem lf_en {br:Int} {e w:Addr} {hp:Bool}:(lf br e w hp).lookup ("ended" : Str)=some (.ref e):=by kernel_rfl
theorem lf_wr {br:Int} {e w:Addr} {hp:Bool}:(lf br e w hp).lookup ("written" : Str)=some (.ref w):=by kernel_rfl
theorem lf_hp {br:Int} {e w:Addr} {hp:Bool}:(lf br e w hp).lookup ("has_part" : Str)=some (.bl hp):=by kernel_rfl
theorem lf_put_wr {br:Int} {e w w':Addr} {hp:Bool}:putF "written" (.ref w') (lf br e w hp)=lf br e w' hp:=by kernel_rfl
theorem lf_put_hp {br:Int} {e w:Addr} {hp hp':Bool}:putF "has_part" (.bl hp') (lf br e w hp)=lf br e w hp':=by kernel_rfl
theorem lf_new {br:Int} {e w:Addr}:putF "has_part" (.bl false) (putF "written" (.ref w) (putF "ended" (.ref e) (putF "bracket" (.int br) [])))=lf br e w false:=by kernel_rfl
structure WordsAt (H:Hp) (as:List Addr) (ws:List Sa54.Word):Prop where
 len:as.length=ws.length
 at_:∀ (j:Nat) (a:Addr) (w:Sa54.Word),as[j]?=some a->ws[j]?=some w->H a=some (.lst (wv w))
 ln:∀ w∈ws,w.length<=Sa54.MOST
structure LA where
 p:Addr
 e:Addr
 w:Addr
 as:List Addr
structure LvAt (C:Addr) (H:Hp) (x:LA) (v:Lv):Prop where
 ob:∃ dx,H x.p=some (.ins C dx (lf v.br x.e x.w v.hp))
 en:H x.e=some (.lst (x.as.map V.ref))
 wr:H x.w=some (.lst (wv v.wr))
 ws:WordsAt H x.as v.ended
 ew:x.e≠x.w
 ae:∀ a∈x.as,a≠x.e/\a≠x.w
 lw:v.wr.length<=Sa54.MOST
def Res {α:Type} (W T:Addr) (E:XK) (r:Sa54.Got α) (k:α->Prop):Prop:=match r with
 | .ok a=>k a
 | .error .wrong=>∀ H,E (.ref W) none H
 | .error .full=>∀ H,E (.ref T) none H
theorem Res.wrong {α:Type} {W T:Addr} {E:XK} {r:Sa54.Got α} {k:α->Prop} (h:Res W T E r k) (e:r=.error .wrong) (H:Hp):E (.ref W) none H:=by subst e;exact h H
theorem Res.full {α:Type} {W T:Addr} {E:XK} {r:Sa54.Got α} {k:α->Prop} (h:Res W T E r k) (e:r=.error .full) (H:Hp):E (.ref T) none H:=by subst e;exact h H
theorem Res.ok {α:Type} {W T:Addr} {E:XK} {r:Sa54.Got α} {k:α->Prop} (h:Res W T E r k) {a:α} (e:r=.ok a):k a:=by subst e;exact h
theorem Res.bind {α β:Type} {W T:Addr} {E:XK} {r:Sa54.Got α} {f:α->Sa54.Got β} {k:β->Prop} (h:Res W T E (r.bind f) k):Res W T E r fun a=>Res W T E (f a) k:=by
 cases r with
 | ok a=>exact h
 | error e=>cases e<;>exact h
theorem Res.imp {α:Type} {W T:Addr} {E:XK} {r:Sa54.Got α} {k k':α->Prop} (h:Res W T E r k) (f:∀ a,r=.ok a->k a->k' a):Res W T E r k':=by
 cases r with
 | ok a=>exact f a rfl h
 | error e=>cases e<;>exact h
def Keep (xs:List Addr) (H H':Hp):Prop:=∀ b o,H b=some o->b∉xs->H' b=some o
theorem Keep.refl {xs:List Addr} {H:Hp}:Keep xs H H:=fun _ _ e _=>e
theorem Keep.trans {xs ys:List Addr} {H H1 H2:Hp} (a:Keep xs H H1) (b:Keep ys H1 H2):Keep (xs++ys) H H2:=fun c o e n=>b c o (a c o e fun z=>n (List.mem_append_left _ z)) fun z=>n (List.mem_append_right _ z)
theorem Keep.mono {xs ys:List Addr} {H H1:Hp} (a:Keep xs H H1) (h:∀ b,b∈xs->b∈ys):Keep ys H H1:=fun c o e n=>a c o e fun z=>n (h c z)
theorem Keep.upd {H:Hp} {a:Addr} {o:HO}:Keep [a] H (upd H a o):=fun b u e n=>by rw [upd_ne (fun z=>n (by simp [z]))];exact e
theorem Keep.new {H:Hp} {a:Addr} {o:HO} (h:H a=none):Keep [] H (L2.upd H a o):=fun b u e _=>by rw [upd_ne (ne_of_none e h)];exact e
theorem Keep.same {H H':Hp} (k:Keep [] H H'):Same H H':=fun b o e=>k b o e (by simp)
theorem WordsAt.keep {xs:List Addr} {H H':Hp} {as:List Addr} {ws:List Sa54.Word} (h:WordsAt H as ws) (k:Keep xs H H') (n:∀ a∈as,a∉xs):WordsAt H' as ws:=
 ⟨h.len,fun j a w e1 e2=>k a _ (h.at_ j a w e1 e2) (n a (List.mem_of_getElem? e1)),h.ln⟩
theorem WordsAt.snoc {H:Hp} {as:List Addr} {ws:List Sa54.Word} {a:Addr} {w:Sa54.Word} (h:WordsAt H as ws) (e:H a=some (.lst (wv w))) (hw:w.length<=Sa54.MOST):WordsAt H (as++[a]) (ws++[w]):=by
 refine ⟨by simp [h.len],fun j b u e1 e2=>?_,fun u hu=>(List.mem_append.mp hu).elim (h.ln u) fun z=>by rw [List.mem_singleton.mp z];exact hw⟩
 by_cases hj:j<as.length
 ·rw [List.getElem?_append_left hj] at e1
  rw [List.getElem?_append_left (by rw [<-h.len];exact hj)] at e2
  exact h.at_ j b u e1 e2
 ·rw [List.getElem?_append_right (by omega)] at e1
  rw [List.getElem?_append_right (by rw [<-h.len];omega),<-h.len] at e2
  cases hq:j-as.length with
  | zero=>
   rw [hq] at e1 e2
   cases e1
   cases e2
   exact e
  | succ n=>
   rw [hq] at e1
   simp at e1
theorem LvAt.keep {C:Addr} {xs:List Addr} {H H':Hp} {x:LA} {v:Lv} (h:LvAt C H x v) (k:Keep xs H H') (np:x.p∉xs) (ne:x.e∉xs) (nw:x.w∉xs) (na:∀ a∈x.as,a∉xs):LvAt C H' x v:=by
 obtain ⟨dx,ho⟩:=h.ob
 exact ⟨⟨dx,k _ _ ho np⟩,k _ _ h.en ne,k _ _ h.wr nw,h.ws.keep k na,h.ew,h.ae,h.lw⟩
section
variable {P:Program} {w:World} {K:PySem.W.Frag} {mg:Str->Option Value} {base:Heap}
abbrev cxE (P:Program) (w:World) (K:PySem.W.Frag) (mg:Str->Option Value) (base:Heap) (N:List Str) (qual:Str) (st:Stmt) (f:Addr) (cdv:Value) (A:Around) (outer:List Env) (s:Shared) (H:Hp) (E:XK):Cx:=
 cxOf (CXE P w) P w K mg base N qual (defScope st) f cdv A outer s H E
theorem okE {x qual:Str} {st:Stmt} {f:Addr} {fd:FuncData} {N ps:List Str} {k:Nat} {sp:Sp} (F:Fun K x qual st f fd) (S:FnScope N ps (defScope st)) (len:∀ vs H Q E,sp vs H Q E->vs.length=ps.length)
  (hbody:∀ (cdv:Value) (A:Around) (outer:List Env) (s:Shared) (H:Hp) (vs:List V) (Q:VK) (E:XK),Room k (A.deeper (envOfC qual (defScope st) s.heap.objs.size f cdv))->sp vs H Q E ->
   ∃ t,PSs (cxE P w K mg base N qual st f cdv A outer s H E) (defBody st) t/\t {nx:=fun _ H'=>Q .non H',rt:=Q} (start N vs) H):FnOk P w K mg base (CXE P w) (k+1) f fd ps sp:=by
 obtain ⟨oc,od,kV,doc,pm,an,cdv,ct,osl,rfl,lk,hcd⟩:=F.ex
 exact fn_of lk hcd S len fun A outer s H vs Q E hr hsp=>hbody cdv A outer s H vs Q E hr hsp
theorem takesE {N:List Str} {qual:Str} {st:Stmt} {f:Addr} {cdv:Value} {A:Around} {outer:List Env} {s:Shared} {H:Hp} {E:XK}:Takes (cxE P w K mg base N qual st f cdv A outer s H E) E:=takes_body
theorem passE {N:List Str} {qual:Str} {st:Stmt} {f:Addr} {cdv:Value} {A:Around} {outer:List Env} {s:Shared} {H:Hp} {E:XK}:Passes (CXE P w) (cxE P w K mg base N qual st f cdv A outer s H E) E:=takes_body.pass
theorem ownE {N:List Str} {qual:Str} {st:Stmt} {f:Addr} {cdv:Value} {A:Around} {outer:List Env} {s:Shared} {H:Hp} {E:XK}:PassesOwn (model P w) (cxE P w K mg base N qual st f cdv A outer s H E).A (cxE P w K mg base N qual st f cdv A outer s H E).env (cxE P w K mg base N qual st f cdv A outer s H E).xe:=PassesOwn.leaving
end
end Gw
set_option Elab.async false
set_option linter.all false
set_option maxRecDepth 100000
set_option maxHeartbeats 4000000
namespace Gw
open PySem PySem.Spec PyProof.Rows L2
theorem small1000' {n:Nat} (h:n<=10000):n<sizeLine:=Nat.lt_of_le_of_lt h (by decide)
section
variable {P:Program} {w:World} {K:PySem.W.Frag} {mg:Str->Option Value} {base:Heap} {a:AD}
def spLevel (C:Addr):Sp:=fun vs H Q _=>∃ (p dx:Addr) (br:Nat),vs=[.ref p,.int br]/\H p=some (.ins C dx []) /\
 ∀ (H':Hp) (e w:Addr),LvAt C H' ⟨p,e,w,[]⟩ ⟨br,[],[],false⟩->H e=none->H w=none->Keep [p] H H'->Q .non H'
theorem scLevel:FnScope ["self","bracket"] ["self","bracket"] (defScope sLevel):=⟨rfl,rfl,rfl,by decide +kernel,rfl,by decide +kernel,by decide +kernel⟩
theorem okLevel (T:Tx K mg a):FnOk P w K mg base (CXE P w) 1 a.fLevel a.dLevel ["self","bracket"] (spLevel a.cLevel):=by
 refine okE T.kLevel.fn scLevel (fun vs H Q E h=>?_) (fun cdv A outer s H vs Q E hr h=>?_)
 ·obtain ⟨p,dx,br,rfl,_⟩:=h
  rfl
 ·obtain ⟨p,dx,br,rfl,hp,k⟩:=h
  refine ⟨_,pss_cons (ps_fld (pv 0) (pv 1) rfl) (pss_cons (ps_fld (pv 0) (pe_lst pa_nil) rfl) (pss_cons (ps_fld (pv 0) (pe_lst pa_nil) rfl) (pss_one (ps_fld (pv 0) pe_bl rfl)))),?_⟩
  refine ⟨_,rfl,_,rfl,p,a.cLevel,dx,_,rfl,hp,T.kLevel.cl,T.nLevel_bracket,(by show 0<1000;decide),?_⟩
  refine ⟨(by show 0<=sizeLine;decide),fun e he=>?_⟩
  have h1:(upd H p (.ins a.cLevel dx (putF "bracket" (.int br) []))) p=_:=upd_same
  have ep:e≠p:=fun z=>by rw [z,h1] at he;cases he
  have eH:H e=none:=by rw [upd_ne ep] at he;exact he
  refine ⟨_,rfl,p,a.cLevel,dx,_,rfl,by rw [upd_ne ep.symm];exact h1,T.kLevel.cl,T.nLevel_ended,(by show 1<1000;decide),?_⟩
  refine ⟨(by show 0<=sizeLine;decide),fun w hw=>?_⟩
  have wp:w≠p:=fun z=>by rw [z,upd_same] at hw;cases hw
  have we:w≠e:=fun z=>by rw [z,upd_ne ep,upd_same] at hw;cases hw
  have wH:H w=none:=by rw [upd_ne wp,upd_ne we,upd_ne wp] at hw;exact hw
  refine ⟨_,rfl,p,a.cLevel,dx,_,rfl,by rw [upd_ne wp.symm];exact upd_same,T.kLevel.cl,T.nLevel_written,(by show 2<1000;decide),?_⟩
  refine ⟨_,rfl,p,a.cLevel,dx,_,rfl,upd_same,T.kLevel.cl,T.nLevel_has_part,(by show 3<1000;decide),?_⟩
  refine k _ e w ⟨⟨dx,?_⟩,?_,?_,⟨rfl,(fun j a w e=>by simp at e),fun _ z=>absurd z (by simp)⟩,we.symm,(fun _ z=>absurd z (by simp)),by simp [Sa54.MOST]⟩ eH wH fun b o hb n=>?_
  ·rw [upd_same]
   exact congrArg (fun z=>some (HO.ins a.cLevel dx z)) lf_new
  ·rw [upd_ne ep,upd_ne ep,upd_ne we.symm,upd_ne ep,upd_same]
   rfl
  ·rw [upd_ne wp,upd_ne wp,upd_same]
   rfl
  ·have nb:b≠p:=fun z=>n (by simp [z])
   rw [upd_ne nb,upd_ne nb,upd_ne (ne_of_none hb wH),upd_ne nb,upd_ne (ne_of_none hb eH),upd_ne nb]
   exact hb
def spEndWord (a:AD):Sp:=fun vs H Q E=>∃ (x:LA) (v:Lv),vs=[.ref x.p]/\LvAt a.cLevel H x v/\x.as.length<=10000 /\
 Res a.cWrong a.cTooLong E (endWord v) fun v'=>∀ (H':Hp) (w':Addr),LvAt a.cLevel H' ⟨x.p,x.e,w',x.as++[x.w]⟩ v'->H w'=none->Keep [x.p,x.e] H H'->Q .non H'
theorem scEndWord:FnScope ["level"] ["level"] (defScope sEndWord):=⟨rfl,rfl,rfl,by decide +kernel,rfl,by decide +kernel,by decide +kernel⟩
theorem okEndWord (T:Tx K mg a):FnOk P w K mg base (CXE P w) 1 a.fEndWord a.dEndWord ["level"] (spEndWord a):=by
 refine okE T.gEndWord.fn scEndWord (fun vs H Q E h=>?_) (fun cdv A outer s H vs Q E hr h=>?_)
 ·obtain ⟨x,v,rfl,_⟩:=h
  rfl
 ·obtain ⟨x,v,rfl,L,hle,R⟩:=h
  obtain ⟨dx,ho⟩:=L.ob
  refine ⟨_,pss_cons (ps_if (pt_not (pt_val (pe_fld (pv 0) rfl))) (pss_one (ps_raise takesE T.xWrong rfl rfl)) pss_nil)
   (pss_cons (ps_expr (pe_bm PySem.F.plainAttrs_list PySem.F.slot_list_append PySem.F.type_list_append mt_append (pe_fld (pv 0) rfl) (pa_cons (pe_fld (pv 0) rfl) pa_nil)))
   (pss_cons (ps_fld (pv 0) (pe_lst pa_nil) rfl) (pss_one (ps_fld (pv 0) pe_bl rfl)))),?_⟩
  refine ⟨_,rfl,x.p,a.cLevel,dx,_,_,rfl,ho,T.kLevel.cl,T.nLevel_has_part,lf_hp,v.hp,rfl,?_⟩
  cases hh:v.hp with
  | false=>exact R.wrong (by unfold endWord;rw [hh];rfl) _
  | true=>
   have R':=R.ok (a:=⟨v.br,v.ended++[v.wr],[],false⟩) (by unfold endWord;rw [hh];rfl)
   refine iteF ?_
   refine ⟨_,rfl,x.p,a.cLevel,dx,_,_,rfl,ho,T.kLevel.cl,T.nLevel_ended,lf_en,.inl ⟨rfl,_,SqL.of L.en⟩,_,rfl,x.p,a.cLevel,dx,_,_,rfl,ho,T.kLevel.cl,T.nLevel_written,lf_wr,?_⟩
   refine ⟨x.e,_,_,rfl,rfl,L.en,(by rw [List.length_map];exact small1000' hle),?_⟩
   refine ⟨(by show 0<=sizeLine;decide),fun w' hw=>?_⟩
   have pe:x.p≠x.e:=ne_of ho L.en (by intro q;cases q)
   have pw:x.p≠x.w:=ne_of ho L.wr (by intro q;cases q)
   have we:w'≠x.e:=fun z=>by rw [z,upd_same] at hw;cases hw
   have wH:H w'=none:=by rw [upd_ne we] at hw;exact hw
   have wp:w'≠x.p:=fun z=>by rw [z,ho] at wH;cases wH
   have ww:w'≠x.w:=fun z=>by rw [z,L.wr] at wH;cases wH
   refine ⟨_,rfl,x.p,a.cLevel,dx,_,rfl,by rw [upd_ne wp.symm,upd_ne pe];exact ho,T.kLevel.cl,T.nLevel_written,(by show 4<1000;decide),?_⟩
   refine ⟨_,rfl,x.p,a.cLevel,dx,_,rfl,upd_same,T.kLevel.cl,T.nLevel_has_part,(by show 4<1000;decide),?_⟩
   have kp:Keep [x.p,x.e] H (upd (upd (upd (upd H x.e (.lst (x.as.map V.ref++[V.ref x.w]))) w' (.lst [])) x.p (.ins a.cLevel dx (putF "written" (.ref w') (lf v.br x.e x.w v.hp)))) x.p (.ins a.cLevel dx (putF "has_part" (.bl false) (putF "written" (.ref w') (lf v.br x.e x.w v.hp))))):=fun b o hb n=>by
    have n1:b≠x.p:=fun z=>n (by simp [z])
    have n2:b≠x.e:=fun z=>n (by simp [z])
    rw [upd_ne n1,upd_ne n1,upd_ne (ne_of_none hb wH),upd_ne n2]
    exact hb
   have nas:∀ z∈x.as,z∉[x.p,x.e]:=fun z hz m=>by
    obtain ⟨j,hj⟩:=List.getElem?_of_mem hz
    have hjl:j<v.ended.length:=by rw [<-L.ws.len];exact (List.getElem?_eq_some_iff.mp hj).1
    have hz2:=L.ws.at_ j z _ hj (List.getElem?_eq_getElem hjl)
    rcases List.mem_cons.mp m with m | m
    ·exact ne_of hz2 ho (by intro q;cases q) m
    ·exact (L.ae z hz).1 (List.mem_singleton.mp m)
   refine R' _ w' ⟨⟨dx,?_⟩,?_,?_,(L.ws.keep kp nas).snoc (kp _ _ L.wr (by simp;exact ⟨pw.symm,L.ew.symm⟩)) L.lw,we.symm,fun z hz=>?_,by simp [Sa54.MOST]⟩ wH kp
   ·rw [upd_same,lf_put_wr,lf_put_hp]
   ·rw [upd_ne pe.symm,upd_ne pe.symm,upd_ne we.symm,upd_same,List.map_append]
    rfl
   ·rw [upd_ne wp,upd_ne wp,upd_same]
    rfl
   ·rcases List.mem_append.mp hz with hz | hz
    ·obtain ⟨j,hj⟩:=List.getElem?_of_mem hz
     have hjl:j<v.ended.length:=by rw [<-L.ws.len];exact (List.getElem?_eq_some_iff.mp hj).1
     have hz2:=L.ws.at_ j z _ hj (List.getElem?_eq_getElem hjl)
     exact ⟨(L.ae z hz).1,fun q=>by rw [q,wH] at hz2;cases hz2⟩
    ·rw [List.mem_singleton.mp hz]
     exact ⟨L.ew.symm,ww.symm⟩
end
end Gw
set_option Elab.async false
set_option linter.all false
set_option maxRecDepth 100000
set_option maxHeartbeats 4000000
namespace Gw
open PySem PySem.Spec PyProof.Rows L2
section
variable {P:Program} {w:World} {K:PySem.W.Frag} {mg:Str->Option Value} {base:Heap} {a:AD}
theorem natV {m n:Nat}:(V.int (m:Int)=V.int (n:Int))↔m=n:=by
 constructor
 ·intro h
  injection h with h
  omega
 ·intro h;rw [h]
def spTakeComma (a:AD):Sp:=fun vs H Q E=>∃ (x:LA) (v:Lv),vs=[.ref x.p]/\LvAt a.cLevel H x v/\x.as.length<=10000 /\
 Res a.cWrong a.cTooLong E (takeComma v) fun v'=>∀ (H':Hp) (w':Addr),LvAt a.cLevel H' ⟨x.p,x.e,w',x.as++[x.w]⟩ v'->H w'=none->Keep [x.p,x.e] H H'->Q .non H'
theorem scTakeComma:FnScope ["level"] ["level"] (defScope sTakeComma):=⟨rfl,rfl,rfl,by decide +kernel,rfl,by decide +kernel,by decide +kernel⟩
theorem okTakeComma (T:Tx K mg a):FnOk P w K mg base (CXE P w) 2 a.fTakeComma a.dTakeComma ["level"] (spTakeComma a):=by
 have GE:FnOk P w K mg base (CXE P w) 1 a.fEndWord a.dEndWord ["level"] (spEndWord a):=okEndWord T
 refine okE T.gTakeComma.fn scTakeComma (fun vs H Q E h=>?_) (fun cdv A outer s H vs Q E hr h=>?_)
 ·obtain ⟨x,v,rfl,_⟩:=h
  rfl
 ·obtain ⟨x,v,rfl,L,hle,R⟩:=h
  obtain ⟨dx,ho⟩:=L.ob
  refine ⟨_,pss_cons (ps_if (PW.pt (pw_or (pt_cmpR op_eq (pe_fld (pv 0) rfl) (pgi T.iROUND) (nomark _)) (pw_or1 (pt_cmpR op_eq (pe_fld (pv 0) rfl) (pgi T.iWORD_ALONE) (nomark _))))) (pss_one (ps_raise takesE T.xWrong rfl rfl)) pss_nil)
   (pss_cons (ps_if (PW.pt (pw_and (pt_cmpR op_eq (pe_fld (pv 0) rfl) (pgi T.iSQUARE) (nomark _)) (pw_and1 (pt_truth (pe_fld (pv 0) rfl) (fun _=>rfl))))) (pss_one (ps_raise takesE T.xWrong rfl rfl)) pss_nil)
   (pss_one (ps_expr (pe_call GE hr rfl T.gEndWord.mg T.gEndWord.fn.kp T.gEndWord.bd .nil passE (pa_cons (pv 0) pa_nil))))),?_⟩
  refine ⟨_,rfl,x.p,a.cLevel,dx,_,_,rfl,ho,T.kLevel.cl,T.nLevel_bracket,lf_br,rfl,_,rfl,?_⟩
  refine ite2 (fun h40=>?_) (fun h40=>?_)
  ·have h40:v.br=40:=natV.mp (of_decide_eq_true h40)
   exact R.wrong (by unfold takeComma;rw [if_pos (.inl h40)]) _
  ·have h40':v.br≠40:=fun z=>h40 (decide_eq_true (natV.mpr z))
   refine ⟨_,rfl,x.p,a.cLevel,dx,_,_,rfl,ho,T.kLevel.cl,T.nLevel_bracket,lf_br,rfl,_,rfl,?_⟩
   refine ite2 (fun h1=>?_) (fun h1=>?_)
   ·have h1:v.br=1:=natV.mp (of_decide_eq_true h1)
    exact R.wrong (by unfold takeComma;rw [if_pos (.inr h1)]) _
   have h1':v.br≠1:=fun z=>h1 (decide_eq_true (natV.mpr z))
   have h40:¬ (v.br=40\/v.br=1):=fun z=>z.elim h40' h1'
   refine ⟨_,rfl,x.p,a.cLevel,dx,_,_,rfl,ho,T.kLevel.cl,T.nLevel_bracket,lf_br,rfl,_,rfl,?_⟩
   have fin:takeComma v=endWord v->_:=fun et=>(⟨_,rfl,x,v,rfl,L,hle,(by rw [<-et];exact R)⟩:tVar 0 (L2.start [("level" : Str)] [V.ref x.p]) H fun y H1=>tNil (L2.start [("level" : Str)] [V.ref x.p]) H1 fun ys H2=>spEndWord a ((y :: ys)++[]) H2 (fun _ H'=>Q .non H') E)
   refine ite2 (fun h91=>?_) (fun h91=>?_)
   ·have h91:v.br=91:=natV.mp (of_decide_eq_true h91)
    refine ⟨_,rfl,x.p,a.cLevel,dx,_,_,rfl,ho,T.kLevel.cl,T.nLevel_ended,lf_en,_,.inl ⟨_,SqL.of L.en,rfl⟩,?_⟩
    cases he:x.as with
    | nil=>
     refine iteF (fin ?_)
     have:v.ended=[]:=List.length_eq_zero_iff.mp (by rw [<-L.ws.len,he];rfl)
     unfold takeComma
     rw [if_neg h40,if_neg (by rw [this];simp)]
    | cons b r=>
     refine iteT ?_
     have:v.ended≠[]:=fun z=>by
      have:=L.ws.len
      rw [he,z] at this
      cases this
     exact R.wrong (by unfold takeComma;rw [if_neg h40,if_pos ⟨h91,this⟩]) _
   ·have h91:v.br≠91:=fun z=>h91 (decide_eq_true (natV.mpr z))
    refine iteF (fin ?_)
    unfold takeComma
    rw [if_neg h40,if_neg (fun z=>h91 z.1)]
def muts (x:LA):List Addr:=[x.p,x.e,x.w]
def mutsAll (l:Addr) (xs:List LA):List Addr:=l :: xs.flatMap muts
inductive LvsAt (C:Addr) (H:Hp):List LA->List Lv->Prop
 | nil:LvsAt C H [] []
 | cons {x:LA} {v:Lv} {xs:List LA} {vs:List Lv}:LvAt C H x v->LvsAt C H xs vs->LvsAt C H (x :: xs) (v :: vs)
structure StkAt (C:Addr) (H:Hp) (l:Addr) (xs:List LA) (st:List Lv):Prop where
 lst:H l=some (.lst ((xs.map fun x=>V.ref x.p).reverse))
 lv:LvsAt C H xs st
 nd:(mutsAll l xs).Nodup
 sep:∀ x∈xs,∀ b∈x.as,b∉mutsAll l xs
theorem LvsAt.len {C:Addr} {H:Hp}:∀ {xs:List LA} {st:List Lv},LvsAt C H xs st->xs.length=st.length
 | _,_,.nil=>rfl
 | _,_,.cons _ r=>congrArg (·+1) r.len
theorem LvsAt.keep {C:Addr} {H H':Hp} {ys:List Addr} (k:Keep ys H H'):∀ {xs:List LA} {st:List Lv},LvsAt C H xs st->(∀ x∈xs,∀ b∈muts x,b∉ys)->(∀ x∈xs,∀ b∈x.as,b∉ys)->LvsAt C H' xs st
 | _,_,.nil,_,_=>.nil
 | _,_,.cons h r,n1,n2=>.cons (h.keep k (n1 _ (List.mem_cons_self ..) _ (by simp [muts])) (n1 _ (List.mem_cons_self ..) _ (by simp [muts])) (n1 _ (List.mem_cons_self ..) _ (by simp [muts])) (n2 _ (List.mem_cons_self ..)))
   (r.keep k (fun x hx=>n1 x (List.mem_cons_of_mem _ hx)) fun x hx=>n2 x (List.mem_cons_of_mem _ hx))
theorem LvsAt.tracked {C:Addr} {H:Hp}:∀ {xs:List LA} {st:List Lv},LvsAt C H xs st->∀ x∈xs,(∀ b∈muts x,∃ o,H b=some o)/\∀ b∈x.as,∃ o,H b=some o
 | _,_,.nil,_,h=>absurd h (by simp)
 | _,_,.cons h r,x,hx=>by
  rcases List.mem_cons.mp hx with rfl | hx
  ·refine ⟨fun b hb=>?_,fun b hb=>?_⟩
   ·simp only [muts,List.mem_cons,List.not_mem_nil,or_false] at hb
    rcases hb with rfl | rfl | rfl
    ·obtain ⟨dx,ho⟩:=h.ob
     exact ⟨_,ho⟩
    ·exact ⟨_,h.en⟩
    ·exact ⟨_,h.wr⟩
   ·obtain ⟨j,hj⟩:=List.getElem?_of_mem hb
    have hjl:=(List.getElem?_eq_some_iff.mp hj).1
    rw [h.ws.len] at hjl
    exact ⟨_,h.ws.at_ j b _ hj (List.getElem?_eq_getElem hjl)⟩
  ·exact r.tracked x hx
theorem mem_mutsAll {l:Addr} {xs:List LA} {b:Addr}:b∈mutsAll l xs↔b=l\/∃ x∈xs,b∈muts x:=by simp [mutsAll,List.mem_flatMap]
theorem StkAt.tracked {C:Addr} {H:Hp} {l:Addr} {xs:List LA} {st:List Lv} (S:StkAt C H l xs st) {b:Addr} (hb:b∈mutsAll l xs):∃ o,H b=some o:=by
 rcases mem_mutsAll.mp hb with rfl | ⟨x,hx,hb⟩
 ·exact ⟨_,S.lst⟩
 ·exact (S.lv.tracked x hx).1 b hb
theorem StkAt.push {C:Addr} {H H1:Hp} {l:Addr} {xs:List LA} {st:List Lv} {x:LA} {v:Lv} (S:StkAt C H l xs st) (s1:Same H H1) (L:LvAt C H1 x v) (has:x.as=[]) (fr:∀ b∈muts x,H b=none) :
  StkAt C (upd H1 l (.lst ((xs.map fun x=>V.ref x.p).reverse++[V.ref x.p]))) l (x :: xs) (v :: st):=by
 obtain ⟨dx,ho⟩:=L.ob
 have kl:Keep [l] H1 (upd H1 l (.lst ((xs.map fun x=>V.ref x.p).reverse++[V.ref x.p]))):=Keep.upd
 have nl:∀ b∈muts x,b≠l:=fun b hb z=>by
  have q:=fr b hb
  rw [z,S.lst] at q;cases q
 have nold:∀ b∈muts x,b∉mutsAll l xs:=fun b hb m=>by
  obtain ⟨o,q⟩:=S.tracked m
  rw [fr b hb] at q;cases q
 have nd':=List.nodup_cons.mp S.nd
 refine ⟨?_,.cons (L.keep kl ?_ ?_ ?_ ?_) ((S.lv.keep (ys:=[]) (fun b o e _=>s1 b o e) (fun _ _ _ _=>by simp) fun _ _ _ _=>by simp).keep kl ?_ ?_),?_,?_⟩
 ·rw [upd_same,List.map_cons,List.reverse_cons]
 ·simpa using nl x.p (by simp [muts])
 ·simpa using nl x.e (by simp [muts])
 ·simpa using nl x.w (by simp [muts])
 ·rw [has];intro _ h;simp at h
 ·intro y hy b hb
  have:b∈xs.flatMap muts:=List.mem_flatMap.mpr ⟨y,hy,hb⟩
  intro z
  rw [List.mem_singleton.mp z] at this
  exact nd'.1 this
 ·intro y hy b hb z
  exact S.sep y hy b hb (by rw [List.mem_singleton.mp z];exact mem_mutsAll.mpr (.inl rfl))
 ·have h1:(muts x).Nodup:=by
   have pe:x.p≠x.e:=ne_of ho L.en (by intro q;cases q)
   have pw:x.p≠x.w:=ne_of ho L.wr (by intro q;cases q)
   simp [muts,pe,pw,L.ew]
  show (l :: (muts x++xs.flatMap muts)).Nodup
  refine List.nodup_cons.mpr ⟨fun m=>?_,List.nodup_append.mpr ⟨h1,nd'.2,fun b hb c hc e=>?_⟩⟩
  ·rcases List.mem_append.mp m with m | m
   ·exact nl l m rfl
   ·exact nd'.1 m
  ·subst e
   exact nold b hb (List.mem_cons_of_mem _ hc)
 ·intro y hy b hb m
  rcases List.mem_cons.mp hy with rfl | hy
  ·rw [has] at hb;simp at hb
  ·have hm:b∈muts x\/b∈mutsAll l xs:=by
    rcases mem_mutsAll.mp m with z | ⟨z,hz,m2⟩
    ·exact .inr (mem_mutsAll.mpr (.inl z))
    ·rcases List.mem_cons.mp hz with e | hz
     ·rw [e] at m2;exact .inl m2
     ·exact .inr (mem_mutsAll.mpr (.inr ⟨z,hz,m2⟩))
   rcases hm with m | m
   ·obtain ⟨o,q⟩:=(S.lv.tracked y hy).2 b hb
    rw [fr b m] at q;cases q
   ·exact S.sep y hy b hb m
def spBeginBracket (a:AD):Sp:=fun vs H Q E=>∃ (l:Addr) (xs:List LA) (st:List Lv) (c:Nat),vs=[.ref l,.int c]/\StkAt a.cLevel H l xs st/\st.length<=1000 /\
 Res a.cWrong a.cTooLong E (begin_ st c) fun st'=>∀ (H':Hp) (x:LA),StkAt a.cLevel H' l (x :: xs) st'->x.as=[]->(∀ b∈muts x,H b=none)->Keep [l] H H'->Q .non H'
theorem scBeginBracket:FnScope ["levels","sign"] ["levels","sign"] (defScope sBeginBracket):=⟨rfl,rfl,rfl,by decide +kernel,rfl,by decide +kernel,by decide +kernel⟩
theorem okBeginBracket (T:Tx K mg a):FnOk P w K mg base (CXE P w) 3 a.fBeginBracket a.dBeginBracket ["levels","sign"] (spBeginBracket a):=by
 have GL:FnOk P w K mg base (CXE P w) 1 a.fLevel a.dLevel ["self","bracket"] (spLevel a.cLevel):=okLevel T
 refine okE T.gBeginBracket.fn scBeginBracket (fun vs H Q E h=>?_) (fun cdv A outer s H vs Q E hr h=>?_)
 ·obtain ⟨l,xs,st,c,rfl,_⟩:=h
  rfl
 ·obtain ⟨l,xs,st,c,rfl,S,hle,R⟩:=h
  refine ⟨_,pss_cons (ps_if (pt_cmpR op_gt (pe_callB call_len_seq (by rfl) T.b_len PySem.boot_len (pa_cons (pv 0) pa_nil)) (pgi T.iMOST_BRACKETS) (nomark _)) (pss_one (ps_raise takesE T.xWrong rfl rfl)) pss_nil)
   (pss_one (ps_expr (pe_bm PySem.F.plainAttrs_list PySem.F.slot_list_append PySem.F.type_list_append mt_append (pv 0) (pa_cons (pe_make T.kLevel.mak GL hr rfl T.kLevel.mg T.kLevel.bd .nil passE (pa_cons (pv 1) pa_nil)) pa_nil)))),?_⟩
  have elen:((xs.map fun x=>V.ref x.p).reverse).length=st.length:=by rw [List.length_reverse,List.length_map];exact S.lv.len
  refine ⟨_,rfl,l,_,rfl,.inl (SqL.of S.lst),_,_,rfl,rfl,_,rfl,?_⟩
  refine ite2 (fun h32=>?_) (fun h32=>?_)
  ·have h32:=of_decide_eq_true h32
   rw [elen] at h32
   exact R.wrong (by unfold begin_;rw [if_pos (by omega)]) _
  ·have h32:¬ 32<st.length:=fun z=>h32 (decide_eq_true (by rw [elen];omega))
   have R':=R.ok (a:=⟨c,[],[],false⟩ :: st) (by unfold begin_;rw [if_neg h32])
   refine ⟨_,rfl,.inl ⟨rfl,_,SqL.of S.lst⟩,?_⟩
   refine ⟨_,rfl,fun p dx np nd ne=>?_⟩
   refine ⟨p,dx,c,rfl,upd_same,fun H1 e w L he hw k1=>⟨rfl,?_⟩⟩
   have s1:Same H H1:=Same.made np nd fun b o q n=>k1 b o q (by simpa using n)
   refine ⟨l,_,_,rfl,rfl,s1 _ _ S.lst,(by rw [elen];exact Nat.lt_of_le_of_lt hle (by decide)),?_⟩
   have fr0:∀ b,(upd (upd H dx (.own p)) p (.ins a.cLevel dx [])) b=none->H b=none:=fun b q=>by
    have n1:b≠p:=fun z=>by rw [z,upd_same] at q;cases q
    rw [upd_ne n1] at q
    have n2:b≠dx:=fun z=>by rw [z,upd_same] at q;cases q
    rw [upd_ne n2] at q
    exact q
   refine R' _ ⟨p,e,w,[]⟩ (S.push s1 L rfl fun b hb=>?_) rfl (fun b hb=>?_) fun b o q n=>?_
   ·simp only [muts,List.mem_cons,List.not_mem_nil,or_false] at hb
    rcases hb with rfl | rfl | rfl
    ·exact np
    ·exact fr0 _ he
    ·exact fr0 _ hw
   ·simp only [muts,List.mem_cons,List.not_mem_nil,or_false] at hb
    rcases hb with rfl | rfl | rfl
    ·exact np
    ·exact fr0 _ he
    ·exact fr0 _ hw
   ·rw [upd_ne (fun z=>n (by simp [z]))]
    exact s1 _ _ q
end
end Gw
set_option Elab.async false
set_option linter.all false
set_option maxRecDepth 100000
set_option maxHeartbeats 4000000
namespace Gw
open PySem PySem.Spec PyProof.Rows L2
section
variable {P:Program} {w:World} {K:PySem.W.Frag} {mg:Str->Option Value} {base:Heap} {a:AD}
theorem StkAt.pop {C:Addr} {H:Hp} {l:Addr} {x:LA} {xs:List LA} {v:Lv} {st:List Lv} (S:StkAt C H l (x :: xs) (v :: st)) {ys:List Addr} {H':Hp} (k:Keep ys H H') (hl:H' l=some (.lst ((xs.map fun x=>V.ref x.p).reverse))) (hy:∀ b∈ys,b=l\/b∈muts x) :
  StkAt C H' l xs st:=by
 have nd':=List.nodup_cons.mp S.nd
 have nd2:(muts x++xs.flatMap muts).Nodup:=nd'.2
 obtain ⟨_,n2,n3⟩:=List.nodup_append.mp nd2
 cases S.lv with
 | cons L r=>
  refine ⟨hl,r.keep k (fun z hz b hb m=>?_) (fun z hz b hb m=>?_),List.nodup_cons.mpr ⟨fun m=>nd'.1 (List.mem_append_right _ m),n2⟩,fun z hz b hb m=>S.sep z (List.mem_cons_of_mem _ hz) b hb ?_⟩
  ·have hb2:b∈xs.flatMap muts:=List.mem_flatMap.mpr ⟨z,hz,hb⟩
   rcases hy b m with rfl | q
   ·exact nd'.1 (List.mem_append_right _ hb2)
   ·exact n3 b q b hb2 rfl
  ·rcases hy b m with rfl | q
   ·exact S.sep z (List.mem_cons_of_mem _ hz) _ hb (mem_mutsAll.mpr (.inl rfl))
   ·exact S.sep z (List.mem_cons_of_mem _ hz) _ hb (mem_mutsAll.mpr (.inr ⟨x,List.mem_cons_self ..,q⟩))
  ·rcases mem_mutsAll.mp m with q | ⟨y,hy,q⟩
   ·exact mem_mutsAll.mpr (.inl q)
   ·exact mem_mutsAll.mpr (.inr ⟨y,List.mem_cons_of_mem _ hy,q⟩)
def spEndBracket (a:AD):Sp:=fun vs H Q E=>∃ (l:Addr) (x:LA) (xs:List LA) (v:Lv) (st:List Lv) (br:Nat),vs=[.ref l,.int br]/\StkAt a.cLevel H l (x :: xs) (v :: st)/\x.as.length<=10000 /\
 Res a.cWrong a.cTooLong E (endBr br (v :: st)) fun p=>∀ (H':Hp) (e:Addr) (as:List Addr),H' e=some (.lst (as.map V.ref))->WordsAt H' as p.1->StkAt a.cLevel H' l xs p.2->Keep (mutsAll l (x :: xs)) H H'->Q (.ref e) H'
theorem scEndBracket:FnScope ["levels","bracket","level"] ["levels","bracket"] (defScope sEndBracket):=⟨rfl,rfl,rfl,by decide +kernel,rfl,by decide +kernel,by decide +kernel⟩
theorem okEndBracket (T:Tx K mg a):FnOk P w K mg base (CXE P w) 2 a.fEndBracket a.dEndBracket ["levels","bracket"] (spEndBracket a):=by
 have GE:FnOk P w K mg base (CXE P w) 1 a.fEndWord a.dEndWord ["level"] (spEndWord a):=okEndWord T
 refine okE T.gEndBracket.fn scEndBracket (fun vs H Q E h=>?_) (fun cdv A outer s H vs Q E hr h=>?_)
 ·obtain ⟨l,x,xs,v,st,br,rfl,_⟩:=h
  rfl
 ·obtain ⟨l,x,xs,v,st,br,rfl,S,hle,R⟩:=h
  have L:LvAt a.cLevel H x v:=by cases S.lv with | cons h _=>exact h
  obtain ⟨dx,ho⟩:=L.ob
  refine ⟨_,pss_cons (ps_set (i:=2) scEndBracket.nd rfl (Or.inl rfl) (pe_bm0 PySem.F.plainAttrs_list PySem.F.slot_list_pop PySem.F.type_list_pop mt_pop (pv 0)))
   (pss_cons (ps_if (pt_cmpR op_ne (pe_fld (pv 2) rfl) (pv 1) (nomark _)) (pss_one (ps_raise takesE T.xWrong rfl rfl)) pss_nil)
   (pss_cons (ps_expr (pe_call GE hr rfl T.gEndWord.mg T.gEndWord.fn.kp T.gEndWord.bd .nil passE (pa_cons (pv 2) pa_nil)))
   (pss_one (ps_ret (pe_fld (pv 2) rfl))))),?_⟩
  have er:((x :: xs).map fun x=>V.ref x.p).reverse=(xs.map fun x=>V.ref x.p).reverse++[V.ref x.p]:=by rw [List.map_cons,List.reverse_cons]
  have hl:=S.lst
  rw [er] at hl
  refine ⟨_,rfl,.inl ⟨rfl,_,SqL.of hl⟩,l,_,V.ref x.p,rfl,rfl,hl,(by simp),?_⟩
  have edl:((xs.map fun x=>V.ref x.p).reverse++[V.ref x.p]).dropLast=(xs.map fun x=>V.ref x.p).reverse:=by simp
  rw [edl]
  have nlm:∀ b∈muts x,b≠l:=fun b hb z=>(List.nodup_cons.mp S.nd).1 (by rw [<-z];exact List.mem_append_left _ hb)
  have k1:Keep [l] H (upd H l (.lst ((xs.map fun x=>V.ref x.p).reverse))):=Keep.upd
  have L1:LvAt a.cLevel (upd H l (.lst ((xs.map fun x=>V.ref x.p).reverse))) x v:=L.keep k1 (by simpa using nlm x.p (by simp [muts])) (by simpa using nlm x.e (by simp [muts])) (by simpa using nlm x.w (by simp [muts]))
   fun b hb m=>S.sep x (List.mem_cons_self ..) b hb (by rw [List.mem_singleton.mp m];exact mem_mutsAll.mpr (.inl rfl))
  obtain ⟨dx1,ho1⟩:=L1.ob
  refine ⟨_,rfl,x.p,a.cLevel,dx1,_,_,rfl,ho1,T.kLevel.cl,T.nLevel_bracket,lf_br,_,rfl,rfl,_,rfl,?_⟩
  refine ite2 (fun hb=>?_) (fun hb=>?_)
  ·have hb:v.br≠br:=fun z=>by
    have q:(!decide (V.int (v.br:Int)=V.int (br:Int)))=true:=hb
    rw [decide_eq_true (natV.mpr z)] at q
    cases q
   exact R.wrong (by show (if v.br=br then _ else _)=_;rw [if_neg hb]) _
  ·have hb:v.br=br:=Classical.byContradiction fun z=>hb (by
    show (!decide (V.int (v.br:Int)=V.int (br:Int)))=true
    rw [decide_eq_false fun q=>z (natV.mp q)];rfl)
   have eb:endBr br (v :: st)=(endWord v).bind fun m=>.ok (m.ended,st):=by show (if v.br=br then _ else _)=_;rw [if_pos hb]
   rw [eb] at R
   refine ⟨_,rfl,x,v,rfl,L1,hle,R.bind.imp fun v' ev R3 H2 w' L2' hw k2=>?_⟩
   obtain ⟨dx2,ho2⟩:=L2'.ob
   refine ⟨_,rfl,x.p,a.cLevel,dx2,_,_,rfl,ho2,T.kLevel.cl,T.nLevel_ended,lf_en,?_⟩
   have k12:Keep ([l]++[x.p,x.e]) H H2:=k1.trans k2
   refine R3 H2 x.e (x.as++[x.w]) L2'.en L2'.ws (S.pop k12 ?_ ?_) (k12.mono ?_)
   ·exact k2 l _ upd_same (by
     intro m
     simp only [List.mem_cons,List.not_mem_nil,or_false] at m
     rcases m with m | m
     ·exact nlm x.p (by simp [muts]) m.symm
     ·exact nlm x.e (by simp [muts]) m.symm)
   ·intro b hb
    simp only [List.cons_append,List.nil_append,List.mem_cons,List.not_mem_nil,or_false] at hb
    rcases hb with rfl | rfl | rfl
    ·exact .inl rfl
    ·exact .inr (by simp [muts])
    ·exact .inr (by simp [muts])
   ·intro b hb
    simp only [List.cons_append,List.nil_append,List.mem_cons,List.not_mem_nil,or_false] at hb
    rcases hb with rfl | rfl | rfl
    ·exact mem_mutsAll.mpr (.inl rfl)
    ·exact mem_mutsAll.mpr (.inr ⟨x,List.mem_cons_self ..,by simp [muts]⟩)
    ·exact mem_mutsAll.mpr (.inr ⟨x,List.mem_cons_self ..,by simp [muts]⟩)
theorem lc_rev {K : PySem.W.Frag} {a : Addr} {xs : List V} {g : TG} {tt : TT} {te : TE} {vs : List Nat} {σ : L2.St} {H1 : Hp} {D : Addr} {Qd : Hp -> Prop} (Pv : Nat -> Hp -> Prop) (h0 : Pv 0 (upd H1 D (.lst []))) (hl : ∀ i H, i <= xs.length -> Pv i H -> SqL K H a xs)
    (hs : ∀ i x H, xs.reverse[i]? = some x -> Pv i H -> g x (wipe σ vs) H fun σ2 H2 => wipe σ2 vs = wipe σ vs /\ tt σ2 H2 fun b H3 =>
      if b = true then te σ2 H3 fun y H4 => ∃ acc, H4 D = some (.lst acc) /\ acc.length < sizeLine /\ Pv (i + 1) (upd H4 D (.lst (acc ++ [y]))) else Pv (i + 1) H3) (hd : ∀ H, Pv xs.length H -> Qd H) :
    ∃ W : Nat -> Nat -> Hp -> Prop, (∃ m, W 0 m (upd H1 D (.lst []))) /\ ∀ i m H, W i m H ->
      ((Itv K a xs.length).stop i H /\ Qd H) \/ ((Itv K a xs.length).go i H /\ ∃ Nx : Hp -> Prop, (∀ H', Nx H' -> ∃ m', m' < m /\ W (i + 1) m' H') /\ ∀ x H', (Itv K a xs.length).yld i H x H' -> g x (wipe σ vs) H' fun σ2 H2 => wipe σ2 vs = wipe σ vs /\ tt σ2 H2 fun b H3 =>
        if b = true then te σ2 H3 fun y H4 => ∃ acc, H4 D = some (.lst acc) /\ acc.length < sizeLine /\ Nx (upd H4 D (.lst (acc ++ [y]))) else Nx H3) := by
  refine ⟨fun i m H => m = xs.length - i /\ i <= xs.length /\ Pv i H, ⟨xs.length, by simp, Nat.zero_le _, h0⟩, ?_⟩
  rintro i m H ⟨rfl, hi, p⟩
  have q := hl i H hi p
  by_cases hlt : i < xs.length
  · have hj : xs.length - 1 - i < xs.length := by omega
    refine .inr ⟨⟨hlt, xs, xs[xs.length - 1 - i], q, List.getElem?_eq_getElem hj⟩, Pv (i + 1), fun H' p' => ⟨xs.length - (i + 1), by omega, rfl, hlt, p'⟩, fun x H' y => ?_⟩
    obtain ⟨e, y⟩ := y
    subst e
    exact hs i x _ (by rw [List.getElem?_reverse hlt]; exact y xs q) p
  · have e : i = xs.length := by omega
    subst e
    exact .inl ⟨Nat.le_refl _, hd H p⟩
theorem enc_inv (l:Sa54.Letter):encL (l.1,!l.2) = -encL l:=by
 obtain ⟨i,b⟩:=l
 cases b<;>simp [encL]
theorem wv_inv (w:Sa54.Word):wv (Sa54.inverse w)=(w.reverse.map fun l=>V.int (-encL l)):=by
 unfold Sa54.inverse wv
 rw [List.map_map]
 exact List.map_congr_left fun l _=>by show V.int (encL (l.1,!l.2))=_;rw [enc_inv]
def spInverse (K:PySem.W.Frag):Sp:=fun vs H Q _=>∃ (q:Addr) (u:Sa54.Word),vs=[.ref q]/\SqL K H q (wv u)/\u.length<=10000/\∀ (H':Hp) (r:Addr),H r=none->H'=upd H r (.lst (wv (Sa54.inverse u)))->Q (.ref r) H'
theorem scInverse:FnScope ["word","number"] ["word"] (defScope sInverse):=⟨rfl,rfl,rfl,by decide +kernel,rfl,by decide +kernel,by decide +kernel⟩
theorem okInverse (T:Tx K mg a):FnOk P w K mg base (CXE P w) 1 a.fInverse a.dInverse ["word"] (spInverse K):=by
 refine okE T.gInverse.fn scInverse (fun vs H Q E h=>?_) (fun cdv A outer s H vs Q E hr h=>?_)
 ·obtain ⟨q,u,rfl,_⟩:=h
  rfl
 ·obtain ⟨q,u,rfl,hq,hu,k⟩:=h
  refine ⟨_,pss_one (ps_ret (pe_lc (own:=[("number",1)]) rfl scInverse.nd (pi_reversed rfl T.b_reversed (pa_cons (pv 0) pa_nil)) (blkOk_by (by kernel_rfl))
   (fun s H C cl fp=>pg_name (i:=1) scInverse.nd rfl (Or.inl rfl) (.inr rfl)) (fun s H C cl fp=>pts_nil) (fun s H C cl fp=>pe_un un_neg (pv 1)))),?_⟩
  refine ⟨_,rfl,q,wv u,rfl,hq,fun D hD=>?_⟩
  have kD:∀ acc,Same H (upd H D (.lst acc)):=fun acc b o e=>by rw [upd_ne (ne_of_none e hD)];exact e
  refine lc_rev (xs:=wv u) (fun i H'=>H'=upd H D (.lst ((u.reverse.take i).map fun l=>V.int (-encL l)))) rfl (fun i H' _ e=>by rw [e];exact (kD _).seq hq) (fun i x H' hx e=>?_) fun H' e=>?_
  ·subst e
   obtain ⟨l,hl,rfl⟩:∃ l,u.reverse[i]?=some l/\x=V.int (encL l):=by
    rw [<-List.map_reverse,List.getElem?_map] at hx
    cases e:u.reverse[i]? with
    | none=>rw [e] at hx;cases hx
    | some l=>rw [e] at hx;exact ⟨l,rfl,(Option.some.inj hx).symm⟩
   have hlt:=(List.getElem?_eq_some_iff.mp hl).1
   refine ⟨rfl,_,rfl,_,rfl,_,upd_same,?_,?_⟩
   ·rw [List.length_map,List.length_take]
    rw [List.length_reverse] at hlt
    exact Nat.lt_of_le_of_lt (Nat.le_trans (Nat.min_le_left _ _) (by omega:i<=10000)) (by decide)
   ·show upd (upd H D _) D _=upd H D _
    rw [upd_upd,List.take_add_one,hl]
    simp
  ·subst e
   refine k _ D hD ?_
   rw [wv_inv,List.take_of_length_le (by simp)]
end
end Gw
set_option Elab.async false
set_option linter.all false
set_option maxRecDepth 100000
set_option maxHeartbeats 4000000
namespace Gw
open PySem PySem.Spec PyProof.Rows L2
section
variable {P:Program} {w:World} {K:PySem.W.Frag} {mg:Str->Option Value} {base:Heap} {a:AD}
theorem wv_len (u:Sa54.Word):(wv u).length=u.length:=List.length_map ..
theorem lt_line {n:Nat} (h:n<=100000):n<=sizeLine:=Nat.le_trans h (by decide)
theorem bootAbs:bootBuiltins "abs" = some (.builtin "abs"):=by decide +kernel
def spCommutator (a:AD):Sp:=fun vs H Q E=>∃ (q r:Addr) (x y:Sa54.Word),vs=[.ref q,.ref r]/\H q=some (.lst (wv x))/\H r=some (.lst (wv y))/\x.length<=Sa54.MOST/\y.length<=Sa54.MOST /\
 Res a.cWrong a.cTooLong E (comm x y) fun z=>∀ (H':Hp) (p:Addr),H' p=some (.lst (wv z))->Keep [] H H'->Q (.ref p) H'
theorem scCommutator:FnScope ["left","right"] ["left","right"] (defScope sCommutator):=⟨rfl,rfl,rfl,by decide +kernel,rfl,by decide +kernel,by decide +kernel⟩
theorem okCommutator (T:Tx K mg a):FnOk P w K mg base (CXE P w) 2 a.fCommutator a.dCommutator ["left","right"] (spCommutator a):=by
 have GI:FnOk P w K mg base (CXE P w) 1 a.fInverse a.dInverse ["word"] (spInverse K):=okInverse T
 refine okE T.gCommutator.fn scCommutator (fun vs H Q E h=>?_) (fun cdv A outer s H vs Q E hr h=>?_)
 ·obtain ⟨q,r,x,y,rfl,_⟩:=h
  rfl
 ·obtain ⟨q,r,x,y,rfl,hq,hr',lx,ly,R⟩:=h
  refine ⟨_,pss_cons (ps_if (pt_cmpR op_gt (pe_op op_mul pe_int (pe_op op_add (pe_callB call_len_seq (by rfl) T.b_len PySem.boot_len (pa_cons (pv 0) pa_nil)) (pe_callB call_len_seq (by rfl) T.b_len PySem.boot_len (pa_cons (pv 1) pa_nil)))) (pgi T.iMOST_WRITTEN) (nomark _)) (pss_one (ps_raise takesE T.xTooLong rfl rfl)) pss_nil)
   (pss_one (ps_ret (pe_op op_cat (pe_op op_cat (pe_op op_cat (pv 0) (pv 1)) (pe_call GI hr rfl T.gInverse.mg T.gInverse.fn.kp T.gInverse.bd .nil passE (pa_cons (pv 0) pa_nil))) (pe_call GI hr rfl T.gInverse.mg T.gInverse.fn.kp T.gInverse.bd .nil passE (pa_cons (pv 1) pa_nil))))),?_⟩
  refine ⟨_,rfl,q,_,rfl,.inl (SqL.of hq),_,rfl,r,_,rfl,.inl (SqL.of hr'),_,_,rfl,rfl,_,_,rfl,rfl,.inl ⟨by decide,by decide⟩,_,_,rfl,rfl,_,rfl,?_⟩
  unfold Sa54.MOST at lx ly
  refine ite2 (fun h=>?_) (fun h=>?_)
  ·have h:=of_decide_eq_true h
   simp only [wv_len] at h
   exact R.full (by unfold comm Sa54.MOST;rw [if_pos (by omega)]) _
  ·have hn:¬ Sa54.MOST<2*(x.length+y.length):=fun z=>h (decide_eq_true (by simp only [wv_len];unfold Sa54.MOST at z;omega))
   have R':=R.ok (a:=x++y++Sa54.inverse x++Sa54.inverse y) (by unfold comm;rw [if_neg hn])
   unfold Sa54.MOST at hn
   refine ⟨_,rfl,_,rfl,q,r,_,_,rfl,rfl,hq,hr',(by simp only [wv_len];exact lt_line (by omega)),fun p1 h1=>?_⟩
   have s1:Same H (upd H p1 (.lst (wv x++wv y))):=(Keep.new h1).same
   refine ⟨_,rfl,q,x,rfl,SqL.of (s1 _ _ hq),by omega,fun H2 p2 h2 e2=>?_⟩
   subst e2
   have s2:Same (upd H p1 (.lst (wv x++wv y))) (upd (upd H p1 (.lst (wv x++wv y))) p2 (.lst (wv (Sa54.inverse x)))):=(Keep.new h2).same
   refine ⟨p1,p2,_,_,rfl,rfl,s2 _ _ upd_same,upd_same,(by simp only [List.length_append,wv_len,inv_len];exact lt_line (by omega)),fun p3 h3=>?_⟩
   have s3:Same _ (upd (upd (upd H p1 (.lst (wv x++wv y))) p2 (.lst (wv (Sa54.inverse x)))) p3 (.lst (wv x++wv y++wv (Sa54.inverse x)))):=(Keep.new h3).same
   refine ⟨_,rfl,r,y,rfl,SqL.of (s3 _ _ (s2 _ _ (s1 _ _ hr'))),by omega,fun H4 p4 h4 e4=>?_⟩
   subst e4
   have s4:=(Keep.new (o:=.lst (wv (Sa54.inverse y))) h4).same
   refine ⟨p3,p4,_,_,rfl,rfl,s4 _ _ upd_same,upd_same,(by simp only [List.length_append,wv_len,inv_len];exact lt_line (by omega)),fun p5 h5=>?_⟩
   have s5:=(Keep.new (o:=.lst (wv x++wv y++wv (Sa54.inverse x)++wv (Sa54.inverse y))) h5).same
   refine R' _ p5 (by rw [upd_same];simp [wv]) fun b o e _=>s5 _ _ (s4 _ _ (s3 _ _ (s2 _ _ (s1 _ _ e))))
def addLv (v:Lv) (u:Sa54.Word) (n:Nat) (neg:Bool):Sa54.Got Lv:=if Sa54.MOST<v.wr.length+u.length*n then .error .full else .ok ⟨v.br,v.ended,v.wr++rep n (if neg=true then Sa54.inverse u else u),true⟩
theorem addPart_eq (v:Lv) (st:List Lv) (u:Sa54.Word) (n:Nat) (neg:Bool):addPart (v :: st) u n neg=(addLv v u n neg).bind fun v'=>.ok (v' :: st):=by
 unfold addPart addLv
 simp only
 split<;>rfl
def spAddPart (a:AD):Sp:=fun vs H Q E=>∃ (x:LA) (v:Lv) (q:Addr) (u:Sa54.Word) (n:Nat) (neg:Bool),vs=[.ref x.p,.ref q,.int (powZ n neg)]/\LvAt a.cLevel H x v/\H q=some (.lst (wv u))/\u.length<=Sa54.MOST/\n<=100000 /\
 Res a.cWrong a.cTooLong E (addLv v u n neg) fun v'=>∀ H':Hp,LvAt a.cLevel H' x v'->Keep [x.p,x.w] H H'->Q .non H'
theorem scAddPart:FnScope ["level","part","power","times"] ["level","part","power"] (defScope sAddPart):=⟨rfl,rfl,rfl,by decide +kernel,rfl,by decide +kernel,by decide +kernel⟩
theorem wv_rep (n:Nat) (u:Sa54.Word):(List.replicate n (wv u)).flatten=wv (rep n u):=by
 unfold rep wv
 rw [List.map_flatten,List.map_replicate]
theorem okAddPart (T:Tx K mg a):FnOk P w K mg base (CXE P w) 2 a.fAddPart a.dAddPart ["level","part","power"] (spAddPart a):=by
 have GI:FnOk P w K mg base (CXE P w) 1 a.fInverse a.dInverse ["word"] (spInverse K):=okInverse T
 refine okE T.gAddPart.fn scAddPart (fun vs H Q E h=>?_) (fun cdv A outer s H vs Q E hr h=>?_)
 ·obtain ⟨x,v,q,u,n,neg,rfl,_⟩:=h
  rfl
 ·obtain ⟨x,v,q,u,n,neg,rfl,L,hq,hu,hn,R⟩:=h
  obtain ⟨dx,ho⟩:=L.ob
  have lw:=L.lw
  unfold Sa54.MOST at hu lw
  refine ⟨_,pss_cons (ps_set (i:=3) scAddPart.nd rfl (Or.inl rfl) (pe_callB call_abs (by rfl) T.b_abs bootAbs (pa_cons (pv 2) pa_nil)))
   (pss_cons (ps_if (pt_cmpR op_gt (pe_op op_add (pe_callB call_len_seq (by rfl) T.b_len PySem.boot_len (pa_cons (pe_fld (pv 0) rfl) pa_nil)) (pe_op op_mul (pe_callB call_len_seq (by rfl) T.b_len PySem.boot_len (pa_cons (pv 1) pa_nil)) (pv 3))) (pgi T.iMOST_WRITTEN) (nomark _)) (pss_one (ps_raise takesE T.xTooLong rfl rfl)) pss_nil)
   (pss_cons (ps_expr (pe_bm PySem.F.plainAttrs_list PySem.F.slot_list_extend PySem.F.type_list_extend mt_extend (pe_fld (pv 0) rfl)
    (pa_cons (pe_op op_rep (pe_ifExp (pt_cmpR op_lt (pv 2) pe_int (nomark _)) (pe_call GI hr rfl T.gInverse.mg T.gInverse.fn.kp T.gInverse.bd .nil passE (pa_cons (pv 1) pa_nil)) (pv 1)) (pv 3)) pa_nil)))
   (pss_one (ps_fld (pv 0) pe_bl rfl)))),?_⟩
  have eabs:(if powZ n neg<0 then -powZ n neg else powZ n neg)=(n:Int):=by
   unfold powZ
   cases neg<;>simp<;>omega
  refine ⟨_,rfl,_,rfl,?_⟩
  rw [eabs]
  refine ⟨_,rfl,x.p,a.cLevel,dx,_,_,rfl,ho,T.kLevel.cl,T.nLevel_written,lf_wr,x.w,_,rfl,.inl (SqL.of L.wr),_,rfl,q,_,rfl,.inl (SqL.of hq),_,rfl,_,_,rfl,rfl,.inl ⟨by simp only [wv_len];omega,by simp only [wv_len];omega⟩,_,_,rfl,rfl,_,_,rfl,rfl,_,rfl,?_⟩
  refine ite2 (fun h=>?_) (fun h=>?_)
  ·have h:=of_decide_eq_true h
   simp only [wv_len] at h
   refine R.full ?_ _
   unfold addLv Sa54.MOST
   rw [if_pos (by exact_mod_cast h)]
  ·have hm:¬ Sa54.MOST<v.wr.length+u.length*n:=fun z=>h (decide_eq_true (by simp only [wv_len];unfold Sa54.MOST at z;exact_mod_cast z))
   have R':=R.ok (a:=⟨v.br,v.ended,v.wr++rep n (if neg=true then Sa54.inverse u else u),true⟩) (by unfold addLv;rw [if_neg hm])
   unfold Sa54.MOST at hm
   have pw:x.p≠x.w:=ne_of ho L.wr (by intro q;cases q)
   have pe:x.p≠x.e:=ne_of ho L.en (by intro q;cases q)
   have zl:(rep n (if neg=true then Sa54.inverse u else u)).length=u.length*n:=by rw [rep_len];split<;>simp [inv_len]
   have key:∀ (H1:Hp) (r:Addr),Same H H1->H1 r=some (.lst (wv (rep n (if neg=true then Sa54.inverse u else u)))) ->
     Q .non (upd (upd H1 x.w (.lst (wv v.wr++wv (rep n (if neg=true then Sa54.inverse u else u))))) x.p (.ins a.cLevel dx (putF "has_part" (.bl true) (lf v.br x.e x.w v.hp)))):=by
    intro H1 r s1 hr1
    have kp:Keep [x.p,x.w] H (upd (upd H1 x.w (.lst (wv v.wr++wv (rep n (if neg=true then Sa54.inverse u else u))))) x.p (.ins a.cLevel dx (putF "has_part" (.bl true) (lf v.br x.e x.w v.hp)))):=fun b o hb m=>by
     rw [upd_ne (fun z=>m (by simp [z])),upd_ne (fun z=>m (by simp [z]))]
     exact s1 _ _ hb
    refine R' _ ⟨⟨dx,by rw [upd_same,lf_put_hp]⟩,kp _ _ L.en (by simp;exact ⟨pe.symm,L.ew⟩),?_,L.ws.keep kp ?_,L.ew,L.ae,?_⟩ kp
    ·rw [upd_ne pw.symm,upd_same]
     simp [wv]
    ·intro z hz m
     obtain ⟨j,hj⟩:=List.getElem?_of_mem hz
     have hjl:=(List.getElem?_eq_some_iff.mp hj).1
     rw [L.ws.len] at hjl
     have hz2:=L.ws.at_ j z _ hj (List.getElem?_eq_getElem hjl)
     simp only [List.mem_cons,List.not_mem_nil,or_false] at m
     rcases m with m | m
     ·exact ne_of hz2 ho (by intro q;cases q) m
     ·exact (L.ae z hz).2 m
    ·show (v.wr++rep n (if neg=true then Sa54.inverse u else u)).length<=Sa54.MOST
     rw [List.length_append,zl]
     unfold Sa54.MOST
     omega
   have n63:(n:Int)<2 ^ 63:=by omega
   refine ⟨_,rfl,x.p,a.cLevel,dx,_,_,rfl,ho,T.kLevel.cl,T.nLevel_written,lf_wr,.inl ⟨rfl,_,SqL.of L.wr⟩,_,rfl,_,_,rfl,rfl,_,rfl,?_⟩
   refine ite2 (fun h0=>?_) (fun h0=>?_)
   ·have h0:powZ n neg<0:=of_decide_eq_true h0
    have en:neg=true:=by
     cases neg with
     | true=>rfl
     | false=>unfold powZ at h0;simp at h0;omega
    refine ⟨_,rfl,q,u,rfl,SqL.of hq,by omega,fun H2 r h2 e2=>?_⟩
    subst e2
    have s2:Same H (upd H r (.lst (wv (Sa54.inverse u)))):=(Keep.new h2).same
    refine ⟨_,rfl,r,_,_,rfl,rfl,upd_same,by omega,n63,?_,fun p hp=>?_⟩
    ·rw [wv_len,inv_len,Int.toNat_natCast]
     exact lt_line (by omega)
    ·have s3:=(Keep.new (o:=.lst (List.replicate (n:Int).toNat (wv (Sa54.inverse u))).flatten) hp).same
     have ez:(List.replicate (n:Int).toNat (wv (Sa54.inverse u))).flatten=wv (rep n (if neg=true then Sa54.inverse u else u)):=by rw [Int.toNat_natCast,wv_rep,en];rfl
     rw [ez] at s3 ⊢
     have wp:x.p≠p:=ne_of_none (s2 _ _ ho) hp
     refine ⟨x.w,p,_,_,rfl,rfl,s3 _ _ (s2 _ _ L.wr),upd_same,(by rw [wv_len,wv_len,zl];exact lt_line (by omega)),?_⟩
     refine ⟨_,rfl,x.p,a.cLevel,dx,_,rfl,by rw [upd_ne pw];exact s3 _ _ (s2 _ _ ho),T.kLevel.cl,T.nLevel_has_part,(by show 4<1000;decide),?_⟩
     exact key _ p (fun b o e=>s3 _ _ (s2 _ _ e)) upd_same
   ·have hz:rep n (if neg=true then Sa54.inverse u else u)=rep n u:=by
     cases neg with
     | false=>rfl
     | true=>
      have:n=0:=Classical.byContradiction fun z=>h0 (decide_eq_true (by unfold powZ;simp;omega))
      subst this
      rfl
    refine ⟨_,rfl,_,rfl,q,_,_,rfl,rfl,hq,by omega,n63,?_,fun p hp=>?_⟩
    ·rw [wv_len,Int.toNat_natCast]
     exact lt_line (by omega)
    ·have s3:=(Keep.new (o:=.lst (List.replicate (n:Int).toNat (wv u)).flatten) hp).same
     have ez:(List.replicate (n:Int).toNat (wv u)).flatten=wv (rep n (if neg=true then Sa54.inverse u else u)):=by rw [Int.toNat_natCast,wv_rep,hz]
     rw [ez] at s3 ⊢
     refine ⟨x.w,p,_,_,rfl,rfl,s3 _ _ L.wr,upd_same,(by rw [wv_len,wv_len,zl];exact lt_line (by omega)),?_⟩
     refine ⟨_,rfl,x.p,a.cLevel,dx,_,rfl,by rw [upd_ne pw];exact s3 _ _ ho,T.kLevel.cl,T.nLevel_has_part,(by show 4<1000;decide),?_⟩
     exact key _ p s3 upd_same
end
end Gw
set_option Elab.async false
set_option linter.all false
set_option maxRecDepth 100000
set_option maxHeartbeats 4000000
namespace Gw
open PySem PySem.Spec PyProof.Rows L2
section
variable {P:Program} {w:World} {K:PySem.W.Frag} {mg:Str->Option Value} {base:Heap} {a:AD}
theorem cut_ij {xs:List V} {i j:Nat} (h:i<=j) (hj:j<=xs.length):cutV xs (some (i:Int)) (some (j:Int))=(xs.drop i).take (j-i):=by
 unfold cutV HT.sIx
 have h1:¬ ((i:Int)<0):=by omega
 have h2:¬ ((j:Int)<0):=by omega
 simp only [h1,h2,if_false,Int.toNat_natCast]
 rw [Nat.min_eq_left (by omega:i<=xs.length),Nat.min_eq_left hj]
theorem cut_i {xs:List V} {i:Nat} (h:i<=xs.length):cutV xs (some (i:Int)) none=xs.drop i:=by
 unfold cutV HT.sIx
 have h1:¬ ((i:Int)<0):=by omega
 simp only [h1,if_false,Int.toNat_natCast]
 rw [Nat.min_eq_left h,List.take_of_length_le (by simp)]
theorem cut_j {xs:List V} {j:Nat} (h:j<=xs.length):cutV xs none (some (j:Int))=xs.take j:=by
 unfold cutV HT.sIx
 have h1:¬ ((j:Int)<0):=by omega
 simp only [h1,if_false,Int.toNat_natCast]
 rw [Nat.min_eq_left h]
 simp
theorem nv_len (b:List Nat):(nv b).length=b.length:=List.length_map ..
theorem nv_drop (b:List Nat) (i:Nat):(nv b).drop i=nv (b.drop i):=by simp [nv,List.map_drop]
theorem nv_take (b:List Nat) (i:Nat):(nv b).take i=nv (b.take i):=by simp [nv,List.map_take]
theorem nv_at {b:List Nat} {i:Nat} {c:Nat} (h:b[i]?=some c):(nv b)[i]?=some (V.int (c:Int)):=by rw [List.getElem?_map,h];rfl
def powSigns (b:List Nat):List Nat:=if (b.head?==some 45)=true then 45 :: (b.drop 1).takeWhile Sa54.digit else b.takeWhile Sa54.digit
def spPowerSigns (K:PySem.W.Frag):Sp:=fun vs H Q _=>∃ (q:Addr) (b:List Nat) (i:Nat),vs=[.ref q,.int i]/\SqL K H q (nv b)/\i<=b.length/\b.length<=10000/\∀ (r:Addr),H r=none->Q (.ref r) (upd H r (.lst (nv (powSigns (b.drop i)))))
theorem scPowerSigns:FnScope ["signs","start","end"] ["signs","start"] (defScope sPowerSigns):=⟨rfl,rfl,rfl,by decide +kernel,rfl,by decide +kernel,by decide +kernel⟩
theorem okPowerSigns (T:Tx K mg a):FnOk P w K mg base (CXE P w) 1 a.fPowerSigns a.dPowerSigns ["signs","start"] (spPowerSigns K):=by
 refine okE T.gPowerSigns.fn scPowerSigns (fun vs H Q E h=>?_) (fun cdv A outer s H vs Q E hr h=>?_)
 ·obtain ⟨q,b,i,rfl,_⟩:=h
  rfl
 ·obtain ⟨q,b,i,rfl,hq,hi,hb,k⟩:=h
  refine ⟨_,pss_cons (ps_set (i:=2) scPowerSigns.nd rfl (Or.inl rfl) (pv 1))
   (pss_cons (ps_if (PW.pt (pw_and (pt_cmpR op_lt (pv 2) (pe_callB call_len_seq (by rfl) T.b_len PySem.boot_len (pa_cons (pv 0) pa_nil)) (nomark _)) (pw_and1 (pt_cmpR op_eq (pe_ix ix_list (pv 0) (pv 2) (fun _ _=>rfl)) (pgi T.iMINUS) (nomark _)))))
    (pss_one (ps_set (i:=2) scPowerSigns.nd rfl (Or.inl rfl) (pe_op op_add (pv 2) pe_int))) pss_nil)
   (pss_cons (ps_while ownE (PW.pt (pw_and (pt_cmpR op_lt (pv 2) (pe_callB call_len_seq (by rfl) T.b_len PySem.boot_len (pa_cons (pv 0) pa_nil)) (nomark _)) (pw_and (pt_cmpR op_ge (pe_ix ix_list (pv 0) (pv 2) (fun _ _=>rfl)) (pgi T.iZERO) (nomark _)) (pw_and1 (pt_cmpR op_le (pe_ix ix_list (pv 0) (pv 2) (fun _ _=>rfl)) (pgi T.iNINE) (nomark _))))))
    (pss_one (ps_set (i:=2) scPowerSigns.nd rfl (Or.inl rfl) (pe_op op_add (pv 2) pe_int))))
   (pss_one (ps_ret (pe_slice sl_list (pv 0) (po_some (pv 1)) (po_some (pv 2))))))),?_⟩
  refine ⟨_,rfl,_,rfl,_,rfl,q,_,rfl,.inl hq,_,_,rfl,rfl,_,rfl,?_⟩
  have tw:∀ (l:List Nat) (j:Nat) (c:Nat),l[j]?=some c->Sa54.digit c=true->l.takeWhile Sa54.digit=l.take j++(l.drop j).takeWhile Sa54.digit->l.takeWhile Sa54.digit=l.take (j+1)++(l.drop (j+1)).takeWhile Sa54.digit:=fun l j c h1 h2 h3=>by
   obtain ⟨hlt,hc⟩:=List.getElem?_eq_some_iff.mp h1
   rw [h3,List.drop_eq_getElem_cons hlt,hc,List.takeWhile_cons,if_pos h2,List.take_add_one,h1]
   simp
  have tn:∀ (l:List Nat) (j:Nat),(∀ c,l[j]?=some c->Sa54.digit c=false)->l.takeWhile Sa54.digit=l.take j++(l.drop j).takeWhile Sa54.digit->l.takeWhile Sa54.digit=l.take j:=fun l j h1 h3=>by
   rw [h3]
   cases e:l.drop j with
   | nil=>simp
   | cons c t=>
    have hc:l[j]?=some c:=by rw [<-List.head?_drop,e];rfl
    rw [List.takeWhile_cons,if_neg (by rw [h1 c hc];decide),List.append_nil]
  refine ite2 (fun h1=>?_) (fun h1=>?_)
  ·have h1:i<b.length:=by
    have z:=of_decide_eq_true h1
    rw [nv_len] at z
    omega
   obtain ⟨c,hc⟩:∃ c,b[i]?=some c:=⟨b[i],List.getElem?_eq_getElem h1⟩
   have hh:(b.drop i).head?=some c:=by rw [List.head?_drop];exact hc
   refine ⟨_,rfl,_,rfl,q,_,_,_,rfl,rfl,hq,atI_nat (nv_at hc),rfl,_,rfl,?_⟩
   refine ite2 (fun h2=>?_) (fun h2=>?_)
   ·have h2:c=45:=natV.mp (of_decide_eq_true h2)
    subst h2
    obtain ⟨k0,hk0⟩:∃ k0:Nat,k0=1:=⟨1,rfl⟩
    have e0:(b.drop i).take k0++((b.drop i).drop k0).takeWhile Sa54.digit=powSigns (b.drop i):=by
     unfold powSigns
     rw [hh,if_pos (by rfl),hk0]
     cases e:b.drop i with
     | nil=>rw [e] at hh;cases hh
     | cons d t=>
      rw [e] at hh
      cases hh
      rfl
    have h0:i+k0<=b.length:=by omega
    refine ⟨_,rfl,_,_,rfl,rfl,?_⟩
    refine ⟨fun m σ H1=>∃ j:Nat,σ=[some (V.ref q),some (V.int (i:Int)),some (V.int ((i+k0+j:Nat):Int))]/\H1=H/\i+k0+j<=b.length/\m=b.length-(i+k0+j) /\
     ((b.drop i).drop k0).takeWhile Sa54.digit=((b.drop i).drop k0).take j++(((b.drop i).drop k0).drop j).takeWhile Sa54.digit,⟨_,0,congrArg (fun z=>[some (V.ref q),some (V.int (i:Int)),some (V.int z)]) (by omega),rfl,by omega,rfl,by simp⟩,?_⟩
    rintro m σ H1 ⟨j,rfl,rfl,hj,rfl,inv⟩
    have ixj:∀ c,((b.drop i).drop k0)[j]?=some c↔b[i+k0+j]?=some c:=fun c=>by rw [List.getElem?_drop,List.getElem?_drop,Nat.add_assoc]
    have stop:(∀ c,((b.drop i).drop k0)[j]?=some c->Sa54.digit c=false)->∀ r,H1 r=none->Q (.ref r) (upd H1 r (.lst (cutV (nv b) (some (i:Int)) (some ((i+k0+j:Nat):Int))))):=fun hs r hr=>by
     have e1:cutV (nv b) (some (i:Int)) (some ((i+k0+j:Nat):Int))=nv (powSigns (b.drop i)):=by
      rw [cut_ij (by omega) (by rw [nv_len];exact hj),nv_drop,nv_take,<-e0,tn _ j hs inv]
      have e2:i+k0+j-i=k0+j:=by omega
      rw [e2,List.take_add]
     rw [e1]
     exact k r hr
    refine ⟨_,rfl,_,rfl,q,_,rfl,.inl hq,_,_,rfl,rfl,_,rfl,?_⟩
    refine ite2 (fun g1=>?_) (fun g1=>?_)
    ·have g1:i+k0+j<b.length:=by
      have z:=of_decide_eq_true g1
      rw [nv_len] at z
      omega
     obtain ⟨d,hd⟩:∃ d,b[i+k0+j]?=some d:=⟨b[i+k0+j],List.getElem?_eq_getElem g1⟩
     refine ⟨_,rfl,_,rfl,q,_,_,_,rfl,rfl,hq,atI_nat (nv_at hd),_,_,rfl,rfl,_,rfl,?_⟩
     refine ite2 (fun g2=>?_) (fun g2=>?_)
     ·have g2:48<=d:=by
       have z:=of_decide_eq_true g2
       omega
      refine ⟨_,rfl,_,rfl,q,_,_,_,rfl,rfl,hq,atI_nat (nv_at hd),_,_,rfl,rfl,_,rfl,?_⟩
      refine ite2 (fun g3=>?_) (fun g3=>?_)
      ·have g3:d<=57:=by
        have z:=of_decide_eq_true g3
        omega
       have hdig:Sa54.digit d=true:=by unfold Sa54.digit;simp;omega
       refine ⟨fun σ' H'=>∃ j':Nat,j'=j+1/\σ'=[some (V.ref q),some (V.int (i:Int)),some (V.int ((i+k0+j':Nat):Int))]/\H'=H1,?_,_,rfl,_,_,rfl,rfl,j+1,rfl,congrArg (fun z=>[some (V.ref q),some (V.int (i:Int)),some (V.int z)]) (by omega),rfl⟩
       rintro σ' H' ⟨j',rfl,rfl,rfl⟩
       exact ⟨_,by omega,j+1,rfl,rfl,by omega,rfl,tw _ j d ((ixj d).mpr hd) hdig inv⟩
      ·refine ⟨_,rfl,_,rfl,_,rfl,_,rfl,_,rfl,q,_,rfl,hq,stop fun c hc=>?_⟩
       have e:=(ixj c).mp hc
       rw [hd] at e
       cases e
       have g3:¬ d<=57:=fun z=>g3 (decide_eq_true (by omega))
       unfold Sa54.digit
       simp
       omega
     ·refine ⟨_,rfl,_,rfl,_,rfl,_,rfl,_,rfl,q,_,rfl,hq,stop fun c hc=>?_⟩
      have e:=(ixj c).mp hc
      rw [hd] at e
      cases e
      have g2:¬ 48<=d:=fun z=>g2 (decide_eq_true (by omega))
      unfold Sa54.digit
      simp
      omega
    ·refine ⟨_,rfl,_,rfl,_,rfl,_,rfl,_,rfl,q,_,rfl,hq,stop fun c hc=>?_⟩
     have e:=(ixj c).mp hc
     have z:=(List.getElem?_eq_some_iff.mp e).1
     exact absurd (decide_eq_true (by rw [nv_len];omega)) g1
   ·have h2:c≠45:=fun z=>h2 (decide_eq_true (natV.mpr z))
    obtain ⟨k0,hk0⟩:∃ k0:Nat,k0=0:=⟨0,rfl⟩
    have e0:(b.drop i).take k0++((b.drop i).drop k0).takeWhile Sa54.digit=powSigns (b.drop i):=by
     unfold powSigns
     rw [hh,if_neg (by simp [h2]),hk0]
     rfl
    have h0:i+k0<=b.length:=by omega
    refine ⟨fun m σ H1=>∃ j:Nat,σ=[some (V.ref q),some (V.int (i:Int)),some (V.int ((i+k0+j:Nat):Int))]/\H1=H/\i+k0+j<=b.length/\m=b.length-(i+k0+j) /\
     ((b.drop i).drop k0).takeWhile Sa54.digit=((b.drop i).drop k0).take j++(((b.drop i).drop k0).drop j).takeWhile Sa54.digit,⟨_,0,congrArg (fun z=>[some (V.ref q),some (V.int (i:Int)),some (V.int z)]) (by omega),rfl,by omega,rfl,by simp⟩,?_⟩
    rintro m σ H1 ⟨j,rfl,rfl,hj,rfl,inv⟩
    have ixj:∀ c,((b.drop i).drop k0)[j]?=some c↔b[i+k0+j]?=some c:=fun c=>by rw [List.getElem?_drop,List.getElem?_drop,Nat.add_assoc]
    have stop:(∀ c,((b.drop i).drop k0)[j]?=some c->Sa54.digit c=false)->∀ r,H1 r=none->Q (.ref r) (upd H1 r (.lst (cutV (nv b) (some (i:Int)) (some ((i+k0+j:Nat):Int))))):=fun hs r hr=>by
     have e1:cutV (nv b) (some (i:Int)) (some ((i+k0+j:Nat):Int))=nv (powSigns (b.drop i)):=by
      rw [cut_ij (by omega) (by rw [nv_len];exact hj),nv_drop,nv_take,<-e0,tn _ j hs inv]
      have e2:i+k0+j-i=k0+j:=by omega
      rw [e2,List.take_add]
     rw [e1]
     exact k r hr
    refine ⟨_,rfl,_,rfl,q,_,rfl,.inl hq,_,_,rfl,rfl,_,rfl,?_⟩
    refine ite2 (fun g1=>?_) (fun g1=>?_)
    ·have g1:i+k0+j<b.length:=by
      have z:=of_decide_eq_true g1
      rw [nv_len] at z
      omega
     obtain ⟨d,hd⟩:∃ d,b[i+k0+j]?=some d:=⟨b[i+k0+j],List.getElem?_eq_getElem g1⟩
     refine ⟨_,rfl,_,rfl,q,_,_,_,rfl,rfl,hq,atI_nat (nv_at hd),_,_,rfl,rfl,_,rfl,?_⟩
     refine ite2 (fun g2=>?_) (fun g2=>?_)
     ·have g2:48<=d:=by
       have z:=of_decide_eq_true g2
       omega
      refine ⟨_,rfl,_,rfl,q,_,_,_,rfl,rfl,hq,atI_nat (nv_at hd),_,_,rfl,rfl,_,rfl,?_⟩
      refine ite2 (fun g3=>?_) (fun g3=>?_)
      ·have g3:d<=57:=by
        have z:=of_decide_eq_true g3
        omega
       have hdig:Sa54.digit d=true:=by unfold Sa54.digit;simp;omega
       refine ⟨fun σ' H'=>∃ j':Nat,j'=j+1/\σ'=[some (V.ref q),some (V.int (i:Int)),some (V.int ((i+k0+j':Nat):Int))]/\H'=H1,?_,_,rfl,_,_,rfl,rfl,j+1,rfl,congrArg (fun z=>[some (V.ref q),some (V.int (i:Int)),some (V.int z)]) (by omega),rfl⟩
       rintro σ' H' ⟨j',rfl,rfl,rfl⟩
       exact ⟨_,by omega,j+1,rfl,rfl,by omega,rfl,tw _ j d ((ixj d).mpr hd) hdig inv⟩
      ·refine ⟨_,rfl,_,rfl,_,rfl,_,rfl,_,rfl,q,_,rfl,hq,stop fun c hc=>?_⟩
       have e:=(ixj c).mp hc
       rw [hd] at e
       cases e
       have g3:¬ d<=57:=fun z=>g3 (decide_eq_true (by omega))
       unfold Sa54.digit
       simp
       omega
     ·refine ⟨_,rfl,_,rfl,_,rfl,_,rfl,_,rfl,q,_,rfl,hq,stop fun c hc=>?_⟩
      have e:=(ixj c).mp hc
      rw [hd] at e
      cases e
      have g2:¬ 48<=d:=fun z=>g2 (decide_eq_true (by omega))
      unfold Sa54.digit
      simp
      omega
    ·refine ⟨_,rfl,_,rfl,_,rfl,_,rfl,_,rfl,q,_,rfl,hq,stop fun c hc=>?_⟩
     have e:=(ixj c).mp hc
     have z:=(List.getElem?_eq_some_iff.mp e).1
     exact absurd (decide_eq_true (by rw [nv_len];omega)) g1
  ·have h1:¬ i<b.length:=fun z=>h1 (decide_eq_true (by rw [nv_len];omega))
   obtain ⟨k0,hk0⟩:∃ k0:Nat,k0=0:=⟨0,rfl⟩
   have hh:b.drop i=[]:=List.drop_eq_nil_of_le (by omega)
   have e0:(b.drop i).take k0++((b.drop i).drop k0).takeWhile Sa54.digit=powSigns (b.drop i):=by
    rw [hh,hk0]
    rfl
   have h0:i+k0<=b.length:=by omega
   refine ⟨fun m σ H1=>∃ j:Nat,σ=[some (V.ref q),some (V.int (i:Int)),some (V.int ((i+k0+j:Nat):Int))]/\H1=H/\i+k0+j<=b.length/\m=b.length-(i+k0+j) /\
    ((b.drop i).drop k0).takeWhile Sa54.digit=((b.drop i).drop k0).take j++(((b.drop i).drop k0).drop j).takeWhile Sa54.digit,⟨_,0,congrArg (fun z=>[some (V.ref q),some (V.int (i:Int)),some (V.int z)]) (by omega),rfl,by omega,rfl,by simp⟩,?_⟩
   rintro m σ H1 ⟨j,rfl,rfl,hj,rfl,inv⟩
   have ixj:∀ c,((b.drop i).drop k0)[j]?=some c↔b[i+k0+j]?=some c:=fun c=>by rw [List.getElem?_drop,List.getElem?_drop,Nat.add_assoc]
   have stop:(∀ c,((b.drop i).drop k0)[j]?=some c->Sa54.digit c=false)->∀ r,H1 r=none->Q (.ref r) (upd H1 r (.lst (cutV (nv b) (some (i:Int)) (some ((i+k0+j:Nat):Int))))):=fun hs r hr=>by
    have e1:cutV (nv b) (some (i:Int)) (some ((i+k0+j:Nat):Int))=nv (powSigns (b.drop i)):=by
     rw [cut_ij (by omega) (by rw [nv_len];exact hj),nv_drop,nv_take,<-e0,tn _ j hs inv]
     have e2:i+k0+j-i=k0+j:=by omega
     rw [e2,List.take_add]
    rw [e1]
    exact k r hr
   refine ⟨_,rfl,_,rfl,q,_,rfl,.inl hq,_,_,rfl,rfl,_,rfl,?_⟩
   refine ite2 (fun g1=>?_) (fun g1=>?_)
   ·have g1:i+k0+j<b.length:=by
     have z:=of_decide_eq_true g1
     rw [nv_len] at z
     omega
    obtain ⟨d,hd⟩:∃ d,b[i+k0+j]?=some d:=⟨b[i+k0+j],List.getElem?_eq_getElem g1⟩
    refine ⟨_,rfl,_,rfl,q,_,_,_,rfl,rfl,hq,atI_nat (nv_at hd),_,_,rfl,rfl,_,rfl,?_⟩
    refine ite2 (fun g2=>?_) (fun g2=>?_)
    ·have g2:48<=d:=by
      have z:=of_decide_eq_true g2
      omega
     refine ⟨_,rfl,_,rfl,q,_,_,_,rfl,rfl,hq,atI_nat (nv_at hd),_,_,rfl,rfl,_,rfl,?_⟩
     refine ite2 (fun g3=>?_) (fun g3=>?_)
     ·have g3:d<=57:=by
       have z:=of_decide_eq_true g3
       omega
      have hdig:Sa54.digit d=true:=by unfold Sa54.digit;simp;omega
      refine ⟨fun σ' H'=>∃ j':Nat,j'=j+1/\σ'=[some (V.ref q),some (V.int (i:Int)),some (V.int ((i+k0+j':Nat):Int))]/\H'=H1,?_,_,rfl,_,_,rfl,rfl,j+1,rfl,congrArg (fun z=>[some (V.ref q),some (V.int (i:Int)),some (V.int z)]) (by omega),rfl⟩
      rintro σ' H' ⟨j',rfl,rfl,rfl⟩
      exact ⟨_,by omega,j+1,rfl,rfl,by omega,rfl,tw _ j d ((ixj d).mpr hd) hdig inv⟩
     ·refine ⟨_,rfl,_,rfl,_,rfl,_,rfl,_,rfl,q,_,rfl,hq,stop fun c hc=>?_⟩
      have e:=(ixj c).mp hc
      rw [hd] at e
      cases e
      have g3:¬ d<=57:=fun z=>g3 (decide_eq_true (by omega))
      unfold Sa54.digit
      simp
      omega
    ·refine ⟨_,rfl,_,rfl,_,rfl,_,rfl,_,rfl,q,_,rfl,hq,stop fun c hc=>?_⟩
     have e:=(ixj c).mp hc
     rw [hd] at e
     cases e
     have g2:¬ 48<=d:=fun z=>g2 (decide_eq_true (by omega))
     unfold Sa54.digit
     simp
     omega
   ·refine ⟨_,rfl,_,rfl,_,rfl,_,rfl,_,rfl,q,_,rfl,hq,stop fun c hc=>?_⟩
    have e:=(ixj c).mp hc
    have z:=(List.getElem?_eq_some_iff.mp e).1
    exact absurd (decide_eq_true (by rw [nv_len];omega)) g1
end
end Gw
set_option Elab.async false
set_option linter.all false
set_option maxRecDepth 100000
set_option maxHeartbeats 4000000
namespace Gw
open PySem PySem.Spec PyProof.Rows L2
section
variable {P:Program} {w:World} {K:PySem.W.Frag} {mg:Str->Option Value} {base:Heap} {a:AD}
def numOf (d:List Nat):Nat:=d.foldl (fun n c=>10*n+(c-48)) 0
theorem numOf_snoc (d:List Nat) (c:Nat):numOf (d++[c])=10*numOf d+(c-48):=by unfold numOf;rw [List.foldl_append];rfl
theorem fold_le:∀ (d:List Nat) (n k:Nat),(∀ c∈d,Sa54.digit c=true)->n<10 ^ k->d.foldl (fun n c=>10*n+(c-48)) n<10 ^ (k+d.length)
 | [],n,k,_,h=>h
 | c :: t,n,k,hd,h=>by
  have h2:Sa54.digit c=true:=hd c (by simp)
  unfold Sa54.digit at h2
  simp at h2
  have:=fold_le t (10*n+(c-48)) (k+1) (fun x hx=>hd x (List.mem_cons_of_mem _ hx)) (by rw [Nat.pow_succ];omega)
  rw [List.foldl_cons,List.length_cons]
  have e:k+1+t.length=k+(t.length+1):=by omega
  rw [e] at this
  exact this
theorem num_le (d:List Nat) (h:∀ c∈d,Sa54.digit c=true):numOf d<10 ^ d.length:=by
 have:=fold_le d 0 0 h (by decide)
 rw [Nat.zero_add] at this
 exact this
theorem digs_of (r:List Nat):∀ c∈r.takeWhile Sa54.digit,Sa54.digit c=true:=fun c hc=>by
 induction r with
 | nil=>simp at hc
 | cons x t ih=>
  rw [List.takeWhile_cons] at hc
  split at hc
  ·rename_i hx
   rcases List.mem_cons.mp hc with z | z
   ·rw [z];exact hx
   ·exact ih z
  ·simp at hc
theorem power_eq (r0:List Nat):Sa54.power r0=(let no:=r0.head?==some 45;let r:=if no=true then r0.drop 1 else r0;let d:=r.takeWhile Sa54.digit
 if d=[] then (if no=true then .error .wrong else .ok ((1,false),r0)) else if 3<d.length then .error .wrong else .ok ((numOf d,no),r.drop d.length)):=rfl
theorem power_small {r0:List Nat} {n:Nat × Bool} {q:List Nat} (h:Sa54.power r0=.ok (n,q)):n.1<=100000:=by
 rw [power_eq] at h
 have key:∀ (no:Bool) (r:List Nat),(if r.takeWhile Sa54.digit=[] then (if no=true then (.error .wrong:Sa54.Got ((Nat × Bool) × List Nat)) else .ok ((1,false),r0)) else if 3<(r.takeWhile Sa54.digit).length then .error .wrong else .ok ((numOf (r.takeWhile Sa54.digit),no),r.drop (r.takeWhile Sa54.digit).length))=.ok (n,q)->n.1<=100000:=by
  intro no r h
  by_cases h1:r.takeWhile Sa54.digit=[]
  ·rw [if_pos h1] at h
   cases no with
   | true=>cases h
   | false=>cases h;decide
  ·rw [if_neg h1] at h
   by_cases h2:3<(r.takeWhile Sa54.digit).length
   ·rw [if_pos h2] at h;cases h
   ·rw [if_neg h2] at h
    cases h
    have z:=num_le _ (digs_of r)
    have z2:10 ^ (r.takeWhile Sa54.digit).length<=10 ^ 3:=Nat.pow_le_pow_right (by decide) (by omega)
    show numOf _<=_
    omega
 exact key _ _ h
def spPowerNumber (K:PySem.W.Frag) (a:AD):Sp:=fun vs H Q E=>∃ (q:Addr) (r0:List Nat),vs=[.ref q]/\SqL K H q (nv (powSigns r0))/\r0.length<=10000 /\
 Res a.cWrong a.cTooLong E (Sa54.power r0) fun n=>∀ H':Hp,Keep [] H H'->Q (.int (powZ n.1.1 n.1.2)) H'
theorem scPowerNumber:FnScope ["signs","negative","digits","number","digit"] ["signs"] (defScope sPowerNumber):=⟨rfl,rfl,rfl,by decide +kernel,rfl,by decide +kernel,by decide +kernel⟩
theorem okPowerNumber (T:Tx K mg a):FnOk P w K mg base (CXE P w) 1 a.fPowerNumber a.dPowerNumber ["signs"] (spPowerNumber K a):=by
 refine okE T.gPowerNumber.fn scPowerNumber (fun vs H Q E h=>?_) (fun cdv A outer s H vs Q E hr h=>?_)
 ·obtain ⟨q,r0,rfl,_⟩:=h
  rfl
 ·obtain ⟨q,r0,rfl,hq,hle,R⟩:=h
  refine ⟨_,pss_cons (ps_if (pt_not (pt_truth (pv 0) (fun _=>rfl))) (pss_one (ps_ret pe_int)) pss_nil)
   (pss_cons (ps_set (i:=1) scPowerNumber.nd rfl (Or.inl rfl) (pe_cmpR op_eq (pe_ix ix_list (pv 0) pe_int (fun _ _=>rfl)) (pgi T.iMINUS) (nomark _)))
   (pss_cons (ps_set (i:=2) scPowerNumber.nd rfl (Or.inl rfl) (pe_ifExp (pt_val (pv 1)) (pe_slice sl_list (pv 0) (po_some pe_int) po_none) (pv 0)))
   (pss_cons (ps_if (PW.pt (pw_or (pt_cmpR op_lt (pe_callB call_len_seq (by rfl) T.b_len PySem.boot_len (pa_cons (pv 2) pa_nil)) pe_int (nomark _)) (pw_or1 (pt_cmpR op_gt (pe_callB call_len_seq (by rfl) T.b_len PySem.boot_len (pa_cons (pv 2) pa_nil)) (pgi T.iMOST_DIGITS) (nomark _))))) (pss_one (ps_raise takesE T.xWrong rfl rfl)) pss_nil)
   (pss_cons (ps_set (i:=3) scPowerNumber.nd rfl (Or.inl rfl) pe_int)
   (pss_cons (ps_for ownE rfl (pi_list (pv 2)) (pg_name (i:=4) scPowerNumber.nd rfl (Or.inl rfl)) (pss_one (ps_set (i:=3) scPowerNumber.nd rfl (Or.inl rfl) (pe_op op_sub (pe_op op_add (pe_op op_mul (pv 3) pe_int) (pv 4)) (pgi T.iZERO)))))
   (pss_one (ps_ret (pe_ifExp (pt_val (pv 1)) (pe_un un_neg (pv 3)) (pv 3))))))))),?_⟩
  refine ⟨_,rfl,_,.inl ⟨_,hq,rfl⟩,?_⟩
  rw [power_eq] at R
  cases hc:powSigns r0 with
  | nil=>
   refine iteT ?_
   unfold powSigns at hc
   by_cases hn:(r0.head?==some 45)=true
   ·rw [if_pos hn] at hc;cases hc
   ·rw [if_neg hn] at hc
    have R':=R.ok (a:=((1,false),r0)) (by simp only [if_neg hn,hc,if_true])
    exact R' H Keep.refl
  | cons c0 ct=>
   refine iteF ?_
   rw [hc] at hq
   refine ⟨_,rfl,q,_,_,_,rfl,rfl,hq,atI_nat (j:=0) rfl,rfl,?_⟩
   refine ⟨_,rfl,_,rfl,?_⟩
   refine ite2 (fun hm=>?_) (fun hm=>?_)
   ·have hm:c0=45:=natV.mp (of_decide_eq_true hm)
    obtain ⟨d,hd,hn⟩:∃ d,(r0.drop 1).takeWhile Sa54.digit=d/\(r0.head?==some 45)=true:=⟨_,rfl,by
     unfold powSigns at hc
     by_cases hn:(r0.head?==some 45)=true
     ·exact hn
     ·rw [if_neg hn] at hc
      have z:=digs_of r0 c0 (by rw [hc];simp)
      rw [hm] at z
      cases z⟩
    have hct:ct=d:=by
     unfold powSigns at hc
     rw [if_pos hn] at hc
     rw [<-hd]
     exact (List.cons.inj hc).2.symm
    have ddig:∀ c∈d,Sa54.digit c=true:=by rw [<-hd];exact digs_of _
    simp only [hn,if_true,hd] at R
    refine ⟨_,rfl,_,rfl,q,_,rfl,hq,fun r hr0=>?_⟩
    have e1:cutV (nv (c0 :: ct)) (some 1) none=nv d:=by
     have z:=cut_i (xs:=nv (c0 :: ct)) (i:=1) (by simp)
     rw [show (some 1:Option Int)=some ((1:Nat):Int) from rfl,z,hct]
     rfl
    rw [e1]
    have s1:Same H (upd H r (.lst (nv d))):=(Keep.new hr0).same
    obtain ⟨Hd,eHd⟩:∃ Hd,Hd=upd H r (.lst (nv d)):=⟨_,rfl⟩
    have hrd:SqL K Hd r (nv d):=by rw [eHd];exact SqL.of upd_same
    rw [<-eHd] at s1 ⊢
    obtain ⟨no,eno,eval⟩:∃ no:Bool,no=true/\decide (V.int ((c0:Nat):Int)=V.int 45)=no:=⟨true,rfl,decide_eq_true (by rw [hm];rfl)⟩
    rw [eval]
    refine ⟨_,rfl,r,_,rfl,.inl hrd,_,_,rfl,rfl,_,rfl,?_⟩
    refine ite2 (fun h1=>?_) (fun h1=>?_)
    ·have h1:d=[]:=List.length_eq_zero_iff.mp (by
      have z:=of_decide_eq_true h1
      rw [nv_len] at z
      omega)
     exact R.wrong (by rw [if_pos h1]) _
    ·have h1:d≠[]:=fun z=>h1 (decide_eq_true (by rw [nv_len,z];decide))
     refine ⟨_,rfl,r,_,rfl,.inl hrd,_,_,rfl,rfl,_,rfl,?_⟩
     refine ite2 (fun h2=>?_) (fun h2=>?_)
     ·have h2:3<d.length:=by
       have z:=of_decide_eq_true h2
       rw [nv_len] at z
       omega
      exact R.wrong (by rw [if_neg h1,if_pos h2]) _
     ·have h2:¬ 3<d.length:=fun z=>h2 (decide_eq_true (by rw [nv_len];omega))
      rw [if_neg h1,if_neg h2] at R
      refine ⟨_,rfl,r,rfl,⟨_,hrd⟩,for_list (K:=K) (a:=r) (xs:=nv d) (fun i σ H2=>∃ v4:Option V,σ=[some (.ref q),some (.bl no),some (.ref r),some (.int ((numOf (d.take i):Nat):Int)),v4]/\H2=Hd)
       ⟨none,rfl,rfl⟩ (fun i σ H2 _ ⟨_,_,e⟩=>by rw [e];exact hrd) ?_ ?_⟩
      ·rintro i y σ H2 hi ⟨v4,rfl,rfl⟩
       obtain ⟨c,hc2,rfl⟩:∃ c:Nat,d[i]?=some c/\y=V.int (c:Int):=by
        rw [List.getElem?_map] at hi
        cases e:d[i]? with
        | none=>rw [e] at hi;cases hi
        | some c=>rw [e] at hi;exact ⟨c,rfl,(Option.some.inj hi).symm⟩
       have hdc:=ddig c (List.mem_of_getElem? hc2)
       unfold Sa54.digit at hdc
       simp at hdc
       refine ⟨_,rfl,_,_,rfl,rfl,.inr ⟨by decide,by decide⟩,_,rfl,_,_,rfl,rfl,_,_,rfl,rfl,?_⟩
       refine ⟨some (V.int (c:Int)),congrArg (fun z=>[some (V.ref q),some (V.bl no),some (V.ref r),some (V.int z),some (V.int (c:Int))]) ?_,rfl⟩
       rw [List.take_add_one,hc2]
       show _=((numOf (d.take i++[c]):Nat):Int)
       rw [numOf_snoc]
       omega
      ·rintro σ H2 ⟨v4,rfl,rfl⟩
       have et:numOf (d.take (nv d).length)=numOf d:=by rw [nv_len,List.take_length]
       refine ⟨_,rfl,_,rfl,?_⟩
       subst eno
       refine ⟨_,rfl,_,rfl,?_⟩
       rw [et]
       exact R H2 fun b o e _=>s1 _ _ e
   ·have hm:c0≠45:=fun z=>hm (decide_eq_true (natV.mpr z))
    have hn:¬ (r0.head?==some 45)=true:=fun hn=>by
     unfold powSigns at hc
     rw [if_pos hn] at hc
     exact hm (List.cons.inj hc).1.symm
    have hnf:(r0.head?==some 45)=false:=by
     cases e:(r0.head?==some 45) with
     | true=>exact absurd e hn
     | false=>rfl
    obtain ⟨d,hd⟩:∃ d,r0.takeWhile Sa54.digit=d:=⟨_,rfl⟩
    have hct:c0 :: ct=d:=by
     unfold powSigns at hc
     rw [if_neg hn,hd] at hc
     exact hc.symm
    have hne:d≠[]:=by rw [<-hct];simp
    have ddig:∀ c∈d,Sa54.digit c=true:=by rw [<-hd];exact digs_of _
    simp only [hnf,if_false,hd,Bool.false_eq_true] at R
    refine ⟨_,rfl,?_⟩
    obtain ⟨r,er⟩:∃ r,r=q:=⟨q,rfl⟩
    obtain ⟨Hd,eHd⟩:∃ Hd,Hd=H:=⟨_,rfl⟩
    have hrd:SqL K Hd r (nv d):=by rw [eHd,er,<-hct];exact hq
    obtain ⟨no,eno,eval⟩:∃ no:Bool,no=false/\decide (V.int ((c0:Nat):Int)=V.int 45)=no:=⟨false,rfl,decide_eq_false fun z=>hm (natV.mp z)⟩
    rw [eval]
    have eqr:(V.ref q)=V.ref r:=by rw [er]
    subst eHd
    subst er
    refine ⟨_,rfl,r,_,rfl,.inl hrd,_,_,rfl,rfl,_,rfl,?_⟩
    refine ite2 (fun h1=>?_) (fun h1=>?_)
    ·have h1:d=[]:=List.length_eq_zero_iff.mp (by
      have z:=of_decide_eq_true h1
      rw [nv_len] at z
      omega)
     exact absurd h1 hne
    ·have h1:d≠[]:=fun z=>h1 (decide_eq_true (by rw [nv_len,z];decide))
     refine ⟨_,rfl,r,_,rfl,.inl hrd,_,_,rfl,rfl,_,rfl,?_⟩
     refine ite2 (fun h2=>?_) (fun h2=>?_)
     ·have h2:3<d.length:=by
       have z:=of_decide_eq_true h2
       rw [nv_len] at z
       omega
      exact R.wrong (by rw [if_neg h1,if_pos h2]) _
     ·have h2:¬ 3<d.length:=fun z=>h2 (decide_eq_true (by rw [nv_len];omega))
      rw [if_neg h1,if_neg h2] at R
      refine ⟨_,rfl,r,rfl,⟨_,hrd⟩,for_list (K:=K) (a:=r) (xs:=nv d) (fun i σ H2=>∃ v4:Option V,σ=[some (.ref r),some (.bl no),some (.ref r),some (.int ((numOf (d.take i):Nat):Int)),v4]/\H2=Hd)
       ⟨none,rfl,rfl⟩ (fun i σ H2 _ ⟨_,_,e⟩=>by rw [e];exact hrd) ?_ ?_⟩
      ·rintro i y σ H2 hi ⟨v4,rfl,rfl⟩
       obtain ⟨c,hc2,rfl⟩:∃ c:Nat,d[i]?=some c/\y=V.int (c:Int):=by
        rw [List.getElem?_map] at hi
        cases e:d[i]? with
        | none=>rw [e] at hi;cases hi
        | some c=>rw [e] at hi;exact ⟨c,rfl,(Option.some.inj hi).symm⟩
       have hdc:=ddig c (List.mem_of_getElem? hc2)
       unfold Sa54.digit at hdc
       simp at hdc
       refine ⟨_,rfl,_,_,rfl,rfl,.inr ⟨by decide,by decide⟩,_,rfl,_,_,rfl,rfl,_,_,rfl,rfl,?_⟩
       refine ⟨some (V.int (c:Int)),congrArg (fun z=>[some (V.ref r),some (V.bl no),some (V.ref r),some (V.int z),some (V.int (c:Int))]) ?_,rfl⟩
       rw [List.take_add_one,hc2]
       show _=((numOf (d.take i++[c]):Nat):Int)
       rw [numOf_snoc]
       omega
      ·rintro σ H2 ⟨v4,rfl,rfl⟩
       have et:numOf (d.take (nv d).length)=numOf d:=by rw [nv_len,List.take_length]
       refine ⟨_,rfl,_,rfl,?_⟩
       subst eno
       refine ⟨_,rfl,?_⟩
       rw [et]
       exact R H2 Keep.refl
end
end Gw
set_option Elab.async false
set_option linter.all false
set_option maxRecDepth 100000
set_option maxHeartbeats 4000000
namespace Gw
open PySem PySem.Spec PyProof.Rows L2
section
variable {P:Program} {w:World} {K:PySem.W.Frag} {mg:Str->Option Value} {base:Heap} {a:AD}
theorem Res.cast {α:Type} {W T:Addr} {E:XK} {r r':Sa54.Got α} {k:α->Prop} (h:Res W T E r k) (e:r=r'):Res W T E r' k:=e ▸ h
structure NumAt (H:Hp) (d:Addr) (ls:List Nat):Prop where
 ex:∃ kvs:List (Key × V),H d=some (.dK kvs)/\∀ c:Nat,valV kvs (Sum.inl (c:Int))=(letterOf ls c).map fun l=>V.int (encL l)
def Bot (st:List Lv):Prop:=∃ v,st.getLast?=some v/\v.br<=1
theorem Bot.tail {v:Lv} {st:List Lv} (h:Bot (v :: st)) (hv:1<v.br):st≠[]/\Bot st:=by
 obtain ⟨u,hu,h0⟩:=h
 cases st with
 | nil=>
  simp at hu
  subst hu
  omega
 | cons x t=>exact ⟨by simp,u,by rw [List.getLast?_cons_cons] at hu;exact hu,h0⟩
theorem StkAt.same {C:Addr} {H H':Hp} {l:Addr} {xs:List LA} {st:List Lv} (S:StkAt C H l xs st) (s:Same H H'):StkAt C H' l xs st:=
 ⟨s _ _ S.lst,S.lv.keep (ys:=[]) (fun b o e _=>s b o e) (fun _ _ _ _=>by simp) (fun _ _ _ _=>by simp),S.nd,S.sep⟩
theorem endBr_ok {br:Nat} {v:Lv} {st:List Lv} {p:List Sa54.Word × List Lv} (h:endBr br (v :: st)=.ok p):v.br=br/\p.1=v.ended++[v.wr]/\p.2=st:=by
 have h:(if v.br=br then (endWord v).bind (fun m=>.ok (m.ended,st)) else .error .wrong)=.ok p:=h
 by_cases hb:v.br=br
 ·rw [if_pos hb] at h
  unfold endWord at h
  by_cases hp:v.hp=true
  ·rw [if_pos hp] at h
   cases h
   exact ⟨hb,rfl,rfl⟩
  ·rw [if_neg hp] at h
   cases h
 ·rw [if_neg hb] at h
  cases h
theorem at0 {as:List Addr} {b:Addr} {r:List Addr} (h:as=b :: r):atI (as.map V.ref) 0=some (V.ref b):=atI_nat (j:=0) (by rw [h];rfl)
theorem at1 {as:List Addr} {b c:Addr} {r:List Addr} (h:as=b :: c :: r):atI (as.map V.ref) 1=some (V.ref c):=atI_nat (j:=1) (by rw [h];rfl)
def spEndPart (a:AD):Sp:=fun vs H Q E=>∃ (l d:Addr) (x:LA) (xs:List LA) (v:Lv) (st:List Lv) (c:Nat) (ls:List Nat),vs=[.ref l,.int c,.ref d]/\StkAt a.cLevel H l (x :: xs) (v :: st)/\NumAt H d ls/\x.as.length<=10000/\Bot (v :: st) /\
 Res a.cWrong a.cTooLong E (endPart ls (v :: st) c) fun p=>∀ (H':Hp) (q:Addr) (xs':List LA),H' q=some (.lst (wv p.1))->p.1.length<=Sa54.MOST->StkAt a.cLevel H' l xs' p.2->(xs'=x :: xs\/xs'=xs)->p.2≠[]->Bot p.2->Keep (mutsAll l (x :: xs)) H H'->Q (.ref q) H'
theorem scEndPart:FnScope ["levels","sign","numbers","words"] ["levels","sign","numbers"] (defScope sEndPart):=⟨rfl,rfl,rfl,by decide +kernel,rfl,by decide +kernel,by decide +kernel⟩
theorem okEndPart (T:Tx K mg a):FnOk P w K mg base (CXE P w) 3 a.fEndPart a.dEndPart ["levels","sign","numbers"] (spEndPart a):=by
 have GB:FnOk P w K mg base (CXE P w) 2 a.fEndBracket a.dEndBracket ["levels","bracket"] (spEndBracket a):=okEndBracket T
 have GC:FnOk P w K mg base (CXE P w) 2 a.fCommutator a.dCommutator ["left","right"] (spCommutator a):=okCommutator T
 refine okE T.gEndPart.fn scEndPart (fun vs H Q E h=>?_) (fun cdv A outer s H vs Q E hr h=>?_)
 ·obtain ⟨l,d,x,xs,v,st,c,ls,rfl,_⟩:=h
  rfl
 ·obtain ⟨l,d,x,xs,v,st,c,ls,rfl,S,⟨kvs,hd,hk⟩,hle,hB,R⟩:=h
  have hu:=hu_of hr
  refine ⟨_,pss_cons (ps_if (pt_cmp (pc_din hu (pv 1) (pv 2))) (pss_one (ps_ret (pe_lst (pa_cons (pe_dget hu (pv 2) (pv 1) (fun _ _=>rfl)) pa_nil)))) pss_nil)
   (pss_cons (ps_if (pt_cmpR op_eq (pv 1) (pgi T.iROUND_END) (nomark _)) (pss_one (ps_ret (pe_ix ix_list (pe_call GB hr rfl T.gEndBracket.mg T.gEndBracket.fn.kp T.gEndBracket.bd .nil passE (pa_cons (pv 0) (pa_cons (pgi T.iROUND) pa_nil))) pe_int (fun _ _=>rfl)))) pss_nil)
   (pss_cons (ps_if (pt_cmpR op_eq (pv 1) (pgi T.iSQUARE_END) (nomark _)) (pss_cons (ps_set (i:=3) scEndPart.nd rfl (Or.inl rfl) (pe_call GB hr rfl T.gEndBracket.mg T.gEndBracket.fn.kp T.gEndBracket.bd .nil passE (pa_cons (pv 0) (pa_cons (pgi T.iSQUARE) pa_nil))))
    (pss_cons (ps_if (pt_cmpR op_lt (pe_callB call_len_seq (by rfl) T.b_len PySem.boot_len (pa_cons (pv 3) pa_nil)) pe_int (nomark _)) (pss_one (ps_raise takesE T.xWrong rfl rfl)) pss_nil)
    (pss_one (ps_ret (pe_call GC hr rfl T.gCommutator.mg T.gCommutator.fn.kp T.gCommutator.bd .nil passE (pa_cons (pe_ix ix_list (pv 3) pe_int (fun _ _=>rfl)) (pa_cons (pe_ix ix_list (pv 3) pe_int (fun _ _=>rfl)) pa_nil))))))) pss_nil)
   (pss_one (ps_raise takesE T.xWrong rfl rfl)))),?_⟩
  refine ⟨_,rfl,_,rfl,d,_,rfl,DGet.k (k:=Sum.inl (c:Int)) hd,_,rfl,?_⟩
  have hkc:=hk c
  cases e:letterOf ls c with
  | some lt=>
   rw [e] at hkc
   have hkc:valV kvs (Sum.inl (c:Int))=some (V.int (encL lt)):=hkc
   rw [hkc]
   refine iteT ?_
   have R':=R.ok (a:=([lt],v :: st)) (by unfold endPart;rw [e])
   have hg:DGet H d (V.int (c:Int)) (some (V.int (encL lt))):=by
    have z:=DGet.k (k:=Sum.inl (c:Int)) hd
    rw [hkc] at z
    exact z
   refine ⟨_,rfl,_,rfl,d,_,rfl,hg,(by show 1<=sizeLine;decide),fun p hp=>?_⟩
   exact R' _ p (x :: xs) upd_same (by simp [Sa54.MOST]) (S.same (Keep.new hp).same) (.inl rfl) (by simp) hB fun b o q _=>(Keep.new hp).same b o q
  | none=>
   rw [e] at hkc
   have hkc:valV kvs (Sum.inl (c:Int))=none:=hkc
   rw [hkc]
   refine iteF ?_
   refine ⟨_,rfl,rfl,_,rfl,?_⟩
   refine ite2 (fun h41=>?_) (fun h41=>?_)
   ·have h41:c=41:=natV.mp (of_decide_eq_true h41)
    have ee:endPart ls (v :: st) c=(endBr 40 (v :: st)).bind fun p=>.ok (p.1.headD [],p.2):=by unfold endPart;rw [e];simp only [if_pos h41]
    rw [ee] at R
    refine ⟨_,rfl,l,x,xs,v,st,40,rfl,S,hle,R.bind.imp fun p ep k1 H1 e1 as he hw hs hkp=>?_⟩
    obtain ⟨hv,hp1,hp2⟩:=endBr_ok ep
    obtain ⟨ne,hB'⟩:=hB.tail (by rw [hv];decide)
    cases has:as with
    | nil=>
     have z:=hw.len
     rw [has,hp1] at z
     simp at z
    | cons b r=>
     cases hws:p.1 with
     | nil=>rw [hp1] at hws;simp at hws
     | cons u us=>
      have hb:H1 b=some (.lst (wv u)):=hw.at_ 0 b u (by rw [has];rfl) (by rw [hws];rfl)
      refine ⟨e1,_,_,_,rfl,rfl,SqL.of he,at0 has,?_⟩
      have k2:∀ (H':Hp) (q:Addr) (xs':List LA),H' q=some (.lst (wv (p.1.headD [])))->(p.1.headD []).length<=Sa54.MOST->StkAt a.cLevel H' l xs' p.2->(xs'=x :: xs\/xs'=xs)->p.2≠[]->Bot p.2->Keep (mutsAll l (x :: xs)) H H'->Q (.ref q) H':=k1
      refine k2 H1 b xs (by rw [hws];exact hb) (by rw [hws];exact hw.ln u (by rw [hws];simp)) hs (.inr rfl) (by rw [hp2];exact ne) (by rw [hp2];exact hB') hkp
   ·have h41:c≠41:=fun z=>h41 (decide_eq_true (natV.mpr z))
    refine ⟨_,rfl,rfl,_,rfl,?_⟩
    refine ite2 (fun h93=>?_) (fun h93=>?_)
    ·have h93:c=93:=natV.mp (of_decide_eq_true h93)
     have ee:endPart ls (v :: st) c=(endBr 91 (v :: st)).bind fun p=>match p.1 with
       | x :: y :: _=>(comm x y).bind fun v=>.ok (v,p.2)
       | _=>.error .wrong:=by unfold endPart;rw [e];simp only [if_neg h41,if_pos h93]<;>rfl
     rw [ee] at R
     refine ⟨_,rfl,l,x,xs,v,st,91,rfl,S,hle,R.bind.imp fun p ep k1 H1 e1 as he hw hs hkp=>?_⟩
     obtain ⟨hv,hp1,hp2⟩:=endBr_ok ep
     obtain ⟨ne,hB'⟩:=hB.tail (by rw [hv];decide)
     refine ⟨_,rfl,e1,_,rfl,.inl (SqL.of he),_,_,rfl,rfl,_,rfl,?_⟩
     have elen:((as.map V.ref).length:Int)=p.1.length:=by rw [List.length_map,hw.len]
     refine ite2 (fun h2=>?_) (fun h2=>?_)
     ·have h2:p.1.length<2:=by
       have z:=of_decide_eq_true h2
       rw [elen] at z
       omega
      have em:(match p.1 with
       | x :: y :: _=>(comm x y).bind fun v=>(.ok (v,p.2):Sa54.Got (Sa54.Word × List Lv))
       | _=>.error .wrong)=.error .wrong:=by
       cases hq:p.1 with
       | nil=>rfl
       | cons u t=>
        cases t with
        | nil=>rfl
        | cons u2 t2=>rw [hq] at h2;simp at h2;omega
      exact Res.wrong k1 em _
     ·have h2:¬ p.1.length<2:=fun z=>h2 (decide_eq_true (by rw [elen];omega))
      cases hws:p.1 with
      | nil=>rw [hws] at h2;simp at h2
      | cons u t=>
       cases ht:t with
       | nil=>rw [hws,ht] at h2;simp at h2
       | cons u2 t2=>
        cases has:as with
        | nil=>
         have z:=hw.len
         rw [has,hws] at z
         simp at z
        | cons b r=>
         cases hr2:r with
         | nil=>
          have z:=hw.len
          rw [has,hws,hr2,ht] at z
          simp at z
         | cons b2 r2=>
          have hb:H1 b=some (.lst (wv u)):=hw.at_ 0 b u (by rw [has];rfl) (by rw [hws];rfl)
          have hb2:H1 b2=some (.lst (wv u2)):=hw.at_ 1 b2 u2 (by rw [has,hr2];rfl) (by rw [hws,ht];rfl)
          have em:(match p.1 with
           | x :: y :: _=>(comm x y).bind fun v=>(.ok (v,p.2):Sa54.Got (Sa54.Word × List Lv))
           | _=>.error .wrong)=(comm u u2).bind fun v=>.ok (v,p.2):=by rw [hws,ht]
          have k2:=Res.cast k1 em
          refine ⟨_,rfl,e1,_,_,_,rfl,rfl,SqL.of he,at0 (by rw [has]),_,rfl,e1,_,_,_,rfl,rfl,SqL.of he,at1 (by rw [has,hr2]),?_⟩
          refine ⟨b,b2,u,u2,rfl,hb,hb2,hw.ln u (by rw [hws];simp),hw.ln u2 (by rw [hws,ht];simp),k2.bind.imp fun z ez k3 H2 q hq hk2=>?_⟩
          have zl:z.length<=Sa54.MOST:=by
           unfold comm at ez
           split at ez
           ·cases ez
           ·cases ez
            simp only [List.length_append,inv_len]
            omega
          exact k3 H2 q xs hq zl (hs.same hk2.same) (.inr rfl) (by rw [hp2];exact ne) (by rw [hp2];exact hB') fun b o eb nb=>hk2.same _ _ (hkp b o eb nb)
    ·have h93:c≠93:=fun z=>h93 (decide_eq_true (natV.mpr z))
     exact R.wrong (by unfold endPart;rw [e];simp only [if_neg h41,if_neg h93]) _
end
end Gw
set_option Elab.async false
set_option linter.all false
set_option maxRecDepth 100000
set_option maxHeartbeats 4000000
namespace Gw
open PySem PySem.Spec PyProof.Rows L2
theorem idx_snoc (l:List Nat) (x y:Nat):(l++[x]).idxOf? y=(l.idxOf? y).or (if x=y then some l.length else none):=by
 unfold List.idxOf?
 rw [List.findIdx?_append]
 congr 1
 by_cases h:x=y
 ·simp [h,List.findIdx?_cons]
 ·simp [h,List.findIdx?_cons]
theorem idx_none {l:List Nat} {x:Nat} (h:x∉l):l.idxOf? x=none:=List.idxOf?_eq_none_iff.mpr h
theorem letter_step {l:List Nat} {x:Nat} (hx:x∉l) (hs:Sa54.small x=true) (hl:l.all Sa54.small=true) (c:Nat) :
  (letterOf (l++[x]) c).map encL=if c=x-32 then some (-((l.length:Int)+1)) else if c=x then some ((l.length:Int)+1) else (letterOf l c).map encL:=by
 unfold Sa54.small at hs
 simp at hs
 unfold letterOf
 by_cases h1:c=x-32
 ·have hg:Sa54.great c=true:=by unfold Sa54.great;simp;omega
  have e:c+32=x:=by omega
  rw [if_pos h1,hg,if_pos rfl,e,idx_snoc,idx_none hx,if_pos rfl]
  rfl
 ·rw [if_neg h1]
  by_cases h2:c=x
  ·have hg:¬ Sa54.great c=true:=by unfold Sa54.great;simp;omega
   have hgf:Sa54.great c=false:=by simpa using hg
   rw [if_pos h2,hgf]
   simp only [Bool.false_eq_true,if_false]
   rw [h2,idx_snoc,idx_none hx,if_pos rfl]
   rfl
  ·rw [if_neg h2,idx_snoc]
   have:x≠(if Sa54.great c=true then c+32 else c):=by
    split
    ·omega
    ·exact fun z=>h2 z.symm
   rw [if_neg this]
   simp
theorem dedup_len:∀ (l acc:List Int),acc.Nodup->((l.foldl step_dedup acc).length=acc.length+l.length↔(acc++l).Nodup)/\(l.foldl step_dedup acc).length<=acc.length+l.length
 | [],acc,h=>by simp [h]
 | x :: t,acc,h=>by
  rw [List.foldl_cons]
  by_cases hx:acc.any (·==x)=true
  ·have e:step_dedup acc x=acc:=by unfold step_dedup;rw [if_pos hx]
   rw [e]
   obtain ⟨_,ih⟩:=dedup_len t acc h
   have hm:x∈acc:=by
    obtain ⟨y,hy,e⟩:=List.any_eq_true.mp hx
    rw [<-beq_iff_eq.mp e];exact hy
   refine ⟨⟨fun z=>?_,fun z=>?_⟩,?_⟩
   ·simp only [List.length_cons] at z;omega
   ·have:=(List.nodup_append.mp z).2.2 x hm x (by simp)
    exact absurd rfl this
   ·simp only [List.length_cons];omega
  ·have e:step_dedup acc x=acc++[x]:=by unfold step_dedup;rw [if_neg hx]
   have hm:x∉acc:=fun m=>hx (List.any_eq_true.mpr ⟨x,m,by simp⟩)
   have hn:(acc++[x]).Nodup:=nd_snoc h hm
   rw [e]
   obtain ⟨ih1,ih2⟩:=dedup_len t (acc++[x]) hn
   have el:(acc++[x]).length+t.length=acc.length+(x :: t).length:=by simp;omega
   have ea:acc++[x]++t=acc++x :: t:=by simp
   rw [el,ea] at ih1
   rw [el] at ih2
   exact ⟨ih1,ih2⟩
theorem range_getD (ns:List Int):(List.range ns.length).map (fun i=>ns.getD i 0)=ns:=by
 apply List.ext_getElem?
 intro i
 rw [List.getElem?_map]
 by_cases h:i<ns.length
 ·rw [List.getElem?_range h]
  simp [List.getD,h]
 ·rw [List.getElem?_eq_none_iff.mpr (by simpa using Nat.le_of_not_lt h),List.getElem?_eq_none_iff.mpr (by omega)]
  rfl
theorem set_len (ns:List Int):(firstMet (fun i=>ns.getD i 0) ns.length).length=ns.length↔ns.Nodup:=by
 unfold firstMet
 rw [range_getD]
 have:=(dedup_len ns [] List.nodup_nil).1
 simpa using this
theorem cast_nodup (ls:List Nat):(ls.map fun (n:Nat)=>(n:Int)).Nodup↔ls.Nodup:=by
 induction ls with
 | nil=>simp
 | cons x t ih=>
  rw [List.map_cons,List.nodup_cons,List.nodup_cons,ih]
  have:((x:Nat):Int)∈t.map (fun (n:Nat)=>(n:Int))↔x∈t:=by
   rw [List.mem_map]
   constructor
   ·rintro ⟨y,hy,e⟩
    have:y=x:=by omega
    rw [<-this];exact hy
   ·intro h;exact ⟨x,h,rfl⟩
  rw [this]
theorem nv_ints (b:List Nat):nv b=(b.map fun (n:Nat)=>(n:Int)).map V.int:=by simp [nv]
section
variable {P:Program} {w:World} {K:PySem.W.Frag} {mg:Str->Option Value} {base:Heap} {a:AD}
def spLetterNumbers (K:PySem.W.Frag):Sp:=fun vs H Q _=>∃ (q:Addr) (ls:List Nat),vs=[.ref q]/\SqL K H q (nv ls)/\ls.all Sa54.small=true/\ls.Nodup/\ls.length<=10000/\∀ (H':Hp) (d:Addr),NumAt H' d ls->H d=none->Keep [] H H'->Q (.ref d) H'
theorem scLetterNumbers:FnScope ["letters","numbers","place","letter"] ["letters"] (defScope sLetterNumbers):=⟨rfl,rfl,rfl,by decide +kernel,rfl,by decide +kernel,by decide +kernel⟩
theorem okLetterNumbers (T:Tx K mg a):FnOk P w K mg base (CXE P w) 1 a.fLetterNumbers a.dLetterNumbers ["letters"] (spLetterNumbers K):=by
 refine okE T.gLetterNumbers.fn scLetterNumbers (fun vs H Q E h=>?_) (fun cdv A outer s H vs Q E hr h=>?_)
 ·obtain ⟨q,ls,rfl,_⟩:=h
  rfl
 ·obtain ⟨q,ls,rfl,hq,hs,hn,hle,k⟩:=h
  have hu:=hu_of hr
  refine ⟨_,pss_cons (ps_set (i:=1) scLetterNumbers.nd rfl (Or.inl rfl) pe_dnewK)
   (pss_cons (ps_for ownE rfl (pi_enum1 rfl T.b_enumerate (pa_cons (pv 0) pa_nil)) (pg_tup (n:=2) rfl (pgs_cons (pg_name (i:=2) scLetterNumbers.nd rfl (Or.inl rfl)) (pgs_cons (pg_name (i:=3) scLetterNumbers.nd rfl (Or.inl rfl)) pgs_nil)))
    (pss_cons (ps_dput hu (pv 1) (pv 3) (pv 2) rfl) (pss_one (ps_dput hu (pv 1) (pe_op op_sub (pv 3) (pgi T.iGREAT_TO_SMALL)) (pe_un un_neg (pv 2)) rfl))))
   (pss_one (ps_ret (pv 1)))),?_⟩
  intro d hd
  have s0:Same H (upd H d (.dK [])):=(Keep.new hd).same
  refine ⟨_,rfl,q,_,rfl,s0.seq hq,for_enum1 (K:=K) (a:=q) (xs:=nv ls) (fun i σ H2=>∃ (v2 v3:Option V) (kvs:List (Key × V)),σ=[some (.ref q),some (.ref d),v2,v3]/\Same H H2/\H2 d=some (.dK kvs)/\kvs.length<=2*i /\
    ∀ c:Nat,valV kvs (Sum.inl (c:Int))=(letterOf (ls.take i) c).map fun l=>V.int (encL l))
   ⟨none,none,[],rfl,s0,upd_same,by simp,fun c=>rfl⟩ (fun i σ H2 _ ⟨_,_,_,_,s2,_⟩=>s2.seq hq) ?_ ?_⟩
  ·rintro i y σ H2 T0 hi ⟨v2,v3,kvs,rfl,s2,hk,hl,hv⟩ hT
   obtain ⟨x,hx,rfl⟩:∃ x:Nat,ls[i]?=some x/\y=V.int (x:Int):=by
    rw [List.getElem?_map] at hi
    cases e:ls[i]? with
    | none=>rw [e] at hi;cases hi
    | some c=>rw [e] at hi;exact ⟨c,rfl,(Option.some.inj hi).symm⟩
   obtain ⟨hlt,hxe⟩:=List.getElem?_eq_some_iff.mp hx
   have hxs:Sa54.small x=true:=List.all_eq_true.mp hs x (List.mem_of_getElem? hx)
   have hx1:97<=x:=by unfold Sa54.small at hxs;simp at hxs;omega
   have hxn:x∉ls.take i:=fun m=>by
    obtain ⟨j,hj⟩:=List.getElem?_of_mem m
    have hjl:=(List.getElem?_eq_some_iff.mp hj).1
    rw [List.length_take] at hjl
    rw [List.getElem?_take,if_pos (by omega)] at hj
    have:=nd_ix hn hj hx
    omega
   have s3:Same H2 (upd H2 T0 (.tup [.int ((i:Nat)+1),V.int (x:Int)])):=(Keep.new hT).same
   have nT:d≠T0:=ne_of_none hk hT
   refine ⟨T0,_,rfl,SqT.of upd_same,rfl,_,_,rfl,_,_,rfl,rfl,?_⟩
   refine ⟨_,rfl,_,rfl,_,rfl,d,_,rfl,DPut.k (k:=Sum.inl (x:Int)) (s3 _ _ hk) (Nat.lt_of_le_of_lt (by omega:kvs.length<=30000) (by decide)),?_⟩
   have l1:=length_putK kvs (Sum.inl (x:Int)) (V.int ((i:Int)+1))
   refine ⟨_,rfl,_,rfl,_,rfl,_,rfl,_,_,rfl,rfl,d,_,rfl,DPut.k (k:=Sum.inl ((x:Int)-32)) upd_same (Nat.lt_of_le_of_lt (by omega:_<=30000) (by decide)),?_⟩
   have l2:=length_putK (putK kvs (Sum.inl (x:Int)) (V.int ((i:Int)+1))) (Sum.inl ((x:Int)-32)) (V.int (-((i:Int)+1)))
   refine ⟨_,_,_,rfl,fun b o e=>?_,upd_same,Nat.le_trans l2 (by omega),fun c=>?_⟩
   ·have nb:b≠d:=ne_of_none e hd
    rw [upd_ne nb,upd_ne nb]
    exact s3 _ _ (s2 _ _ e)
   ·have e1:ls.take (i+1)=ls.take i++[x]:=by rw [List.take_add_one,hx];rfl
    have e2:=letter_step hxn hxs (List.all_eq_true.mpr fun z hz=>List.all_eq_true.mp hs z (List.mem_of_mem_take hz)) c
    have e3:(ls.take i).length=i:=by rw [List.length_take];omega
    have em:∀ o:Option Sa54.Letter,o.map (fun l=>V.int (encL l))=(o.map encL).map V.int:=fun o=>by cases o<;>rfl
    rw [e1,em,e2,e3,valV_put,valV_put,hv c,em]
    have c1:((Sum.inl (c:Int):Key)=Sum.inl ((x:Int)-32))↔c=x-32:=⟨fun z=>by have:=Sum.inl.inj z;omega,fun z=>by rw [z];congr 1;omega⟩
    have c2:((Sum.inl (c:Int):Key)=Sum.inl (x:Int))↔c=x:=⟨fun z=>by have:=Sum.inl.inj z;omega,fun z=>by rw [z]⟩
    by_cases h1:c=x-32
    ·rw [if_pos (c1.mpr h1),if_pos h1];rfl
    ·rw [if_neg (fun z=>h1 (c1.mp z)),if_neg h1]
     by_cases h2:c=x
     ·rw [if_pos (c2.mpr h2),if_pos h2];rfl
     ·rw [if_neg (fun z=>h2 (c2.mp z)),if_neg h2]
  ·rintro σ H2 ⟨v2,v3,kvs,rfl,s2,hk,hl,hv⟩
   refine ⟨_,rfl,k H2 d ⟨kvs,hk,fun c=>?_⟩ hd fun b o e _=>s2 b o e⟩
   have:=hv c
   rw [nv_len,List.take_length] at this
   exact this
def chk (ls:List Nat):Sa54.Got Unit:=if ls=[]\/8<ls.length\/ls.all Sa54.small=false\/¬ ls.Nodup then .error .wrong else .ok ()
def spCheckLetters (K:PySem.W.Frag) (a:AD):Sp:=fun vs H Q E=>∃ (q:Addr) (ls:List Nat),vs=[.ref q]/\SqL K H q (nv ls)/\Res a.cWrong a.cTooLong E (chk ls) fun _=>∀ H':Hp,Keep [] H H'->Q .non H'
theorem scCheckLetters:FnScope ["letters","letter"] ["letters"] (defScope sCheckLetters):=⟨rfl,rfl,rfl,by decide +kernel,rfl,by decide +kernel,by decide +kernel⟩
theorem okCheckLetters (T:Tx K mg a):FnOk P w K mg base (CXE P w) 1 a.fCheckLetters a.dCheckLetters ["letters"] (spCheckLetters K a):=by
 refine okE T.gCheckLetters.fn scCheckLetters (fun vs H Q E h=>?_) (fun cdv A outer s H vs Q E hr h=>?_)
 ·obtain ⟨q,ls,rfl,_⟩:=h
  rfl
 ·obtain ⟨q,ls,rfl,hq,R⟩:=h
  refine ⟨_,pss_cons (ps_if (PW.pt (pw_or (pt_cmpR op_lt (pe_callB call_len_seq (by rfl) T.b_len PySem.boot_len (pa_cons (pv 0) pa_nil)) pe_int (nomark _)) (pw_or1 (pt_cmpR op_gt (pe_callB call_len_seq (by rfl) T.b_len PySem.boot_len (pa_cons (pv 0) pa_nil)) (pgi T.iMOST_LETTERS) (nomark _))))) (pss_one (ps_raise takesE T.xWrong rfl rfl)) pss_nil)
   (pss_cons (ps_if (pt_cmpR op_ne (pe_callB call_lenS (by rfl) T.b_len PySem.boot_len (pa_cons (pe_callTy (call_setL rfl) rfl T.b_set PyProof.Rows.boot_set (pa_cons (pv 0) pa_nil)) pa_nil)) (pe_callB call_len_seq (by rfl) T.b_len PySem.boot_len (pa_cons (pv 0) pa_nil)) (nomark _)) (pss_one (ps_raise takesE T.xWrong rfl rfl)) pss_nil)
   (pss_one (ps_for ownE rfl (pi_list (pv 0)) (pg_name (i:=1) scCheckLetters.nd rfl (Or.inl rfl)) (pss_one (ps_if (PW.pt (pw_or (pt_cmpR op_lt (pv 1) (pgi T.iSMALL_A) (nomark _)) (pw_or1 (pt_cmpR op_gt (pv 1) (pgi T.iSMALL_Z) (nomark _))))) (pss_one (ps_raise takesE T.xWrong rfl rfl)) pss_nil))))),?_⟩
  refine ⟨_,rfl,q,_,rfl,.inl hq,_,_,rfl,rfl,_,rfl,?_⟩
  refine ite2 (fun h1=>?_) (fun h1=>?_)
  ·have h1:ls=[]:=List.length_eq_zero_iff.mp (by
    have z:=of_decide_eq_true h1
    rw [nv_len] at z
    omega)
   exact R.wrong (by unfold chk;rw [if_pos (.inl h1)]) _
  ·have h1:ls≠[]:=fun z=>h1 (decide_eq_true (by rw [nv_len,z];decide))
   refine ⟨_,rfl,q,_,rfl,.inl hq,_,_,rfl,rfl,_,rfl,?_⟩
   refine ite2 (fun h2=>?_) (fun h2=>?_)
   ·have h2:8<ls.length:=by
     have z:=of_decide_eq_true h2
     rw [nv_len] at z
     omega
    exact R.wrong (by unfold chk;rw [if_pos (.inr (.inl h2))]) _
   ·have h2:¬ 8<ls.length:=fun z=>h2 (decide_eq_true (by rw [nv_len];omega))
    have elen:(ls.map fun (n:Nat)=>(n:Int)).length=ls.length:=List.length_map ..
    refine ⟨_,rfl,q,ls.map fun (n:Nat)=>(n:Int),rfl,by rw [<-nv_ints];exact hq,by rw [elen];unfold scanBound;omega,fun l hl=>?_⟩
    refine ⟨l,_,_,rfl,upd_same,_,rfl,q,_,rfl,.inl ((Keep.new hl).same.seq hq),rfl,_,rfl,?_⟩
    have hset:=set_len (ls.map fun (n:Nat)=>(n:Int))
    rw [cast_nodup] at hset
    have en:((firstMet (fun i=>(ls.map fun (n:Nat)=>(n:Int)).getD i 0) (ls.map fun (n:Nat)=>(n:Int)).length).length=(nv ls).length)↔ls.Nodup:=by
     rw [nv_len,<-elen]
     exact hset
    refine ite2 (fun h3=>?_) (fun h3=>?_)
    ·have h3:¬ ls.Nodup:=fun z=>by
      have q:(!decide (V.int ((firstMet (fun i=>(ls.map fun (n:Nat)=>(n:Int)).getD i 0) (ls.map fun (n:Nat)=>(n:Int)).length).length:Int)=V.int ((nv ls).length:Int)))=true:=h3
      rw [en.mpr z,decide_eq_true rfl] at q
      cases q
     exact R.wrong (by unfold chk;rw [if_pos (.inr (.inr (.inr h3)))]) _
    ·have h3:ls.Nodup:=en.mp (Classical.byContradiction fun z=>h3 (by
      show (!decide (V.int ((firstMet (fun i=>(ls.map fun (n:Nat)=>(n:Int)).getD i 0) (ls.map fun (n:Nat)=>(n:Int)).length).length:Int)=V.int ((nv ls).length:Int)))=true
      rw [decide_eq_false fun q=>z (natV.mp q)];rfl))
     refine ⟨_,rfl,q,rfl,⟨_,(Keep.new hl).same.seq hq⟩,for_list (K:=K) (a:=q) (xs:=nv ls) (fun i σ H2=>∃ v1:Option V,σ=[some (.ref q),v1]/\Same H H2/\(ls.take i).all Sa54.small=true)
      ⟨none,rfl,(Keep.new hl).same,by simp⟩ (fun i σ H2 _ ⟨_,_,s2,_⟩=>s2.seq hq) ?_ ?_⟩
     ·rintro i y σ H2 hi ⟨v1,rfl,s2,hsm⟩
      obtain ⟨x,hx,rfl⟩:∃ x:Nat,ls[i]?=some x/\y=V.int (x:Int):=by
       rw [List.getElem?_map] at hi
       cases e:ls[i]? with
       | none=>rw [e] at hi;cases hi
       | some c=>rw [e] at hi;exact ⟨c,rfl,(Option.some.inj hi).symm⟩
      have bad:Sa54.small x=false->ls.all Sa54.small=false:=fun z=>by
       cases e:ls.all Sa54.small with
       | false=>rfl
       | true=>rw [List.all_eq_true.mp e x (List.mem_of_getElem? hx)] at z;cases z
      refine ⟨_,rfl,_,_,rfl,rfl,_,rfl,?_⟩
      refine ite2 (fun h4=>?_) (fun h4=>?_)
      ·have h4:=of_decide_eq_true h4
       exact R.wrong (by unfold chk;rw [if_pos (.inr (.inr (.inl (bad (by unfold Sa54.small;simp;omega)))))]) _
      ·have h4:¬ (x:Int)<97:=fun z=>h4 (decide_eq_true z)
       refine ⟨_,rfl,_,_,rfl,rfl,_,rfl,?_⟩
       refine ite2 (fun h5=>?_) (fun h5=>?_)
       ·have h5:=of_decide_eq_true h5
        exact R.wrong (by unfold chk;rw [if_pos (.inr (.inr (.inl (bad (by unfold Sa54.small;simp;omega)))))]) _
       ·have h5:¬ (122:Int)<x:=fun z=>h5 (decide_eq_true z)
        refine ⟨_,rfl,s2,?_⟩
        rw [List.take_add_one,hx]
        simp only [Option.toList_some,List.all_append,hsm,Bool.true_and,List.all_cons,List.all_nil,Bool.and_true]
        unfold Sa54.small
        simp
        omega
     ·rintro σ H2 ⟨v1,rfl,s2,hsm⟩
      rw [nv_len,List.take_length] at hsm
      have R':=R.ok (a:=()) (by
       unfold chk
       rw [if_neg]
       rintro (z | z | z | z)
       ·exact h1 z
       ·exact h2 z
       ·rw [hsm] at z;cases z
       ·exact z h3)
      exact R' H2 fun b o e _=>s2 b o e
end
end Gw
set_option Elab.async false
set_option linter.all false
set_option maxRecDepth 100000
set_option maxHeartbeats 8000000
namespace Gw
open PySem PySem.Spec PyProof.Rows L2
theorem atLast {xs:List V} {v:V}:atI (xs++[v]) (-1)=some v:=by
 unfold atI ixN
 have h1:¬ ((0:Int) <= -1):=by omega
 have h2 : -(((xs++[v]).length:Nat):Int) <= -1:=by simp;omega
 rw [if_neg h1,if_pos h2]
 have h3:((-1:Int)+((xs++[v]).length:Nat)).toNat=xs.length:=by simp;omega
 rw [h3]
 simp
theorem StkAt.comma {C:Addr} {H H':Hp} {l w':Addr} {x:LA} {xs:List LA} {v v':Lv} {st:List Lv} (S:StkAt C H l (x :: xs) (v :: st)) (k:Keep [x.p,x.e] H H') (L:LvAt C H' ⟨x.p,x.e,w',x.as++[x.w]⟩ v') (fw:H w'=none) :
  StkAt C H' l (⟨x.p,x.e,w',x.as++[x.w]⟩ :: xs) (v' :: st):=by
 have nd':=List.nodup_cons.mp S.nd
 have nd2:(muts x++xs.flatMap muts).Nodup:=nd'.2
 obtain ⟨m1,m2,m3⟩:=List.nodup_append.mp nd2
 have hx:∀ b∈muts x,b∈mutsAll l (x :: xs):=fun b hb=>mem_mutsAll.mpr (.inr ⟨x,List.mem_cons_self ..,hb⟩)
 have hxs:∀ b∈xs.flatMap muts,b∈mutsAll l (x :: xs):=fun b hb=>by
  obtain ⟨y,hy,hb⟩:=List.mem_flatMap.mp hb
  exact mem_mutsAll.mpr (.inr ⟨y,List.mem_cons_of_mem _ hy,hb⟩)
 have fr:∀ b∈mutsAll l (x :: xs),b≠w':=fun b hb z=>by
  obtain ⟨o,q⟩:=S.tracked hb
  rw [z,fw] at q;cases q
 have lp:l≠x.p:=fun z=>nd'.1 (by rw [z];exact List.mem_append_left _ (by simp [muts]))
 have le:l≠x.e:=fun z=>nd'.1 (by rw [z];exact List.mem_append_left _ (by simp [muts]))
 have mem':∀ b,b∈mutsAll l (⟨x.p,x.e,w',x.as++[x.w]⟩ :: xs)->b=w'\/(b∈mutsAll l (x :: xs)/\b≠x.w):=fun b hb=>by
  rcases mem_mutsAll.mp hb with z | ⟨y,hy,hb⟩
  ·refine .inr ⟨mem_mutsAll.mpr (.inl z),fun q=>nd'.1 ?_⟩
   rw [<-z,q];exact List.mem_append_left _ (by simp [muts])
  ·rcases List.mem_cons.mp hy with e | hy
   ·rw [e] at hb
    simp only [muts,List.mem_cons,List.not_mem_nil,or_false] at hb
    have m1':x.p≠x.e/\x.p≠x.w/\x.e≠x.w:=by simpa [muts,and_assoc] using m1
    rcases hb with z | z | z
    ·exact .inr ⟨by rw [z];exact hx _ (by simp [muts]),by rw [z];exact m1'.2.1⟩
    ·exact .inr ⟨by rw [z];exact hx _ (by simp [muts]),by rw [z];exact m1'.2.2⟩
    ·exact .inl z
   ·have hb2:b∈xs.flatMap muts:=List.mem_flatMap.mpr ⟨y,hy,hb⟩
    exact .inr ⟨hxs b hb2,fun q=>m3 b (by rw [q];simp [muts]) b hb2 rfl⟩
 cases S.lv with
 | cons Lx r=>
  refine ⟨k _ _ S.lst (by simp;exact ⟨lp,le⟩),.cons L (r.keep k (fun y hy b hb m=>?_) (fun y hy b hb m=>?_)),?_,fun y hy b hb m=>?_⟩
  ·have hb2:b∈xs.flatMap muts:=List.mem_flatMap.mpr ⟨y,hy,hb⟩
   simp only [List.mem_cons,List.not_mem_nil,or_false] at m
   exact m3 b (by rcases m with z | z<;>(rw [z];simp [muts])) b hb2 rfl
  ·simp only [List.mem_cons,List.not_mem_nil,or_false] at m
   exact S.sep y (List.mem_cons_of_mem _ hy) b hb (hx b (by rcases m with z | z<;>(rw [z];simp [muts])))
  ·show (l :: ([x.p,x.e,w']++xs.flatMap muts)).Nodup
   have m1':x.p≠x.e/\x.p≠x.w/\x.e≠x.w:=by simpa [muts,and_assoc] using m1
   refine List.nodup_cons.mpr ⟨fun m=>?_,List.nodup_append.mpr ⟨?_,m2,fun b hb c hc e=>?_⟩⟩
   ·rcases List.mem_append.mp m with m | m
    ·simp only [List.mem_cons,List.not_mem_nil,or_false] at m
     rcases m with z | z | z
     ·exact lp z
     ·exact le z
     ·exact fr l (mem_mutsAll.mpr (.inl rfl)) z
    ·exact nd'.1 (List.mem_append_right _ m)
   ·have f1:=fr x.p (hx _ (by simp [muts]))
    have f2:=fr x.e (hx _ (by simp [muts]))
    simp [m1'.1,f1,f2]
   ·subst e
    simp only [List.mem_cons,List.not_mem_nil,or_false] at hb
    rcases hb with z | z | z
    ·exact m3 b (by rw [z];simp [muts]) b hc rfl
    ·exact m3 b (by rw [z];simp [muts]) b hc rfl
    ·exact fr b (hxs b hc) z
  ·rcases List.mem_cons.mp hy with e | hy
   ·rw [e] at hb
    rcases List.mem_append.mp hb with hb | hb
    ·rcases mem' b m with z | ⟨z,_⟩
     ·obtain ⟨o,q⟩:=(S.lv.tracked x (List.mem_cons_self ..)).2 b hb
      rw [z,fw] at q;cases q
     ·exact S.sep x (List.mem_cons_self ..) b hb z
    ·have e2:=List.mem_singleton.mp hb
     rcases mem' b m with z | ⟨_,z⟩
     ·exact fr x.w (hx _ (by simp [muts])) (by rw [<-e2];exact z)
     ·exact z e2
   ·rcases mem' b m with z | ⟨z,_⟩
    ·obtain ⟨o,q⟩:=(S.lv.tracked y (List.mem_cons_of_mem _ hy)).2 b hb
     rw [z,fw] at q;cases q
    ·exact S.sep y (List.mem_cons_of_mem _ hy) b hb z
theorem StkAt.part {C:Addr} {H H':Hp} {l:Addr} {x:LA} {xs:List LA} {v v':Lv} {st:List Lv} (S:StkAt C H l (x :: xs) (v :: st)) (k:Keep [x.p,x.w] H H') (L:LvAt C H' x v'):StkAt C H' l (x :: xs) (v' :: st):=by
 have nd':=List.nodup_cons.mp S.nd
 have nd2:(muts x++xs.flatMap muts).Nodup:=nd'.2
 obtain ⟨m1,m2,m3⟩:=List.nodup_append.mp nd2
 have hx:∀ b∈muts x,b∈mutsAll l (x :: xs):=fun b hb=>mem_mutsAll.mpr (.inr ⟨x,List.mem_cons_self ..,hb⟩)
 have lm:∀ b∈muts x,l≠b:=fun b hb z=>nd'.1 (by rw [z];exact List.mem_append_left _ hb)
 cases S.lv with
 | cons Lx r=>
  refine ⟨k _ _ S.lst (by simp;exact ⟨lm _ (by simp [muts]),lm _ (by simp [muts])⟩),.cons L (r.keep k (fun y hy b hb m=>?_) (fun y hy b hb m=>?_)),S.nd,S.sep⟩
  ·have hb2:b∈xs.flatMap muts:=List.mem_flatMap.mpr ⟨y,hy,hb⟩
   simp only [List.mem_cons,List.not_mem_nil,or_false] at m
   exact m3 b (by rcases m with z | z<;>(rw [z];simp [muts])) b hb2 rfl
  ·simp only [List.mem_cons,List.not_mem_nil,or_false] at m
   exact S.sep y (List.mem_cons_of_mem _ hy) b hb (hx b (by rcases m with z | z<;>(rw [z];simp [muts])))
theorem power_rest {r0:List Nat} {n:Nat × Bool} {q:List Nat} (h:Sa54.power r0=.ok (n,q)):q=r0.drop (powSigns r0).length:=by
 rw [power_eq] at h
 unfold powSigns
 by_cases hn:(r0.head?==some 45)=true
 ·simp only [hn,if_true] at h ⊢
  by_cases h1:(r0.drop 1).takeWhile Sa54.digit=[]
  ·rw [if_pos h1] at h;cases h
  ·rw [if_neg h1] at h
   split at h
   ·cases h
   ·cases h
    rw [List.drop_drop,List.length_cons,Nat.add_comm]
 ·have hnf:(r0.head?==some 45)=false:=by simpa using hn
  simp only [hnf,if_false,Bool.false_eq_true] at h ⊢
  by_cases h1:r0.takeWhile Sa54.digit=[]
  ·rw [if_pos h1] at h
   cases h
   rw [h1];rfl
  ·rw [if_neg h1] at h
   split at h
   ·cases h
   ·cases h
    rfl
theorem takeWhile_le (p:Nat->Bool):∀ r:List Nat,(r.takeWhile p).length<=r.length
 | []=>Nat.le_refl _
 | x :: t=>by
  rw [List.takeWhile_cons]
  split
  ·simp only [List.length_cons];exact Nat.succ_le_succ (takeWhile_le p t)
  ·simp
theorem powSigns_le (r0:List Nat):(powSigns r0).length<=r0.length:=by
 unfold powSigns
 split
 ·rename_i h
  cases r0 with
  | nil=>simp at h
  | cons c t=>
   have:=takeWhile_le Sa54.digit t
   simp only [List.drop_one,List.tail_cons,List.length_cons]
   omega
 ·exact takeWhile_le _ _
def rw_ (ls:List Nat) (o:Nat) (b:List Nat):Sa54.Got (List Sa54.Word):=if b=[] then .ok [] else go ls o [⟨0,[],[],false⟩] b
theorem leastZ_le (o:Nat) (z:Int) (h:0<o):(leastZ o z).natAbs<=o:=by
 unfold leastZ
 have h1:=Int.emod_nonneg z (show (o:Int)≠0 by omega)
 have h2:=Int.emod_lt_of_pos z (show (0:Int)<o by omega)
 split<;>omega
theorem powZ_abs (z:Int):powZ z.natAbs (decide (z<0))=z:=by
 unfold powZ
 by_cases h:z<0
 ·simp [h];omega
 ·simp [h];omega
theorem least_le {o:Nat} {q:Nat × Bool} (hq:q.1<=100000) (ho:o<=100000):(least o q).1<=100000:=by
 cases o with
 | zero=>exact hq
 | succ o=>
  have:=leastZ_le (o+1) (powZ q.1 q.2) (by omega)
  show (leastZ (o+1) (powZ q.1 q.2)).natAbs<=100000
  omega
section
variable {P:Program} {w:World} {K:PySem.W.Frag} {mg:Str->Option Value} {base:Heap} {a:AD}
def spLeastPower:Sp:=fun vs H Q _=>∃ (q:Nat × Bool) (o:Nat),vs=[.int (powZ q.1 q.2),.int o]/\o<=100000/\Q (.int (powZ (least o q).1 (least o q).2)) H
theorem scLeastPower:FnScope ["power","order","left"] ["power","order"] (defScope sLeastPower):=⟨rfl,rfl,rfl,by decide +kernel,rfl,by decide +kernel,by decide +kernel⟩
theorem okLeastPower (T:Tx K mg a):FnOk P w K mg base (CXE P w) 1 a.fLeastPower a.dLeastPower ["power","order"] spLeastPower:=by
 refine okE T.gLeastPower.fn scLeastPower (fun vs H Q E h=>?_) (fun cdv A outer s H vs Q E hr h=>?_)
 ·obtain ⟨q,o,rfl,_⟩:=h
  rfl
 ·obtain ⟨q,o,rfl,ho,k⟩:=h
  refine ⟨_,pss_cons (ps_if (pt_cmpR op_eq (pv 1) (pgi T.iNO_ORDER) (nomark _)) (pss_one (ps_ret (pv 0))) pss_nil)
   (pss_cons (ps_set (i:=2) scLeastPower.nd rfl (Or.inl rfl) (pe_op op_mod (pv 0) (pv 1)))
   (pss_one (ps_ret (pe_ifExp (pt_cmpR op_gt (pe_op op_mul pe_int (pv 2)) (pv 1) (nomark _)) (pe_op op_sub (pv 2) (pv 1)) (pv 2))))),?_⟩
  refine ⟨_,rfl,rfl,_,rfl,?_⟩
  refine ite2 (fun h0=>?_) (fun h0=>?_)
  ·have h0:o=0:=natV.mp (of_decide_eq_true h0)
   subst h0
   exact ⟨_,rfl,k⟩
  ·have h0:o≠0:=fun z=>h0 (decide_eq_true (natV.mpr z))
   obtain ⟨m,rfl⟩:∃ m,o=m+1:=⟨o-1,by omega⟩
   have k:Q (.int (powZ (leastZ (m+1) (powZ q.1 q.2)).natAbs (decide (leastZ (m+1) (powZ q.1 q.2)<0)))) H:=k
   rw [powZ_abs] at k
   unfold leastZ at k
   have h1:=Int.emod_nonneg (powZ q.1 q.2) (show ((m+1:Nat):Int)≠0 by omega)
   have h2:=Int.emod_lt_of_pos (powZ q.1 q.2) (show (0:Int)<((m+1:Nat):Int) by omega)
   refine ⟨_,rfl,_,rfl,_,_,rfl,rfl,(by show (0:Int)<((m+1:Nat):Int);omega),?_⟩
   refine ⟨_,rfl,_,_,rfl,rfl,.inl ⟨by decide,by decide⟩,_,rfl,_,_,rfl,rfl,_,rfl,?_⟩
   refine ite2 (fun h3=>?_) (fun h3=>?_)
   ·rw [if_pos (of_decide_eq_true h3)] at k
    exact ⟨_,rfl,_,rfl,_,_,rfl,rfl,k⟩
   ·rw [if_neg (fun z=>h3 (decide_eq_true z))] at k
    exact ⟨_,rfl,k⟩
end
end Gw
set_option Elab.async false
set_option linter.all false
set_option maxRecDepth 100000
set_option maxHeartbeats 8000000
namespace Gw
open PySem PySem.Spec PyProof.Rows L2
section
variable {P:Program} {w:World} {K:PySem.W.Frag} {mg:Str->Option Value} {base:Heap} {a:AD}
def spReadWords (K:PySem.W.Frag) (a:AD):Sp:=fun vs H Q E=>∃ (q r:Addr) (b ls:List Nat) (ob o:Nat),vs=[.ref q,.ref r,.int ob,.int o]/\ob<=1/\o<=100000/\SqL K H q (nv b)/\SqL K H r (nv ls)/\ls.all Sa54.small=true/\ls.Nodup/\ls.length<=10000/\b.length<=4096 /\
 Res a.cWrong a.cTooLong E (go ls o [⟨ob,[],[],false⟩] b) fun ws=>∀ (H':Hp) (e:Addr) (as:List Addr),H' e=some (.lst (as.map V.ref))->WordsAt H' as ws->Keep [] H H'->Q (.ref e) H'
structure Turn1 (K:PySem.W.Frag) (a:AD) (E:XK) (H0:Hp) (o:Nat) (d l:Addr) (b ls:List Nat) (k:List Sa54.Word->Prop) (n:Nat) (xs:List LA) (st:List Lv) (H2:Hp):Prop where
 S:StkAt a.cLevel H2 l xs st
 same:Same H0 H2
 fr:∀ m∈mutsAll l xs,H0 m=none
 hn:n<=b.length
 big:∀ x∈xs,x.as.length<=n
 st33:st.length<=33
 bot:Bot st
 res:Res a.cWrong a.cTooLong E (go ls o st (b.drop n)) k
theorem StkAt.one {C:Addr} {H:Hp} {l:Addr} {x:LA} {v:Lv} (L:LvAt C H x v) (hl:H l=none) (has:x.as=[]):StkAt C (upd H l (.lst [V.ref x.p])) l [x] [v]:=by
 obtain ⟨dx,ho⟩:=L.ob
 have k:Keep [] H (upd H l (.lst [V.ref x.p])):=Keep.new hl
 have n1:x.p≠l:=ne_of_none ho hl
 have n2:x.e≠l:=ne_of_none L.en hl
 have n3:x.w≠l:=ne_of_none L.wr hl
 have pe:x.p≠x.e:=ne_of ho L.en (by intro q;cases q)
 have pw:x.p≠x.w:=ne_of ho L.wr (by intro q;cases q)
 refine ⟨upd_same,.cons (L.keep k (by simp) (by simp) (by simp) (by rw [has];simp)) .nil,?_,fun y hy b hb=>?_⟩
 ·show (l :: ([x.p,x.e,x.w]++[])).Nodup
  simp [n1.symm,n2.symm,n3.symm,pe,pw,L.ew]
 ·rw [List.mem_singleton.mp hy,has] at hb
  simp at hb
theorem Bot.head {v v':Lv} {st:List Lv} (h:Bot (v :: st)) (e:v'.br=v.br):Bot (v' :: st):=by
 obtain ⟨u,hu,h0⟩:=h
 cases st with
 | nil=>
  simp at hu
  subst hu
  exact ⟨v',by simp,by rw [e];exact h0⟩
 | cons x t=>exact ⟨u,by rw [List.getLast?_cons_cons] at hu ⊢;exact hu,h0⟩
theorem Bot.push {v:Lv} {st:List Lv} (h:Bot st):Bot (v :: st):=by
 obtain ⟨u,hu,h0⟩:=h
 cases st with
 | nil=>simp at hu
 | cons x t=>exact ⟨u,by rw [List.getLast?_cons_cons];exact hu,h0⟩
theorem takeComma_br {v v':Lv} (h:takeComma v=.ok v'):v'.br=v.br:=by
 unfold takeComma at h
 split at h
 ·cases h
 ·split at h
  ·cases h
  ·unfold endWord at h
   split at h
   ·cases h;rfl
   ·cases h
theorem addLv_br {v v':Lv} {u:Sa54.Word} {n:Nat} {neg:Bool} (h:addLv v u n neg=.ok v'):v'.br=v.br:=by
 unfold addLv at h
 split at h
 ·cases h
 ·cases h;rfl
theorem LvsAt.two {C:Addr} {H:Hp} {xs:List LA} {v:Lv} {st:List Lv} (h:LvsAt C H xs (v :: st)):∃ x xs',xs=x :: xs'/\LvAt C H x v:=by
 cases h with
 | cons L r=>exact ⟨_,_,rfl,L⟩
theorem rev_snoc (x:LA) (xs:List LA):((x :: xs).map fun x=>V.ref x.p).reverse=(xs.map fun x=>V.ref x.p).reverse++[V.ref x.p]:=by rw [List.map_cons,List.reverse_cons]
theorem scReadWords:FnScope ["signs","letters","outside","order","numbers","levels","at","sign","part","power"] ["signs","letters","outside","order"] (defScope sReadWords):=⟨rfl,rfl,rfl,by decide +kernel,rfl,by decide +kernel,by decide +kernel⟩
theorem okReadWords (T:Tx K mg a):FnOk P w K mg base (CXE P w) 4 a.fReadWords a.dReadWords ["signs","letters","outside","order"] (spReadWords K a):=by
 have GL:FnOk P w K mg base (CXE P w) 2 a.fLevel a.dLevel ["self","bracket"] (spLevel a.cLevel):=(okLevel T).mono (by decide)
 have GN:FnOk P w K mg base (CXE P w) 3 a.fLetterNumbers a.dLetterNumbers ["letters"] (spLetterNumbers K):=(okLetterNumbers T).mono (by decide)
 have GC:FnOk P w K mg base (CXE P w) 3 a.fTakeComma a.dTakeComma ["level"] (spTakeComma a):=(okTakeComma T).mono (by decide)
 have GB:FnOk P w K mg base (CXE P w) 3 a.fBeginBracket a.dBeginBracket ["levels","sign"] (spBeginBracket a):=okBeginBracket T
 have GE:FnOk P w K mg base (CXE P w) 3 a.fEndPart a.dEndPart ["levels","sign","numbers"] (spEndPart a):=okEndPart T
 have GS:FnOk P w K mg base (CXE P w) 3 a.fPowerSigns a.dPowerSigns ["signs","start"] (spPowerSigns K):=(okPowerSigns T).mono (by decide)
 have GM:FnOk P w K mg base (CXE P w) 3 a.fPowerNumber a.dPowerNumber ["signs"] (spPowerNumber K a):=(okPowerNumber T).mono (by decide)
 have GQ:FnOk P w K mg base (CXE P w) 3 a.fLeastPower a.dLeastPower ["power","order"] spLeastPower:=(okLeastPower T).mono (by decide)
 have GA:FnOk P w K mg base (CXE P w) 3 a.fAddPart a.dAddPart ["level","part","power"] (spAddPart a):=(okAddPart T).mono (by decide)
 have GW:FnOk P w K mg base (CXE P w) 3 a.fEndWord a.dEndWord ["level"] (spEndWord a):=(okEndWord T).mono (by decide)
 refine okE T.gReadWords.fn scReadWords (fun vs H Q E h=>?_) (fun cdv A outer s H vs Q E hr h=>?_)
 ·obtain ⟨q,r,b,ls,ob,o,rfl,_⟩:=h
  rfl
 ·obtain ⟨q,r,b,ls,ob,o,rfl,hob,hoo,hq,hr',hs,hn,hll,hbl,R⟩:=h
  refine ⟨_,pss_cons (ps_set (i:=4) scReadWords.nd rfl (Or.inl rfl) (pe_call GN hr rfl T.gLetterNumbers.mg T.gLetterNumbers.fn.kp T.gLetterNumbers.bd .nil passE (pa_cons (pv 1) (pa_nil)))) (pss_cons (ps_set (i:=5) scReadWords.nd rfl (Or.inl rfl) (pe_lst (pa_cons (pe_make T.kLevel.mak GL hr rfl T.kLevel.mg T.kLevel.bd .nil passE (pa_cons (pv 2) pa_nil)) pa_nil))) (pss_cons (ps_set (i:=6) scReadWords.nd rfl (Or.inl rfl) (pe_int)) (pss_cons (ps_while ownE (pt_cmpR op_lt (pv 6) (pe_callB call_len_seq (by rfl) T.b_len PySem.boot_len (pa_cons (pv 0) pa_nil)) (nomark _)) (pss_cons (ps_set (i:=7) scReadWords.nd rfl (Or.inl rfl) (pe_ix ix_list (pv 0) (pv 6) (fun _ _=>rfl))) (pss_cons (ps_set (i:=6) scReadWords.nd rfl (Or.inl rfl) (pe_op op_add (pv 6) pe_int)) (pss_one (ps_if (pt_cmpR op_eq (pv 7) (pgi T.iCOMMA) (nomark _)) (pss_one (ps_expr (pe_call GC hr rfl T.gTakeComma.mg T.gTakeComma.fn.kp T.gTakeComma.bd .nil passE (pa_cons (pe_ix ix_list (pv 5) (pe_un un_neg pe_int) (fun _ _=>rfl)) (pa_nil))))) (pss_one (ps_if (PW.pt (pw_or (pt_cmpR op_eq (pv 7) (pgi T.iROUND) (nomark _)) (pw_or1 (pt_cmpR op_eq (pv 7) (pgi T.iSQUARE) (nomark _))))) (pss_one (ps_expr (pe_call GB hr rfl T.gBeginBracket.mg T.gBeginBracket.fn.kp T.gBeginBracket.bd .nil passE (pa_cons (pv 5) (pa_cons (pv 7) (pa_nil)))))) (pss_cons (ps_set (i:=8) scReadWords.nd rfl (Or.inl rfl) (pe_call GE hr rfl T.gEndPart.mg T.gEndPart.fn.kp T.gEndPart.bd .nil passE (pa_cons (pv 5) (pa_cons (pv 7) (pa_cons (pv 4) (pa_nil)))))) (pss_cons (ps_set (i:=9) scReadWords.nd rfl (Or.inl rfl) (pe_call GS hr rfl T.gPowerSigns.mg T.gPowerSigns.fn.kp T.gPowerSigns.bd .nil passE (pa_cons (pv 0) (pa_cons (pv 6) (pa_nil))))) (pss_cons (ps_expr (pe_call GA hr rfl T.gAddPart.mg T.gAddPart.fn.kp T.gAddPart.bd .nil passE (pa_cons (pe_ix ix_list (pv 5) (pe_un un_neg pe_int) (fun _ _=>rfl)) (pa_cons (pv 8) (pa_cons (pe_call GQ hr rfl T.gLeastPower.mg T.gLeastPower.fn.kp T.gLeastPower.bd .nil passE (pa_cons (pe_call GM hr rfl T.gPowerNumber.mg T.gPowerNumber.fn.kp T.gPowerNumber.bd .nil passE (pa_cons (pv 9) (pa_nil))) (pa_cons (pv 3) (pa_nil)))) (pa_nil)))))) (pss_one (ps_set (i:=6) scReadWords.nd rfl (Or.inl rfl) (pe_op op_add (pv 6) (pe_callB call_len_seq (by rfl) T.b_len PySem.boot_len (pa_cons (pv 9) pa_nil))))))))))))))) (pss_cons (ps_if (pt_cmpR op_gt (pe_callB call_len_seq (by rfl) T.b_len PySem.boot_len (pa_cons (pv 5) pa_nil)) (pe_int) (nomark _)) (pss_one (ps_raise takesE T.xWrong rfl rfl)) (pss_nil)) (pss_cons (ps_expr (pe_call GW hr rfl T.gEndWord.mg T.gEndWord.fn.kp T.gEndWord.bd .nil passE (pa_cons (pe_ix ix_list (pv 5) (pe_int) (fun _ _=>rfl)) (pa_nil)))) (pss_one (ps_ret (pe_fld (pe_ix ix_list (pv 5) (pe_int) (fun _ _=>rfl)) rfl)))))))),?_⟩
  refine ⟨_,rfl,r,ls,rfl,hr',hs,hn,hll,fun H1 d hd1 hd0 k1=>?_⟩
  refine ⟨_,rfl,fun p dx np nd ne=>?_⟩
  refine ⟨p,dx,ob,rfl,upd_same,fun H2 e w L he hw k2=>⟨rfl,(by show 1<=sizeLine;decide),fun l hl=>?_⟩⟩
  have s12:Same H1 H2:=Same.made np nd fun b o q n=>k2 b o q (by simpa using n)
  have sH1:Same H H1:=k1.same
  have hl2:H2 l=none:=hl
  have fr1:∀ m,H2 m=none->H1 m=none:=fun m z=>s12.free z
  have fr0:∀ b,(upd (upd H1 dx (.own p)) p (.ins a.cLevel dx [])) b=none->H1 b=none:=fun b q=>by
   have n1:b≠p:=fun z=>by rw [z,upd_same] at q;cases q
   rw [upd_ne n1] at q
   have n2:b≠dx:=fun z=>by rw [z,upd_same] at q;cases q
   rw [upd_ne n2] at q
   exact q
  refine ⟨fun m σ Hc=>∃ (n:Nat) (xs:List LA) (st:List Lv) (v5 v6 v7:Option V),σ=[some (.ref q),some (.ref r),some (.int (ob:Int)),some (.int (o:Int)),some (.ref d),some (.ref l),some (.int (n:Int)),v5,v6,v7] /\
    Turn1 K a E H1 o d l b ls (fun ws=>∀ (H':Hp) (e:Addr) (as:List Addr),H' e=some (.lst (as.map V.ref))->WordsAt H' as ws->Keep [] H H'->Q (.ref e) H') n xs st Hc/\m=b.length-n,
   ⟨_,0,[⟨p,e,w,[]⟩],[⟨ob,[],[],false⟩],none,none,none,rfl,⟨StkAt.one L hl2 rfl,?_,?_,Nat.zero_le _,?_,(by show 1<=33;decide),⟨_,rfl,hob⟩,R⟩,rfl⟩,?_⟩
  ·intro c o q
   rw [upd_ne (ne_of_none (s12 _ _ q) hl2)]
   exact s12 _ _ q
  ·intro m hm
   rcases mem_mutsAll.mp hm with z | ⟨y,hy,hb⟩
   ·rw [z];exact fr1 l hl2
   ·rw [List.mem_singleton.mp hy] at hb
    simp only [muts,List.mem_cons,List.not_mem_nil,or_false] at hb
    rcases hb with z | z | z
    ·rw [z];exact np
    ·rw [z];exact fr0 _ he
    ·rw [z];exact fr0 _ hw
  ·intro y hy
   rw [List.mem_singleton.mp hy]
   exact Nat.zero_le _
  ·rintro m σ Hc ⟨n,xs,st,v5,v6,v7,rfl,I,rfl⟩
   have hqc:SqL K Hc q (nv b):=(sH1.trans I.same).seq hq
   refine ⟨_,rfl,_,rfl,q,_,rfl,.inl hqc,_,_,rfl,rfl,_,rfl,?_⟩
   refine ite2 (fun hlt=>?_) (fun hlt=>?_)
   ·have hlt:n<b.length:=by
     have z:=of_decide_eq_true hlt
     rw [nv_len] at z
     omega
    have hb0:b≠[]:=fun z=>by rw [z] at hlt;simp at hlt
    obtain ⟨c,hc⟩:∃ c,b[n]?=some c:=⟨b[n],List.getElem?_eq_getElem hlt⟩
    have hdr:b.drop n=c :: b.drop (n+1):=by
     obtain ⟨h1,h2⟩:=List.getElem?_eq_some_iff.mp hc
     rw [List.drop_eq_getElem_cons h1,h2]
    have R1:=I.res
    rw [hdr,go_cons] at R1
    obtain ⟨v,st',rfl⟩:∃ v st',st=v :: st':=by
     obtain ⟨u,hu,_⟩:=I.bot
     cases st with
     | nil=>simp at hu
     | cons v st'=>exact ⟨v,st',rfl⟩
    obtain ⟨x,xs',rfl,Lx⟩:=I.S.lv.two
    have hxa:=I.big x (List.mem_cons_self ..)
    have nextSame:∀ {ys:List Addr} {H3:Hp},Keep ys Hc H3->(∀ m∈ys,H1 m=none)->Same H1 H3:=fun k3 f c o q=>k3 c o (I.same c o q) fun z=>by rw [f c z] at q;cases q
    refine ⟨fun σ' H'=>∃ (n':Nat) (xs:List LA) (st:List Lv) (v5 v6 v7:Option V),n<n'/\σ'=[some (.ref q),some (.ref r),some (.int (ob:Int)),some (.int (o:Int)),some (.ref d),some (.ref l),some (.int (n':Int)),v5,v6,v7] /\
     Turn1 K a E H1 o d l b ls (fun ws=>∀ (H':Hp) (e:Addr) (as:List Addr),H' e=some (.lst (as.map V.ref))->WordsAt H' as ws->Keep [] H H'->Q (.ref e) H') n' xs st H',?_,?_⟩
    ·rintro σ' H' ⟨n',xs,st,v5,v6,v7,hn',rfl,I'⟩
     exact ⟨_,by have:=I'.hn;omega,n',xs,st,v5,v6,v7,rfl,I',rfl⟩
    refine ⟨_,rfl,_,rfl,q,_,_,_,rfl,rfl,hqc,atI_nat (nv_at hc),_,rfl,_,_,rfl,rfl,_,rfl,rfl,_,rfl,?_⟩
    refine ite2 (fun h44=>?_) (fun h44=>?_)
    ·-- a comma
     have h44:c=44:=natV.mp (of_decide_eq_true h44)
     have et:turn ls o (v :: st') c (b.drop (n+1))=(takeComma v).bind fun m=>.ok (m :: st',b.drop (n+1)):=by unfold turn;rw [if_pos h44]
     rw [et] at R1
     have hlst:=I.S.lst
     rw [rev_snoc] at hlst
     refine ⟨_,rfl,_,rfl,l,_,_,_,rfl,rfl,SqL.of hlst,atLast,x,v,rfl,Lx,by omega,R1.bind.bind.imp fun v' ev R2 H3 w' L3 hw3 k3=>?_⟩
     refine ⟨n+1,⟨x.p,x.e,w',x.as++[x.w]⟩ :: xs',v' :: st',_,_,_,by omega,rfl,⟨I.S.comma k3 L3 hw3,nextSame k3 ?_,fun m hm=>?_,by omega,fun y hy=>?_,I.st33,I.bot.head (takeComma_br ev),R2⟩⟩
     ·intro m hm
      refine I.fr m (mem_mutsAll.mpr (.inr ⟨x,List.mem_cons_self ..,?_⟩))
      simp only [List.mem_cons,List.not_mem_nil,or_false] at hm
      rcases hm with z | z<;>(rw [z];simp [muts])
     ·rcases mem_mutsAll.mp hm with z | ⟨y,hy,hb⟩
      ·exact I.fr m (mem_mutsAll.mpr (.inl z))
      ·rcases List.mem_cons.mp hy with e1 | hy
       ·rw [e1] at hb
        simp only [muts,List.mem_cons,List.not_mem_nil,or_false] at hb
        rcases hb with z | z | z
        ·exact I.fr m (mem_mutsAll.mpr (.inr ⟨x,List.mem_cons_self ..,by rw [z];simp [muts]⟩))
        ·exact I.fr m (mem_mutsAll.mpr (.inr ⟨x,List.mem_cons_self ..,by rw [z];simp [muts]⟩))
        ·rw [z];exact I.same.free hw3
       ·exact I.fr m (mem_mutsAll.mpr (.inr ⟨y,List.mem_cons_of_mem _ hy,hb⟩))
     ·rcases List.mem_cons.mp hy with e1 | hy
      ·rw [e1,List.length_append,List.length_singleton];omega
      ·have:=I.big y (List.mem_cons_of_mem _ hy);omega
    ·have h44:c≠44:=fun z=>h44 (decide_eq_true (natV.mpr z))
     have brk:(c=40\/c=91)->spBeginBracket a ([V.ref l,V.int (c:Int)]++[]) Hc (fun _ H'=>∃ (n':Nat) (xs:List LA) (st:List Lv) (u5 u6 u7:Option V),n<n'/\[some (V.ref q),some (V.ref r),some (V.int (ob:Int)),some (V.int (o:Int)),some (V.ref d),some (V.ref l),some (V.int ((n:Int)+1)),some (V.int (c:Int)),v6,v7]=[some (V.ref q),some (V.ref r),some (V.int (ob:Int)),some (V.int (o:Int)),some (V.ref d),some (V.ref l),some (V.int (n':Int)),u5,u6,u7] /\
       Turn1 K a E H1 o d l b ls (fun ws=>∀ (H':Hp) (e:Addr) (as:List Addr),H' e=some (.lst (as.map V.ref))->WordsAt H' as ws->Keep [] H H'->Q (.ref e) H') n' xs st H') E:=fun hbr=>by
      have et:turn ls o (v :: st') c (b.drop (n+1))=(begin_ (v :: st') c).bind fun t=>.ok (t,b.drop (n+1)):=by unfold turn;rw [if_neg h44,if_pos hbr]
      rw [et] at R1
      refine ⟨l,x :: xs',v :: st',c,rfl,I.S,by have:=I.st33;omega,R1.bind.bind.imp fun st2 e2 R2 H3 x2 S2 has2 fr2 k3=>?_⟩
      have e3:st2=⟨c,[],[],false⟩ :: v :: st'/\¬ 32<(v :: st').length:=by
       unfold begin_ at e2
       split at e2
       ·cases e2
       ·cases e2;exact ⟨rfl,by assumption⟩
      refine ⟨n+1,x2 :: x :: xs',st2,_,v6,v7,by omega,rfl,⟨S2,nextSame k3 ?_,fun m hm=>?_,by omega,fun y hy=>?_,by rw [e3.1,List.length_cons];omega,by rw [e3.1];exact I.bot.push,R2⟩⟩
      ·intro m hm
       rw [List.mem_singleton.mp hm]
       exact I.fr l (mem_mutsAll.mpr (.inl rfl))
      ·rcases mem_mutsAll.mp hm with z | ⟨y,hy,hb⟩
       ·exact I.fr m (mem_mutsAll.mpr (.inl z))
       ·rcases List.mem_cons.mp hy with e1 | hy
        ·rw [e1] at hb
         exact I.same.free (fr2 m hb)
        ·exact I.fr m (mem_mutsAll.mpr (.inr ⟨y,hy,hb⟩))
      ·rcases List.mem_cons.mp hy with e1 | hy
       ·rw [e1,has2];exact Nat.zero_le _
       ·have:=I.big y hy;omega
     refine ⟨_,rfl,rfl,_,rfl,?_⟩
     refine ite2 (fun h40=>?_) (fun h40=>?_)
     ·exact ⟨_,rfl,_,rfl,brk (.inl (natV.mp (of_decide_eq_true h40)))⟩
     ·have h40:c≠40:=fun z=>h40 (decide_eq_true (natV.mpr z))
      refine ⟨_,rfl,rfl,_,rfl,?_⟩
      refine ite2 (fun h91=>?_) (fun h91=>?_)
      ·exact ⟨_,rfl,_,rfl,brk (.inr (natV.mp (of_decide_eq_true h91)))⟩
      ·have h91:c≠91:=fun z=>h91 (decide_eq_true (natV.mpr z))
       have et:turn ls o (v :: st') c (b.drop (n+1))=(endPart ls (v :: st') c).bind fun p=>(Sa54.power (b.drop (n+1))).bind fun q=>(addPart p.2 p.1 (least o q.1).1 (least o q.1).2).bind fun t=>.ok (t,q.2):=by
        unfold turn
        rw [if_neg h44,if_neg (fun z=>z.elim h40 h91)]
       rw [et] at R1
       have hnum:NumAt Hc d ls:=by
        obtain ⟨kvs,h1,h2⟩:=hd1.ex
        exact ⟨kvs,I.same _ _ h1,h2⟩
       refine ⟨_,rfl,_,rfl,_,rfl,l,d,x,xs',v,st',c,ls,rfl,I.S,hnum,by omega,I.bot,R1.bind.bind.imp fun p3 e3 R2 H3 q3 xs3 hq3 hu3 S3 hx3 ne3 bot3 k3=>?_⟩
       have sub3:∀ m,m∈mutsAll l xs3->m∈mutsAll l (x :: xs'):=fun m hm=>by
        rcases hx3 with z | z
        ·rw [z] at hm;exact hm
        ·rw [z] at hm
         rcases mem_mutsAll.mp hm with y | ⟨y,hy,hb⟩
         ·exact mem_mutsAll.mpr (.inl y)
         ·exact mem_mutsAll.mpr (.inr ⟨y,List.mem_cons_of_mem _ hy,hb⟩)
       have big3:∀ y∈xs3,y.as.length<=n:=fun y hy=>by
        rcases hx3 with z | z
        ·rw [z] at hy;exact I.big y hy
        ·rw [z] at hy;exact I.big y (List.mem_cons_of_mem _ hy)
       have same3:Same H1 H3:=nextSame k3 fun m hm=>I.fr m hm
       have len3:xs3.length<=(x :: xs').length:=by
        rcases hx3 with z | z<;>(rw [z];simp)
       obtain ⟨u3,st3⟩:=p3
       cases st3 with
       | nil=>exact absurd rfl ne3
       | cons v3 st4=>
       obtain ⟨x3,xs4,rfl,L3⟩:=S3.lv.two
       refine ⟨_,rfl,_,rfl,q,b,n+1,rfl,(sH1.trans same3).seq hq,by omega,by omega,fun r5 h5=>?_⟩
       have s5:Same H3 (upd H3 r5 (.lst (nv (powSigns (b.drop (n+1)))))):=(Keep.new h5).same
       have S5:=S3.same s5
       have hlst:=S5.lst
       rw [rev_snoc] at hlst
       refine ⟨_,rfl,_,rfl,l,_,_,_,rfl,rfl,SqL.of hlst,atLast,_,rfl,_,rfl,r5,b.drop (n+1),rfl,SqL.of upd_same,by rw [List.length_drop];omega,R2.bind.imp fun nn en R3 H6 k6=>?_⟩
       have s6:Same (upd H3 r5 (.lst (nv (powSigns (b.drop (n+1)))))) H6:=k6.same
       have S6:=S5.same s6
       obtain ⟨y3,ys4,ey,L6⟩:=S6.lv.two
       obtain ⟨rfl,rfl⟩:=List.cons.inj ey
       have R4:=R3.bind
       rw [addPart_eq] at R4
       refine ⟨_,rfl,nn.1,o,rfl,hoo,?_⟩
       refine ⟨x3,v3,q3,u3,(least o nn.1).1,(least o nn.1).2,rfl,L6,s6 _ _ (s5 _ _ hq3),hu3,least_le (power_small (n:=nn.1) (q:=nn.2) en) hoo,R4.bind.imp fun v7' e7 R5 H7 L7 k7=>?_⟩
       have S7:=S6.part k7 L7
       have same7:Same H1 H7:=fun c0 o0 q0=>k7 c0 o0 (s6 _ _ (s5 _ _ (same3 _ _ q0))) fun z=>by
        have hm:c0∈mutsAll l (x3 :: xs4):=mem_mutsAll.mpr (.inr ⟨x3,List.mem_cons_self ..,by
         simp only [List.mem_cons,List.not_mem_nil,or_false] at z
         rcases z with z | z<;>(rw [z];simp [muts])⟩)
        rw [I.fr c0 (sub3 c0 hm)] at q0
        cases q0
       have hpl:=powSigns_le (b.drop (n+1))
       rw [List.length_drop] at hpl
       have hr7:H7 r5=some (.lst (nv (powSigns (b.drop (n+1))))):=k7 _ _ (s6 _ _ upd_same) fun z=>by
        have hm:r5∈mutsAll l (x3 :: xs4):=mem_mutsAll.mpr (.inr ⟨x3,List.mem_cons_self ..,by
         simp only [List.mem_cons,List.not_mem_nil,or_false] at z
         rcases z with z | z<;>(rw [z];simp [muts])⟩)
        obtain ⟨o,q0⟩:=S3.tracked hm
        rw [h5] at q0
        cases q0
       refine ⟨_,rfl,_,rfl,r5,_,rfl,.inl (SqL.of hr7),_,_,rfl,rfl,?_⟩
       refine ⟨n+1+(powSigns (b.drop (n+1))).length,x3 :: xs4,v7' :: st4,some (V.int (c:Int)),some (V.ref q3),some (V.ref r5),by omega,?_,⟨S7,same7,fun m hm=>I.fr m (sub3 m hm),by omega,fun y hy=>?_,?_,bot3.head (addLv_br e7),?_⟩⟩
       ·refine congrArg (fun z=>[some (V.ref q),some (V.ref r),some (V.int (ob:Int)),some (V.int (o:Int)),some (V.ref d),some (V.ref l),some (V.int z),some (V.int (c:Int)),some (V.ref q3),some (V.ref r5)]) ?_
        rw [nv_len]
        omega
       ·have:=big3 y hy;omega
       ·have h1:=S7.lv.len
        have h2:=I.S.lv.len
        have h3:=I.st33
        omega
       ·have e8:=power_rest (n:=nn.1) (q:=nn.2) en
        rw [List.drop_drop] at e8
        have R6:Res a.cWrong a.cTooLong E (go ls o (v7' :: st4) nn.2) _:=R5
        rw [e8] at R6
        exact R6
   ·-- behind the loop
    have hge:b.length<=n:=Nat.le_of_not_lt fun z=>hlt (decide_eq_true (by rw [nv_len];omega))
    have hdr:b.drop n=[]:=List.drop_eq_nil_of_le hge
    have elen:(((xs.map fun x=>V.ref x.p).reverse).length:Int)=st.length:=by rw [List.length_reverse,List.length_map,I.S.lv.len]
    refine ⟨_,rfl,l,_,rfl,.inl (SqL.of I.S.lst),_,_,rfl,rfl,_,rfl,?_⟩
    refine ite2 (fun h1=>?_) (fun h1=>?_)
    ·have h1:1<st.length:=by
      have z:=of_decide_eq_true h1
      rw [elen] at z
      omega
     have R1:=I.res
     rw [hdr,go_nil] at R1
     refine R1.wrong ?_ _
     cases st with
     | nil=>simp at h1
     | cons v0 t0=>
      cases t0 with
      | nil=>simp at h1
      | cons v1 t1=>rfl
    ·have h1:¬ 1<st.length:=fun z=>h1 (decide_eq_true (by rw [elen];omega))
     obtain ⟨v,rfl⟩:∃ v,st=[v]:=by
      obtain ⟨u,hu,_⟩:=I.bot
      cases st with
      | nil=>simp at hu
      | cons v st'=>
       cases st' with
       | nil=>exact ⟨v,rfl⟩
       | cons _ _=>simp at h1
     obtain ⟨x,xs',rfl,Lx⟩:=I.S.lv.two
     have hx0:xs'=[]:=by
      have z:=I.S.lv.len
      simp at z
      exact z
     subst hx0
     have hlst:Hc l=some (.lst [V.ref x.p]):=I.S.lst
     have R1:=I.res
     rw [hdr,go_nil] at R1
     have R2:Res a.cWrong a.cTooLong E ((endWord v).bind fun m=>.ok m.ended) _:=R1
     refine ⟨_,rfl,l,_,_,_,rfl,rfl,SqL.of hlst,atI_nat (j:=0) rfl,x,v,rfl,Lx,by have:=I.big x (List.mem_cons_self ..);have:=I.hn;omega,R2.bind.imp fun v' ev R3 H3 w' L3 hw3 k3=>?_⟩
     have S3:=I.S.comma k3 L3 hw3
     have hl3:H3 l=some (.lst [V.ref x.p]):=S3.lst
     obtain ⟨dx2,ho2⟩:=L3.ob
     refine ⟨_,rfl,l,_,_,_,rfl,rfl,SqL.of hl3,atI_nat (j:=0) rfl,x.p,a.cLevel,dx2,_,_,rfl,ho2,T.kLevel.cl,T.nLevel_ended,lf_en,?_⟩
     refine R3 H3 x.e (x.as++[x.w]) L3.en L3.ws fun c1 o1 q1 _=>k3 c1 o1 (I.same _ _ (sH1 _ _ q1)) fun z=>?_
     have hm:c1∈mutsAll l [x]:=mem_mutsAll.mpr (.inr ⟨x,List.mem_cons_self ..,by
      simp only [List.mem_cons,List.not_mem_nil,or_false] at z
      rcases z with z | z<;>(rw [z];simp [muts])⟩)
     have z1:=I.fr c1 hm
     rw [sH1 _ _ q1] at z1
     cases z1
end
end Gw
set_option Elab.async false
set_option linter.all false
set_option maxRecDepth 100000
set_option maxHeartbeats 8000000
namespace Gw
open PySem PySem.Spec PyProof.Rows L2
theorem rw_eq {ls r:List Nat} (hs:ls.all Sa54.small=true):rw_ ls 0 r=if r=[] then .ok [] else Sa54.words (r.length+1) ls r:=by
 unfold rw_
 split
 ·rfl
 ·rw [words_eq hs (r.length+1) r [] (by omega)]
  cases Sa54.words (r.length+1) ls r with
  | ok l=>rfl
  | error e=>rfl
theorem group_eq (b:List Nat):Sa54.groupOf b=(let c:=Sa54.close_ b;let ls:=c.takeWhile fun x=>x != 124
  if 124∈c then (chk ls).bind fun _=>(rw_ ls 0 (c.drop (ls.length+1))).bind fun l=>if 32<l.length then .error .wrong else .ok ⟨ls,l⟩ else .error .wrong):=by
 unfold Sa54.groupOf
 simp only
 have hm:124∈Sa54.close_ b↔((Sa54.close_ b).takeWhile fun x=>x != 124).length≠(Sa54.close_ b).length:=by
  generalize Sa54.close_ b=c
  induction c with
  | nil=>simp
  | cons x t ih=>
   by_cases h:x=124
   ·subst h;simp [List.takeWhile_cons]
   ·rw [List.takeWhile_cons,if_pos (by simp [h])]
    simp only [List.mem_cons,List.length_cons]
    constructor
    ·rintro (z | z)
     ·exact absurd z.symm h
     ·intro q;exact (ih.mp z) (by omega)
    ·intro q;exact .inr (ih.mpr fun z=>q (by omega))
 by_cases h0:124∈Sa54.close_ b
 ·rw [if_pos h0]
  have h1:=hm.mp h0
  unfold chk
  generalize hls:(Sa54.close_ b).takeWhile (fun x=>x != 124)=ls at *
  by_cases h2:ls=[]\/8<ls.length\/ls.all Sa54.small=false\/¬ ls.Nodup
  ·rw [if_pos (.inr h2),if_pos h2];rfl
  ·rw [if_neg (fun z=>z.elim h1 h2),if_neg h2]
   have hs:ls.all Sa54.small=true:=by
    cases e:ls.all Sa54.small with
    | true=>rfl
    | false=>exact absurd (.inr (.inr (.inl e))) h2
   show _=(rw_ ls 0 _).bind _
   rw [rw_eq hs]
   split
   ·rfl
   ·rfl
 ·rw [if_neg h0]
  have h1:=Classical.not_not.mp fun z=>h0 (hm.mpr z)
  rw [if_pos (.inl h1)]
section
variable {P:Program} {w:World} {K:PySem.W.Frag} {mg:Str->Option Value} {base:Heap} {a:AD}
def gf (l g w:Addr):List (Str × V):=[("letters",.ref l),("signs",.ref g),("words",.ref w)]
theorem gf_new {l g w:Addr}:putF "words" (.ref w) (putF "signs" (.ref g) (putF "letters" (.ref l) []))=gf l g w:=by kernel_rfl
theorem gf_l {l g w:Addr}:(gf l g w).lookup ("letters" : Str)=some (.ref l):=by kernel_rfl
theorem gf_s {l g w:Addr}:(gf l g w).lookup ("signs" : Str)=some (.ref g):=by kernel_rfl
def spGroup (C:Addr):Sp:=fun vs H Q _=>∃ (p dx l g w:Addr),vs=[.ref p,.ref l,.ref g,.ref w]/\H p=some (.ins C dx [])/\∀ H':Hp,H' p=some (.ins C dx (gf l g w))->Keep [p] H H'->Q .non H'
theorem scGroup:FnScope ["self","letters","signs","words"] ["self","letters","signs","words"] (defScope sGroup):=⟨rfl,rfl,rfl,by decide +kernel,rfl,by decide +kernel,by decide +kernel⟩
theorem okGroup (T:Tx K mg a):FnOk P w K mg base (CXE P w) 1 a.fGroup a.dGroup ["self","letters","signs","words"] (spGroup a.cGroup):=by
 refine okE T.kGroup.fn scGroup (fun vs H Q E h=>?_) (fun cdv A outer s H vs Q E hr h=>?_)
 ·obtain ⟨p,dx,l,g,w,rfl,_⟩:=h
  rfl
 ·obtain ⟨p,dx,l,g,w,rfl,hp,k⟩:=h
  refine ⟨_,pss_cons (ps_fld (pv 0) (pv 1) rfl) (pss_cons (ps_fld (pv 0) (pv 2) rfl) (pss_one (ps_fld (pv 0) (pv 3) rfl))),?_⟩
  refine ⟨_,rfl,_,rfl,p,a.cGroup,dx,_,rfl,hp,T.kGroup.cl,T.nGroup_letters,(by show 0<1000;decide),?_⟩
  refine ⟨_,rfl,_,rfl,p,a.cGroup,dx,_,rfl,upd_same,T.kGroup.cl,T.nGroup_signs,(by show 1<1000;decide),?_⟩
  refine ⟨_,rfl,_,rfl,p,a.cGroup,dx,_,rfl,upd_same,T.kGroup.cl,T.nGroup_words,(by show 2<1000;decide),?_⟩
  refine k _ (by rw [upd_same,gf_new]) fun b o e n=>?_
  have nb:b≠p:=fun z=>n (by simp [z])
  rw [upd_ne nb,upd_ne nb,upd_ne nb]
  exact e
def spWithoutBlanks (K:PySem.W.Frag):Sp:=fun vs H Q _=>∃ (t:Addr) (b:List Nat),vs=[.ref t]/\SqL K H t (nv b)/\b.length<=4096/\∀ (H':Hp) (r:Addr),H r=none->H' r=some (.lst (nv (Sa54.close_ b)))->Keep [] H H'->Q (.ref r) H'
theorem scWithoutBlanks:FnScope ["text","sign"] ["text"] (defScope sWithoutBlanks):=⟨rfl,rfl,rfl,by decide +kernel,rfl,by decide +kernel,by decide +kernel⟩
theorem okWithoutBlanks (T:Tx K mg a):FnOk P w K mg base (CXE P w) 1 a.fWithoutBlanks a.dWithoutBlanks ["text"] (spWithoutBlanks K):=by
 refine okE T.gWithoutBlanks.fn scWithoutBlanks (fun vs H Q E h=>?_) (fun cdv A outer s H vs Q E hr h=>?_)
 ·obtain ⟨t,b,rfl,_⟩:=h
  rfl
 ·obtain ⟨t,b,rfl,ht,hbl,k⟩:=h
  refine ⟨_,pss_one (ps_ret (pe_lc (own:=[("sign",1)]) rfl scWithoutBlanks.nd (pi_list (pv 0)) (blkOk_by (by kernel_rfl)) (fun s H C cl fp=>pg_name (i:=1) scWithoutBlanks.nd rfl (Or.inl rfl) (.inr rfl)) (fun s H C cl fp=>pts_one (pt_cmpR op_ne (pv 1) (pgi T.iBLANK) (nomark _))) (fun s H C cl fp=>pv 1))),?_⟩
  refine ⟨_,rfl,t,rfl,⟨_,ht⟩,fun D hD=>?_⟩
  have kD:∀ acc,Same H (upd H D (.lst acc)):=fun acc b o e=>by rw [upd_ne (ne_of_none e hD)];exact e
  refine lc_list (K:=K) (a:=t) (xs:=nv b) (fun i H'=>H'=upd H D (.lst (nv ((b.take i).filter fun x=>x != 32)))) rfl (fun i H' _ e=>by rw [e];exact (kD _).seq ht) (fun i x H' hx e=>?_) fun H' e=>?_
  ·subst e
   obtain ⟨n,hn,rfl⟩:∃ n:Nat,b[i]?=some n/\x=V.int (n:Int):=by
    rw [List.getElem?_map] at hx
    cases e:b[i]? with
    | none=>rw [e] at hx;cases hx
    | some n=>rw [e] at hx;exact ⟨n,rfl,(Option.some.inj hx).symm⟩
   have hlt:=(List.getElem?_eq_some_iff.mp hn).1
   have et:b.take (i+1)=b.take i++[n]:=by rw [List.take_add_one,hn];rfl
   refine ⟨rfl,_,rfl,rfl,_,rfl,?_⟩
   refine ite2 (fun h=>?_) (fun h=>?_)
   ·have h:n≠32:=fun z=>by
     have q:(!decide (V.int (n:Int)=V.int ((32:Nat):Int)))=true:=h
     rw [decide_eq_true (natV.mpr z)] at q
     cases q
    refine ⟨_,rfl,_,upd_same,?_,?_⟩
    ·rw [nv_len]
     exact Nat.lt_of_le_of_lt (Nat.le_trans (List.length_filter_le ..) (by rw [List.length_take];omega:_<=10000)) (by decide)
    ·show upd (upd H D _) D _=upd H D _
     rw [upd_upd,et,List.filter_append]
     simp [h,nv]
   ·have h:n=32:=Classical.byContradiction fun z=>h (by
     show (!decide (V.int (n:Int)=V.int ((32:Nat):Int)))=true
     rw [decide_eq_false fun q=>z (natV.mp q)];rfl)
    show upd H D _=upd H D _
    rw [et,List.filter_append]
    simp [h]
  ·subst e
   have e1:(b.take (nv b).length).filter (fun x=>x != 32)=Sa54.close_ b:=by rw [nv_len,List.take_length];rfl
   rw [e1]
   exact k _ D hD upd_same fun c o e _=>kD _ c o e
def spWordsOfText (K:PySem.W.Frag) (a:AD):Sp:=fun vs H Q E=>∃ (q r:Addr) (b ls:List Nat) (o:Nat),vs=[.ref q,.ref r,.int o]/\o<=100000/\SqL K H q (nv b)/\SqL K H r (nv ls)/\ls.all Sa54.small=true/\ls.Nodup/\ls.length<=10000/\b.length<=4096 /\
 Res a.cWrong a.cTooLong E (rw_ ls o b) fun ws=>∀ (H':Hp) (e:Addr) (as:List Addr),H' e=some (.lst (as.map V.ref))->WordsAt H' as ws->Keep [] H H'->Q (.ref e) H'
theorem scWordsOfText:FnScope ["signs","letters","order"] ["signs","letters","order"] (defScope sWordsOfText):=⟨rfl,rfl,rfl,by decide +kernel,rfl,by decide +kernel,by decide +kernel⟩
theorem okWordsOfText (T:Tx K mg a):FnOk P w K mg base (CXE P w) 5 a.fWordsOfText a.dWordsOfText ["signs","letters","order"] (spWordsOfText K a):=by
 have GW:FnOk P w K mg base (CXE P w) 4 a.fReadWords a.dReadWords ["signs","letters","outside","order"] (spReadWords K a):=okReadWords T
 refine okE T.gWordsOfText.fn scWordsOfText (fun vs H Q E h=>?_) (fun cdv A outer s H vs Q E hr h=>?_)
 ·obtain ⟨q,r,b,ls,o,rfl,_⟩:=h
  rfl
 ·obtain ⟨q,r,b,ls,o,rfl,ho,hq,hr',hs,hn,hl,hb,R⟩:=h
  refine ⟨_,pss_cons (ps_if (pt_not (pt_truth (pv 0) (fun _=>rfl))) (pss_one (ps_ret (pe_lst pa_nil))) pss_nil)
   (pss_one (ps_ret (pe_call GW hr rfl T.gReadWords.mg T.gReadWords.fn.kp T.gReadWords.bd .nil passE (pa_cons (pv 0) (pa_cons (pv 1) (pa_cons (pgi T.iWORDS_OF_TEXT) (pa_cons (pv 2) (pa_nil)))))))),?_⟩
  refine ⟨_,rfl,_,.inl ⟨_,hq,rfl⟩,?_⟩
  unfold rw_ at R
  cases hbb:b with
  | nil=>
   refine iteT ?_
   rw [if_pos hbb] at R
   refine ⟨(by show 0<=sizeLine;decide),fun l hl=>?_⟩
   exact R.ok rfl _ l [] upd_same ⟨rfl,fun j a w e=>by simp at e,fun _ z=>absurd z (by simp)⟩ (Keep.new hl)
  | cons c t=>
   refine iteF ?_
   rw [if_neg (by rw [hbb];simp)] at R
   exact ⟨_,rfl,_,rfl,_,rfl,q,r,b,ls,0,o,rfl,by decide,ho,hq,hr',hs,hn,hl,hb,R⟩
structure GroupAt (a:AD) (H:Hp) (p:Addr) (g:Sa54.Group) (sg:List Nat):Prop where
 ex:∃ (dx l q w:Addr) (as:List Addr),H p=some (.ins a.cGroup dx (gf l q w))/\H l=some (.lst (nv g.letters))/\H q=some (.lst (nv sg))/\H w=some (.lst (as.map V.ref))/\WordsAt H as g.nothing
structure GroupOk (g:Sa54.Group) (sg:List Nat):Prop where
 small:g.letters.all Sa54.small=true
 nd:g.letters.Nodup
 ne:g.letters≠[]
 le:g.letters.length<=8
 sl:sg.length<=4096
 rd:rw_ g.letters 0 sg=.ok g.nothing
 wl:g.nothing.length<=32
theorem GroupAt.same {a:AD} {H H':Hp} {p:Addr} {g:Sa54.Group} {sg:List Nat} (h:GroupAt a H p g sg) (s:Same H H'):GroupAt a H' p g sg:=by
 obtain ⟨dx,l,q,w,as,h1,h2,h3,h4,h5⟩:=h.ex
 exact ⟨dx,l,q,w,as,s _ _ h1,s _ _ h2,s _ _ h3,s _ _ h4,h5.keep (xs:=[]) (fun b o e _=>s b o e) (by simp)⟩
def spReadText (K:PySem.W.Frag) (a:AD):Sp:=fun vs H Q E=>∃ (t:Addr) (b:List Nat),vs=[.ref t]/\SqL K H t (nv b)/\b.length<=4096 /\
 Res a.cWrong a.cTooLong E (Sa54.groupOf b) fun g=>∀ (H':Hp) (p:Addr) (sg:List Nat),GroupAt a H' p g sg->GroupOk g sg->Keep [] H H'->Q (.ref p) H'
theorem scReadText:FnScope ["text","signs","bar","letters","word_signs","words"] ["text"] (defScope sReadText):=⟨rfl,rfl,rfl,by decide +kernel,rfl,by decide +kernel,by decide +kernel⟩
theorem inV_nv (c:List Nat):inV (V.int 124) (nv c)=decide (124∈c):=by
 unfold inV nv
 rw [List.any_map]
 induction c with
 | nil=>rfl
 | cons x t ih=>
  rw [List.any_cons,ih]
  by_cases h:x=124
  ·subst h;simp [eqV]
  ·have h1:((x:Int)==124)=false:=by simp;omega
   have h2:¬ 124=x:=fun z=>h z.symm
   simp [eqV,h1,h2,h]
theorem flat_nv (c:List Nat):(nv c).all flatV=true:=by
 unfold nv
 rw [List.all_map]
 exact List.all_eq_true.mpr fun x _=>rfl
theorem okReadText (T:Tx K mg a):FnOk P w K mg base (CXE P w) 6 a.fReadText a.dReadText ["text"] (spReadText K a):=by
 have GG:FnOk P w K mg base (CXE P w) 4 a.fGroup a.dGroup ["self","letters","signs","words"] (spGroup a.cGroup):=(okGroup T).mono (by decide)
 have GK:FnOk P w K mg base (CXE P w) 5 a.fCheckLetters a.dCheckLetters ["letters"] (spCheckLetters K a):=(okCheckLetters T).mono (by decide)
 have GW:FnOk P w K mg base (CXE P w) 5 a.fWordsOfText a.dWordsOfText ["signs","letters","order"] (spWordsOfText K a):=okWordsOfText T
 have GN:FnOk P w K mg base (CXE P w) 5 a.fWithoutBlanks a.dWithoutBlanks ["text"] (spWithoutBlanks K):=(okWithoutBlanks T).mono (by decide)
 refine okE T.gReadText.fn scReadText (fun vs H Q E h=>?_) (fun cdv A outer s H vs Q E hr h=>?_)
 ·obtain ⟨t,b,rfl,_⟩:=h
  rfl
 ·obtain ⟨t,b,rfl,ht,hbl,R⟩:=h
  refine ⟨_,pss_cons (ps_set (i:=1) scReadText.nd rfl (Or.inl rfl) (pe_call GN hr rfl T.gWithoutBlanks.mg T.gWithoutBlanks.fn.kp T.gWithoutBlanks.bd .nil passE (pa_cons (pv 0) (pa_nil)))) (pss_cons (ps_if (pt_cmpR op_notIn_seq (pgi T.iBAR) (pv 1) rfl) (pss_one (ps_raise takesE T.xWrong rfl rfl)) (pss_nil)) (pss_cons (ps_set (i:=2) scReadText.nd rfl (Or.inl rfl) (pe_bm PySem.F.plainAttrs_list PySem.F.slot_list_index PySem.F.type_list_index mt_index (pv 1) (pa_cons (pgi T.iBAR) pa_nil))) (pss_cons (ps_set (i:=3) scReadText.nd rfl (Or.inl rfl) (pe_slice sl_list (pv 1) po_none (po_some (pv 2)))) (pss_cons (ps_expr (pe_call GK hr rfl T.gCheckLetters.mg T.gCheckLetters.fn.kp T.gCheckLetters.bd .nil passE (pa_cons (pv 3) (pa_nil)))) (pss_cons (ps_set (i:=4) scReadText.nd rfl (Or.inl rfl) (pe_slice sl_list (pv 1) (po_some (pe_op op_add (pv 2) pe_int)) po_none)) (pss_cons (ps_set (i:=5) scReadText.nd rfl (Or.inl rfl) (pe_call GW hr rfl T.gWordsOfText.mg T.gWordsOfText.fn.kp T.gWordsOfText.bd .nil passE (pa_cons (pv 4) (pa_cons (pv 3) (pa_cons (pgi T.iNO_ORDER) (pa_nil)))))) (pss_cons (ps_if (pt_cmpR op_gt (pe_callB call_len_seq (by rfl) T.b_len PySem.boot_len (pa_cons (pv 5) pa_nil)) (pgi T.iMOST_WORDS) (nomark _)) (pss_one (ps_raise takesE T.xWrong rfl rfl)) (pss_nil)) (pss_one (ps_ret (pe_make T.kGroup.mak GG hr rfl T.kGroup.mg T.kGroup.bd .nil passE (pa_cons (pv 3) (pa_cons (pv 4) (pa_cons (pv 5) pa_nil))))))))))))),?_⟩
  rw [group_eq] at R
  obtain ⟨c,hc⟩:∃ c,c=Sa54.close_ b:=⟨_,rfl⟩
  obtain ⟨ls,hls⟩:∃ ls,ls=c.takeWhile fun x=>x != 124:=⟨_,rfl⟩
  simp only [<-hc,<-hls] at R
  have hcl:c.length<=4096:=by rw [hc];exact Nat.le_trans (List.length_filter_le ..) hbl
  refine ⟨_,rfl,t,b,rfl,ht,hbl,fun H1 D hD hD1 k1=>?_⟩
  have s1:Same H H1:=k1.same
  rw [<-hc] at hD1
  ·have hDs:SqL K H1 D (nv c):=SqL.of hD1
   refine ⟨_,rfl,D,_,rfl,.inl hDs,rfl,flat_nv c,_,rfl,?_⟩
   rw [inV_nv]
   refine ite2 (fun h124=>?_) (fun h124=>?_)
   ·have h124:¬ 124∈c:=fun z=>by
     have q:(!decide (124∈c))=true:=h124
     rw [decide_eq_true z] at q
     cases q
    exact R.wrong (by rw [if_neg h124]) _
   ·have h124:124∈c:=Classical.byContradiction fun z=>h124 (by
     show (!decide (124∈c))=true
     rw [decide_eq_false z];rfl)
    rw [if_pos h124] at R
    have hpl:∀ (m:List Nat),124∈m->m[(m.takeWhile fun x=>x != 124).length]?=some 124/\(∀ (j x:Nat),j<(m.takeWhile fun x=>x != 124).length->m[j]?=some x->x≠124)/\m.take (m.takeWhile fun x=>x != 124).length=m.takeWhile fun x=>x != 124:=by
     intro m
     induction m with
     | nil=>intro h;simp at h
     | cons x t ih=>
      intro h
      by_cases hx:x=124
      ·subst hx
       simp [List.takeWhile_cons]
      ·have ht:124∈t:=by
        rcases List.mem_cons.mp h with z | z
        ·exact absurd z.symm hx
        ·exact z
       obtain ⟨i1,i2,i3⟩:=ih ht
       have e0:(x :: t).takeWhile (fun x=>x != 124)=x :: t.takeWhile (fun x=>x != 124):=by rw [List.takeWhile_cons,if_pos (by simp [hx])]
       rw [e0]
       refine ⟨by simpa using i1,fun j y hj hy=>?_,by rw [List.length_cons,List.take_succ_cons,i3]⟩
       cases j with
       | zero=>simp at hy;rw [<-hy];exact hx
       | succ j=>exact i2 j y (by simpa using hj) (by simpa using hy)
    obtain ⟨p1,p2,p3⟩:=hpl c h124
    rw [<-hls] at p1 p2 p3
    have hll:=(List.getElem?_eq_some_iff.mp p1).1
    refine ⟨_,rfl,.inl ⟨rfl,_,hDs⟩,D,nv c,_,ls.length,V.int ((124:Nat):Int),rfl,rfl,hDs,rfl,flat_nv c,nv_at p1,rfl,fun m z hm hz=>?_,?_⟩
    ·rw [List.getElem?_map] at hz
     cases e:c[m]? with
     | none=>rw [e] at hz;cases hz
     | some y=>
      rw [e] at hz
      have ez:V.int (y:Int)=z:=Option.some.inj hz
      subst ez
      have hy:=p2 m y hm e
      show ((y:Int)==124)=false
      simp
      omega
    ·-- the letters
     refine ⟨_,rfl,_,rfl,_,rfl,D,_,rfl,hDs,fun l hl=>?_⟩
     have ecut:cutV (nv c) none (some ((ls.length:Nat):Int))=nv ls:=by rw [cut_j (by rw [nv_len];omega),nv_take,p3]
     rw [ecut]
     have s2:Same H1 (upd H1 l (.lst (nv ls))):=(Keep.new hl).same
     have hl2:(upd H1 l (.lst (nv ls))) l=some (.lst (nv ls)):=upd_same
     generalize upd H1 l (.lst (nv ls))=H2 at s2 hl2
     refine ⟨_,rfl,l,ls,rfl,SqL.of hl2,R.bind.imp fun _ ek R1 H3 k3=>?_⟩
     have hgood:ls.all Sa54.small=true/\ls.Nodup/\ls.length<=8/\ls≠[]:=by
      unfold chk at ek
      split at ek
      ·cases ek
      ·rename_i hno
       refine ⟨?_,Classical.byContradiction fun z=>hno (.inr (.inr (.inr z))),Nat.le_of_not_lt fun z=>hno (.inr (.inl z)),fun z=>hno (.inl z)⟩
       cases e:ls.all Sa54.small with
       | true=>rfl
       | false=>exact absurd (.inr (.inr (.inl e))) hno
     have s3:Same H2 H3:=k3.same
     refine ⟨_,rfl,_,rfl,_,_,rfl,rfl,_,rfl,D,_,rfl,SqL.of (s3 _ _ (s2 _ _ hD1)),fun r hr0=>?_⟩
     have ecut2:cutV (nv c) (some ((ls.length:Int)+1)) none=nv (c.drop (ls.length+1)):=by
      have z:=cut_i (xs:=nv c) (i:=ls.length+1) (by rw [nv_len];omega)
      rw [show ((ls.length:Int)+1)=((ls.length+1:Nat):Int) by omega,z,nv_drop]
     rw [ecut2]
     have s4:Same H3 (upd H3 r (.lst (nv (c.drop (ls.length+1))))):=(Keep.new hr0).same
     have hr2:(upd H3 r (.lst (nv (c.drop (ls.length+1))))) r=some (.lst (nv (c.drop (ls.length+1)))):=upd_same
     generalize upd H3 r (.lst (nv (c.drop (ls.length+1))))=H4 at s4 hr2
     refine ⟨_,rfl,_,rfl,r,l,c.drop (ls.length+1),ls,0,rfl,by decide,SqL.of hr2,SqL.of (s4 _ _ (s3 _ _ hl2)),hgood.1,hgood.2.1,by omega,by rw [List.length_drop];omega,R1.bind.imp fun ws ew R2 H5 e5 as he5 hws k5=>?_⟩
     have s5:Same H4 H5:=k5.same
     refine ⟨_,rfl,e5,_,rfl,.inl (SqL.of he5),_,_,rfl,rfl,_,rfl,?_⟩
     have elen:((as.map V.ref).length:Int)=ws.length:=by rw [List.length_map,hws.len]
     refine ite2 (fun h32=>?_) (fun h32=>?_)
     ·have h32:32<ws.length:=by
       have z:=of_decide_eq_true h32
       rw [elen] at z
       omega
      exact R2.wrong (by rw [if_pos h32]) _
     ·have h32:¬ 32<ws.length:=fun z=>h32 (decide_eq_true (by rw [elen];omega))
      rw [if_neg h32] at R2
      refine ⟨_,rfl,_,rfl,_,rfl,fun p dx np nd ne=>?_⟩
      refine ⟨p,dx,l,r,e5,rfl,upd_same,fun H6 hp6 k6=>⟨rfl,?_⟩⟩
      have s6:Same H5 H6:=Same.made np nd fun b o q n=>k6 b o q (by simpa using n)
      refine R2 H6 p (c.drop (ls.length+1)) ⟨dx,l,r,e5,as,hp6,(s6 _ _ (s5 _ _ (s4 _ _ (s3 _ _ hl2)))),s6 _ _ (s5 _ _ hr2),s6 _ _ he5,hws.keep (xs:=[]) (fun b o e _=>s6 b o e) (by simp)⟩ ⟨hgood.1,hgood.2.1,hgood.2.2.2,hgood.2.2.1,by rw [List.length_drop];omega,ew,by show ws.length<=32;omega⟩ fun b o e _=>s6 _ _ (s5 _ _ (s4 _ _ (s3 _ _ (s2 _ _ (s1 _ _ e)))))
end
end Gw
set_option Elab.async false
set_option linter.all false
set_option maxRecDepth 100000
set_option maxHeartbeats 8000000
namespace Gw
open PySem PySem.Spec PyProof.Rows L2
def ResQ {α:Type} (W:Addr) (q:Option Addr) (T:Addr) (E:XK) (r:Sa54.Got α) (k:α->Prop):Prop:=match r with
 | .ok a=>k a
 | .error .wrong=>∀ H,E (.ref W) q H
 | .error .full=>∀ H,E (.ref T) none H
theorem SqL.tbl {K:PySem.W.Frag} {H:Hp} {t P0:Addr} {xs:List V} {ps:Array Value} {o:HO} (h:SqL K H t xs) (hP:H P0=some (.tbl ps)):SqL K (upd H P0 o) t xs:=by
 rcases h with (h | ⟨u,h⟩) | h
 ·exact .inl (.inl (by rw [upd_ne (ne_of h hP (by intro z;cases z))];exact h))
 ·exact .inl (.inr ⟨u,by rw [upd_ne (ne_of h hP (by intro z;cases z))];exact h⟩)
 ·exact .inr h
section
variable {P:Program} {w:World} {K:PySem.W.Frag} {mg:Str->Option Value} {base:Heap} {a:AD}
def spCheckRange (a:AD):Sp:=fun vs H Q E=>∃ n lo hi:Int,vs=[.int n,.int lo,.int hi]/\(lo<=n->n<=hi->Q .non H)/\(¬ (lo<=n/\n<=hi)->E (.ref a.cWrongArguments) none H)
theorem scCheckRange:FnScope ["number","least","most"] ["number","least","most"] (defScope sCheckRange):=⟨rfl,rfl,rfl,by decide +kernel,rfl,by decide +kernel,by decide +kernel⟩
theorem okCheckRange (T:Tx K mg a):FnOk P w K mg base (CXE P w) 1 a.fCheckRange a.dCheckRange ["number","least","most"] (spCheckRange a):=by
 refine okE T.gCheckRange.fn scCheckRange (fun vs H Q E h=>?_) (fun cdv A outer s H vs Q E hr h=>?_)
 ·obtain ⟨n,lo,hi,rfl,_⟩:=h
  rfl
 ·obtain ⟨n,lo,hi,rfl,k1,k2⟩:=h
  refine ⟨_,pss_one (ps_if (PW.pt (pw_or (pt_cmpR op_lt (pv 0) (pv 1) (nomark _)) (pw_or1 (pt_cmpR op_gt (pv 0) (pv 2) (nomark _))))) (pss_one (ps_raise takesE T.xWrongArguments rfl rfl)) pss_nil),?_⟩
  refine ⟨_,rfl,_,rfl,_,_,rfl,rfl,_,rfl,?_⟩
  refine ite2 (fun h1=>?_) (fun h1=>?_)
  ·have h1:=of_decide_eq_true h1
   exact k2 (fun z=>by omega)
  ·have h1:¬ n<lo:=fun z=>h1 (decide_eq_true z)
   refine ⟨_,rfl,_,rfl,_,_,rfl,rfl,_,rfl,?_⟩
   refine ite2 (fun h2=>?_) (fun h2=>?_)
   ·have h2:=of_decide_eq_true h2
    exact k2 (fun z=>by omega)
   ·have h2:¬ n > hi:=fun z=>h2 (decide_eq_true z)
    exact k1 (by omega) (by omega)
def spCheckLength (K:PySem.W.Frag):Sp:=fun vs H Q _=>∃ (t:Addr) (xs:List V),vs=[.ref t]/\SqL K H t xs/\xs.length<=4096/\Q .non H
theorem scCheckLength:FnScope ["signs"] ["signs"] (defScope sCheckLength):=⟨rfl,rfl,rfl,by decide +kernel,rfl,by decide +kernel,by decide +kernel⟩
theorem okCheckLength (T:Tx K mg a):FnOk P w K mg base (CXE P w) 2 a.fCheckLength a.dCheckLength ["signs"] (spCheckLength K):=by
 have GR:FnOk P w K mg base (CXE P w) 1 a.fCheckRange a.dCheckRange ["number","least","most"] (spCheckRange a):=okCheckRange T
 refine okE T.gCheckLength.fn scCheckLength (fun vs H Q E h=>?_) (fun cdv A outer s H vs Q E hr h=>?_)
 ·obtain ⟨t,xs,rfl,_⟩:=h
  rfl
 ·obtain ⟨t,xs,rfl,ht,hl,k⟩:=h
  refine ⟨_,pss_one (ps_expr (pe_call GR hr rfl T.gCheckRange.mg T.gCheckRange.fn.kp T.gCheckRange.bd .nil passE (pa_cons (pe_callB call_len_seq (by rfl) T.b_len PySem.boot_len (pa_cons (pv 0) pa_nil)) (pa_cons (pe_int) (pa_cons (pgi T.iLONGEST) (pa_nil)))))),?_⟩
  exact ⟨_,rfl,t,_,rfl,.inl ht,_,0,4096,rfl,fun _ _=>k,fun z=>absurd ⟨by omega,by omega⟩ z⟩
def spGroupOf (K:PySem.W.Frag) (a:AD):Sp:=fun vs H Q E=>∃ (t:Addr) (b:List Nat),vs=[.ref t]/\SqL K H t (nv b)/\b.length<=4096 /\
 ResQ a.cWrongText (some 0) a.cTooLong E (Sa54.groupOf b) fun g=>∀ (H':Hp) (p:Addr) (sg:List Nat),GroupAt a H' p g sg->GroupOk g sg->Keep [] H H'->Q (.ref p) H'
theorem scGroupOf:FnScope ["text"] ["text"] (defScope sGroupOf):=⟨rfl,rfl,rfl,by decide +kernel,rfl,by decide +kernel,by decide +kernel⟩
theorem okGroupOf (T:Tx K mg a):FnOk P w K mg base (CXE P w) 7 a.fGroupOf a.dGroupOf ["text"] (spGroupOf K a):=by
 have GR:FnOk P w K mg base (CXE P w) 6 a.fReadText a.dReadText ["text"] (spReadText K a):=okReadText T
 refine okE T.gGroupOf.fn scGroupOf (fun vs H Q E h=>?_) (fun cdv A outer s H vs Q E hr h=>?_)
 ·obtain ⟨t,b,rfl,_⟩:=h
  rfl
 ·obtain ⟨t,b,rfl,ht,hb,R⟩:=h
  refine ⟨_,pss_one (ps_tryR ⟨rfl,rfl,rfl⟩ takesE rfl T.xWrong.mgx (by decide) T.xWrongText rfl (by decide) (fun pins xe E hp=>pss_one (ps_ret (pe_call GR hr rfl T.gReadText.mg T.gReadText.fn.kp T.gReadText.bd .nil hp (pa_cons (pv 0) pa_nil))))),?_⟩
  refine ⟨_,rfl,t,b,rfl,ht,hb,?_⟩
  cases e:Sa54.groupOf b with
  | ok g=>
   rw [e] at R
   exact R
  | error f=>
   rw [e] at R
   cases f with
   | wrong=>exact fun H'=>⟨_,rfl,.inl ⟨T.m_Wrong_Wrong,rfl,R H'⟩⟩
   | full=>exact fun H'=>⟨_,rfl,.inr ⟨T.m_TooLong_Wrong,R H'⟩⟩
def CodeOf (a:AD) (c:Value) (code:Int):Prop:=(c=.ref a.cLongerThanMost/\code = -1)\/(c=.ref a.cWrongArguments/\code = -2)\/(c=.ref a.cWrongText/\code = -3)\/(c=.ref a.cWrongWord/\code = -4)\/(c=.ref a.cNoSuch/\code = -5)\/(c=.ref a.cTooLong/\code = -6)
def Refused (a:AD) (Q:VK):XK:=fun c _ H=>∃ code,CodeOf a c code/\∀ l,H l=none->Q (.ref l) (upd H l (.lst [.int code]))
theorem scAnswerOrRefusal:FnScope ["find_answer"] ["find_answer"] (defScope sAnswerOrRefusal):=⟨rfl,rfl,rfl,by decide +kernel,rfl,by decide +kernel,by decide +kernel⟩
theorem okAnswer (T:Tx K mg a) {f:Addr} {fd:FuncData} {o:Obj} {k:Nat} {sp:Sp} (F:FnOk P w K mg base (CXE P w) k f fd [] sp) (ho:base.get? f=some o) (hd:o.data=.func fd) (hb:∀ s:Shared,BindsTo s fd ⟨[],[]⟩ []) :
  FnOk P w K mg base (CXE P w) (k+1) a.fAnswerOrRefusal a.dAnswerOrRefusal ["find_answer"] (fun vs H Q _=>vs=[.ref f]/\∀ E:XK,(∀ c q H',Refused a Q c q H'->E c q H')->sp [] H Q E):=by
 refine okE T.gAnswerOrRefusal.fn scAnswerOrRefusal (fun vs H Q E h=>?_) (fun cdv A outer s H vs Q E hr h=>?_)
 ·obtain ⟨rfl,_⟩:=h
  rfl
 ·obtain ⟨rfl,h⟩:=h
  refine ⟨_,pss_one (ps_tryN ⟨rfl,rfl,rfl⟩ (.cons ⟨⟨_,_,_,_,_,rfl,rfl,T.xLongerThanMost.mgx,by decide,fun _=>pss_one (ps_ret (pe_lst (pa_cons (pgi T.iMOST_REFUSED) pa_nil)))⟩⟩ (.cons ⟨⟨_,_,_,_,_,rfl,rfl,T.xWrongArguments.mgx,by decide,fun _=>pss_one (ps_ret (pe_lst (pa_cons (pgi T.iARGUMENTS_REFUSED) pa_nil)))⟩⟩ (.cons ⟨⟨_,_,_,_,_,rfl,rfl,T.xWrongText.mgx,by decide,fun _=>pss_one (ps_ret (pe_lst (pa_cons (pgi T.iTEXT_REFUSED) pa_nil)))⟩⟩ (.cons ⟨⟨_,_,_,_,_,rfl,rfl,T.xWrongWord.mgx,by decide,fun _=>pss_one (ps_ret (pe_lst (pa_cons (pgi T.iWORD_REFUSED) pa_nil)))⟩⟩ (.cons ⟨⟨_,_,_,_,_,rfl,rfl,T.xNoSuch.mgx,by decide,fun _=>pss_one (ps_ret (pe_lst (pa_cons (pgi T.iNO_SUCH_REFUSED) pa_nil)))⟩⟩ (.cons ⟨⟨_,_,_,_,_,rfl,rfl,T.xTooLong.mgx,by decide,fun _=>pss_one (ps_ret (pe_lst (pa_cons (pgi T.iTOO_LONG_REFUSED) pa_nil)))⟩⟩ (.nil))))))) (fun pins xe E hp=>pss_one (ps_ret (pe_callV (i:=0) F hr rfl (Or.inl rfl) ho hd hb hp)))),?_⟩
  refine ⟨rfl,h _ fun c q H' hc=>?_⟩
  obtain ⟨code,hc,k⟩:=hc
  rcases hc with ⟨rfl,rfl⟩ | ⟨rfl,rfl⟩ | ⟨rfl,rfl⟩ | ⟨rfl,rfl⟩ | ⟨rfl,rfl⟩ | ⟨rfl,rfl⟩
  ·exact ⟨_,rfl,.inl ⟨T.m_LongerThanMost_LongerThanMost,fun _=>⟨(by show 1<=sizeLine;decide),k⟩⟩⟩
  ·exact ⟨_,rfl,.inr ⟨T.m_WrongArguments_LongerThanMost,.inl ⟨T.m_WrongArguments_WrongArguments,fun _=>⟨(by show 1<=sizeLine;decide),k⟩⟩⟩⟩
  ·exact ⟨_,rfl,.inr ⟨T.m_WrongText_LongerThanMost,.inr ⟨T.m_WrongText_WrongArguments,.inl ⟨T.m_WrongText_WrongText,fun _=>⟨(by show 1<=sizeLine;decide),k⟩⟩⟩⟩⟩
  ·exact ⟨_,rfl,.inr ⟨T.m_WrongWord_LongerThanMost,.inr ⟨T.m_WrongWord_WrongArguments,.inr ⟨T.m_WrongWord_WrongText,.inl ⟨T.m_WrongWord_WrongWord,fun _=>⟨(by show 1<=sizeLine;decide),k⟩⟩⟩⟩⟩⟩
  ·exact ⟨_,rfl,.inr ⟨T.m_NoSuch_LongerThanMost,.inr ⟨T.m_NoSuch_WrongArguments,.inr ⟨T.m_NoSuch_WrongText,.inr ⟨T.m_NoSuch_WrongWord,.inl ⟨T.m_NoSuch_NoSuch,fun _=>⟨(by show 1<=sizeLine;decide),k⟩⟩⟩⟩⟩⟩⟩
  ·exact ⟨_,rfl,.inr ⟨T.m_TooLong_LongerThanMost,.inr ⟨T.m_TooLong_WrongArguments,.inr ⟨T.m_TooLong_WrongText,.inr ⟨T.m_TooLong_WrongWord,.inr ⟨T.m_TooLong_NoSuch,.inl ⟨T.m_TooLong_TooLong,fun _=>⟨(by show 1<=sizeLine;decide),k⟩⟩⟩⟩⟩⟩⟩⟩
theorem okMk {x qual:Str} {st:Stmt} {f c0:Addr} {fd:FuncData} {N ps:List Str} {k:Nat} {sp:Sp} (F:Fun K x qual st f fd) (hc:fd.code=.ref c0) (S:FnScope N ps (defScope st)) (len:∀ vs H Q E,sp vs H Q E->vs.length=ps.length)
  (hbody:∀ (A:Around) (outer:List Env) (s:Shared) (H:Hp) (vs:List V) (Q:VK) (E:XK),Room k (A.deeper (envOfC qual (defScope st) s.heap.objs.size f (.ref c0)))->sp vs H Q E ->
   ∃ t,PSs (cxE P w K mg base N qual st f (.ref c0) A outer s H E) (defBody st) t/\t {nx:=fun _ H'=>Q .non H',rt:=Q} (start N vs) H):FnOk P w K mg base (CXE P w) (k+1) f fd ps sp:=by
 obtain ⟨oc,od,kV,doc,pm,an,cdv,ct,osl,rfl,lk,hcd⟩:=F.ex
 obtain rfl:cdv=.ref c0:=hc
 exact fn_of lk hcd S len fun A outer s H vs Q E hr hsp=>hbody A outer s H vs Q E hr hsp
end
end Gw
set_option Elab.async false
set_option linter.all false
set_option maxRecDepth 100000
set_option maxHeartbeats 8000000
namespace Gw
open PySem PySem.Spec PyProof.Rows L2
def keyZ (j:Nat):Int:=if j % 2=0 then ((j / 2+1:Nat):Int) else -((j / 2+1:Nat):Int)
theorem keyZ_inj {i j:Nat} (h:keyZ i=keyZ j):i=j:=by
 unfold keyZ at h
 split at h<;>split at h<;>omega
theorem encL_key (l:Sa54.Letter):encL l=keyZ (ixL l):=by
 unfold encL keyZ ixL
 cases l.2 with
 | true=>
  simp only [if_true]
  rw [if_neg (by omega)]
  omega
 | false=>
  simp only [Bool.false_eq_true,if_false]
  rw [if_pos (by omega)]
  omega
def mkv:Nat->List Addr->List (Key × V)
 | _,[]=>[]
 | j,a :: as=>(Sum.inl (keyZ j),V.ref a) :: mkv (j+1) as
theorem mkv_len:∀ (j:Nat) (as:List Addr),(mkv j as).length=as.length
 | _,[]=>rfl
 | j,a :: as=>by
  show (mkv (j+1) as).length+1=as.length+1
  rw [mkv_len]
theorem key_ne {i j:Nat} (h:i≠j):¬ ((Sum.inl (keyZ i):Key)=Sum.inl (keyZ j)):=fun z=>h (keyZ_inj (Sum.inl.inj z))
theorem mkv_get:∀ (as:List Addr) (j i:Nat) (a:Addr),as[i]?=some a->valV (mkv j as) (Sum.inl (keyZ (j+i)):Key)=some (.ref a)
 | [],_,_,_,h=>by simp at h
 | b :: as,j,0,a,h=>by
  simp at h
  subst h
  exact valV_pos rfl
 | b :: as,j,i+1,a,h=>by
  show valV ((Sum.inl (keyZ j),V.ref b) :: mkv (j+1) as) _=_
  rw [valV_neg (key_ne (by omega)),show j+(i+1)=j+1+i by omega]
  exact mkv_get as (j+1) i a (by simpa using h)
theorem mkv_none:∀ (as:List Addr) (j i:Nat),j+as.length<=i->valV (mkv j as) (Sum.inl (keyZ i):Key)=none
 | [],_,_,_=>rfl
 | b :: as,j,i,h=>by
  show valV ((Sum.inl (keyZ j),V.ref b) :: mkv (j+1) as) _=_
  simp only [List.length_cons] at h
  rw [valV_neg (key_ne (by omega))]
  exact mkv_none as (j+1) i (by omega)
theorem mkv_snoc:∀ (as:List Addr) (j:Nat) (a:Addr),mkv j (as++[a])=mkv j as++[(Sum.inl (keyZ (j+as.length)),.ref a)]
 | [],_,_=>rfl
 | b :: as,j,a=>by
  show (Sum.inl (keyZ j),V.ref b) :: mkv (j+1) (as++[a])=(Sum.inl (keyZ j),V.ref b) :: (mkv (j+1) as++_)
  rw [mkv_snoc as (j+1) a,List.length_cons,show j+(as.length+1)=j+1+as.length by omega]
def oz:Option Nat->Int
 | none=>-1
 | some q=>(q:Int)
abbrev ov (o:Option Nat):V:=.int (oz o)
theorem oz_none (o:Option Nat):oz o = -1↔o=none:=by
 cases o with
 | none=>simp [oz]
 | some q=>simp only [oz];constructor<;>intro z<;>first | omega | cases z
theorem oz_some (o:Option Nat) (p:Nat):oz o=(p:Int)↔o=some p:=by
 cases o with
 | none=>simp only [oz];constructor<;>intro z<;>first | omega | cases z
 | some q=>simp only [oz,Option.some.injEq];omega
structure RowsAt (H:Hp) (as:List Addr) (M:Rows):Prop where
 len:as.length=M.length
 at_:∀ (j:Nat) (a:Addr) (r:List (Option Nat)),as[j]?=some a->M[j]?=some r->H a=some (.lst (r.map ov))
structure MvAt (H:Hp) (d:Addr) (M:Rows):Prop where
 ex:∃ as:List Addr,H d=some (.dK (mkv 0 as))/\RowsAt H as M
theorem RowsAt.same {H H':Hp} {as:List Addr} {M:Rows} (h:RowsAt H as M) (s:Same H H'):RowsAt H' as M:=⟨h.len,fun j a r e1 e2=>s _ _ (h.at_ j a r e1 e2)⟩
theorem MvAt.same {H H':Hp} {d:Addr} {M:Rows} (h:MvAt H d M) (s:Same H H'):MvAt H' d M:=by
 obtain ⟨as,h1,h2⟩:=h.ex
 exact ⟨as,s _ _ h1,h2.same s⟩
theorem MvAt.row {H:Hp} {d:Addr} {M:Rows} (h:MvAt H d M) {j:Nat} {r:List (Option Nat)} (hj:M[j]?=some r):∃ a,DGet H d (.int (keyZ j)) (some (.ref a))/\H a=some (.lst (r.map ov)):=by
 obtain ⟨as,h1,h2⟩:=h.ex
 have hl:=(List.getElem?_eq_some_iff.mp hj).1
 rw [<-h2.len] at hl
 refine ⟨as[j],?_,h2.at_ j _ r (List.getElem?_eq_getElem hl) hj⟩
 have z:=DGet.k (k:=Sum.inl (keyZ j)) h1
 have e:=mkv_get as 0 j as[j] (List.getElem?_eq_getElem hl)
 rw [Nat.zero_add] at e
 rw [e] at z
 exact z
def WordAt (K:PySem.W.Frag) (H:Hp) (q:Addr) (w:Sa54.Word):Prop:=SqL K H q (wv w)\/SqT K H q (wv w)
theorem SqT.same {K:PySem.W.Frag} {H H':Hp} {q:Addr} {xs:List V} (s:Same H H') (h:SqT K H q xs):SqT K H' q xs:=by
 rcases h with (h | ⟨u,h⟩) | h
 ·exact .inl (.inl (s _ _ h))
 ·exact .inl (.inr ⟨u,s _ _ h⟩)
 ·exact .inr h
theorem WordAt.same {K:PySem.W.Frag} {H H':Hp} {q:Addr} {w:Sa54.Word} (h:WordAt K H q w) (s:Same H H'):WordAt K H' q w:=h.elim (fun z=>.inl (s.seq z)) fun z=>.inr (SqT.same s z)
theorem foldl_take_succ {α β:Type} (f:β->α->β) (b:β) {l:List α} {i:Nat} {x:α} (h:l[i]?=some x):(l.take (i+1)).foldl f b=f ((l.take i).foldl f b) x:=by
 rw [List.take_add_one,h,List.foldl_append]
 rfl
theorem ovs_at {r:List (Option Nat)} {p:Nat} (h:p<r.length):atI (r.map ov) (p:Int)=some (ov ((r[p]?).getD none)):=atI_nat (j:=p) (by rw [List.getElem?_map,List.getElem?_eq_getElem h];rfl)
theorem iteF' {p:Bool} {A B:Prop} (h:p=false) (b:B):if p=true then A else B:=by rw [h];exact b
section
variable {P:Program} {w:World} {K:PySem.W.Frag} {mg:Str->Option Value} {base:Heap} {a:AD}
def spMovedTo (K:PySem.W.Frag):Sp:=fun vs H Q _=>∃ (q d:Addr) (u:Sa54.Word) (M:Rows) (k m p:Nat),vs=[.ref q,.ref d,.int p]/\WordAt K H q u/\MvAt H d M/\MvOk M k m/\WOk k u/\p<m/\Q (ov (moveP M u p)) H
theorem scMovedTo:FnScope ["word","moves","place","at","number"] ["word","moves","place"] (defScope sMovedTo):=⟨rfl,rfl,rfl,by decide +kernel,rfl,by decide +kernel,by decide +kernel⟩
theorem okMovedTo (T:Tx K mg a):FnOk P w K mg base (CXE P w) 1 a.fMovedTo a.dMovedTo ["word","moves","place"] (spMovedTo K):=by
 refine okE T.gMovedTo.fn scMovedTo (fun vs H Q E h=>?_) (fun cdv A outer s H vs Q E hr h=>?_)
 ·obtain ⟨q,d,u,M,k,m,p,rfl,_⟩:=h
  rfl
 ·obtain ⟨q,d,u,M,k,m,p,rfl,hq,hd,hM,hw,hp,kk⟩:=h
  have hu:=hu_of hr
  refine ⟨_,pss_cons (ps_set (i:=3) scMovedTo.nd rfl (Or.inl rfl) (pv 2))
   (pss_cons (ps_for ownE rfl (pi_seq (pv 0)) (pg_name (i:=4) scMovedTo.nd rfl (Or.inl rfl))
    (pss_cons (ps_set (i:=3) scMovedTo.nd rfl (Or.inl rfl) (pe_ix ix_list (pe_dget hu (pv 1) (pv 4) (fun _ _=>rfl)) (pv 3) (fun _ _=>rfl)))
    (pss_one (ps_if (pt_cmpR op_eq (pv 3) (pgi T.iNOWHERE) (nomark _)) (pss_one (ps_ret (pgi T.iNOWHERE))) pss_nil))))
   (pss_one (ps_ret (pv 3)))),?_⟩
  refine ⟨_,rfl,_,rfl,q,rfl,for_seq (K:=K) (a:=q) (xs:=wv u) hq (fun i σ H'=>H'=H/\∃ (at_:Nat) (v4:Option V),σ=[some (.ref q),some (.ref d),some (.int p),some (.int at_),v4]/\at_<m/\moveP M (u.take i) p=some at_)
   ⟨rfl,p,none,rfl,hp,rfl⟩ (fun i σ H' _ e=>by rw [e.1];exact ⟨fun z=>z,fun z=>z⟩) (fun i x σ H' hx hP=>?_) (fun σ H' hP=>?_)⟩
  ·obtain ⟨rfl,at_,v4,rfl,hat,hmv⟩:=hP
   obtain ⟨l,hl,rfl⟩:∃ l,u[i]?=some l/\x=V.int (encL l):=by
    rw [List.getElem?_map] at hx
    cases e:u[i]? with
    | none=>rw [e] at hx;cases hx
    | some l=>rw [e] at hx;exact ⟨l,rfl,(Option.some.inj hx).symm⟩
   have hlk:ixL l<M.length:=by
    have:=hw l (List.mem_of_getElem? hl)
    rw [hM.len]
    unfold ixL
    split<;>omega
   obtain ⟨a1,g1,g2⟩:=hd.row (List.getElem?_eq_getElem hlk)
   rw [<-encL_key] at g1
   have hrl:at_<M[ixL l].length:=by rw [hM.row _ (List.getElem_mem hlk)];exact hat
   have e2:moveP M (u.take (i+1)) p=getM M (ixL l) at_:=by
    unfold moveP at hmv ⊢
    rw [foldl_take_succ _ _ hl,hmv]
    rfl
   have e3:((M[ixL l])[at_]?).getD none=getM M (ixL l) at_:=(getM_of (List.getElem?_eq_getElem hlk) at_).symm
   have e4:=ovs_at hrl
   rw [e3] at e4
   refine ⟨_,rfl,_,rfl,d,_,rfl,g1,_,rfl,a1,_,_,_,rfl,rfl,SqL.of g2,e4,?_⟩
   refine ⟨_,rfl,rfl,_,rfl,?_⟩
   cases hg:getM M (ixL l) at_ with
   | none=>
    refine iteT ?_
    have e5:moveP M u p=none:=by
     rw [hg] at e2
     unfold moveP at e2 ⊢
     have:u=u.take (i+1)++u.drop (i+1):=(List.take_append_drop _ _).symm
     rw [this,List.foldl_append,e2,foldl_none]
    rw [e5] at kk
    exact kk
   | some q'=>
    refine iteF' ?_ ?_
    ·exact decide_eq_false fun z=>by
      have z2:oz (some q') = -1:=V.int.inj z
      rw [oz_none] at z2
      cases z2
    ·exact ⟨rfl,q',_,rfl,getM_lt hM hg,by rw [e2,hg]⟩
  ·obtain ⟨rfl,at_,v4,rfl,hat,hmv⟩:=hP
   rw [wv_len,List.take_length] at hmv
   rw [hmv] at kk
   exact ⟨_,rfl,kk⟩
def spPlacesOf:Sp:=fun vs H Q _=>∃ (d:Addr) (M:Rows) (k m:Nat),vs=[.ref d]/\MvAt H d M/\MvOk M k m/\0<k/\Q (.int m) H
theorem scPlacesOf:FnScope ["moves"] ["moves"] (defScope sPlacesOf):=⟨rfl,rfl,rfl,by decide +kernel,rfl,by decide +kernel,by decide +kernel⟩
theorem okPlacesOf (T:Tx K mg a):FnOk P w K mg base (CXE P w) 1 a.fPlacesOf a.dPlacesOf ["moves"] spPlacesOf:=by
 refine okE T.gPlacesOf.fn scPlacesOf (fun vs H Q E h=>?_) (fun cdv A outer s H vs Q E hr h=>?_)
 ·obtain ⟨d,M,k,m,rfl,_⟩:=h
  rfl
 ·obtain ⟨d,M,k,m,rfl,hd,hM,hk,kk⟩:=h
  have hu:=hu_of hr
  refine ⟨_,pss_one (ps_ret (pe_callB call_len_seq (by rfl) T.b_len PySem.boot_len (pa_cons (pe_dget hu (pv 0) pe_int (fun _ _=>rfl)) pa_nil))),?_⟩
  have h0:0<M.length:=by rw [hM.len];omega
  obtain ⟨a1,g1,g2⟩:=hd.row (List.getElem?_eq_getElem h0)
  refine ⟨_,rfl,d,_,rfl,g1,a1,_,rfl,.inl (SqL.of g2),?_⟩
  rw [List.length_map,hM.row _ (List.getElem_mem h0)]
  exact kk
structure WordsS (K:PySem.W.Frag) (H:Hp) (as:List Addr) (ws:List Sa54.Word):Prop where
 len:as.length=ws.length
 at_:∀ (j:Nat) (a:Addr) (w:Sa54.Word),as[j]?=some a->ws[j]?=some w->WordAt K H a w
theorem WordsS.same {K:PySem.W.Frag} {H H':Hp} {as:List Addr} {ws:List Sa54.Word} (h:WordsS K H as ws) (s:Same H H'):WordsS K H' as ws:=⟨h.len,fun j a w e1 e2=>(h.at_ j a w e1 e2).same s⟩
theorem WordsAt.s {K:PySem.W.Frag} {H:Hp} {as:List Addr} {ws:List Sa54.Word} (h:WordsAt H as ws):WordsS K H as ws:=⟨h.len,fun j a w e1 e2=>.inl (SqL.of (h.at_ j a w e1 e2))⟩
def stays (M:Rows) (u:Sa54.Word) (p:Nat):Bool:=decide (moveP M u p=none)||decide (moveP M u p=some p)
theorem npm_eq (M:Rows) (m:Nat) (ws:List Sa54.Word):npm M m ws=ws.all fun u=>(List.range m).all fun p=>stays M u p:=rfl
def spNoPlaceMoved (K:PySem.W.Frag):Sp:=fun vs H Q _=>∃ (q d:Addr) (as:List Addr) (ws:List Sa54.Word) (M:Rows) (k m:Nat),vs=[.ref q,.ref d]/\SqL K H q (as.map V.ref)/\WordsS K H as ws/\MvAt H d M/\MvOk M k m/\0<k/\m<=1000/\(∀ u∈ws,WOk k u)/\Q (.bl (npm M m ws)) H
theorem scNoPlaceMoved:FnScope ["words","moves","word","place","target"] ["words","moves"] (defScope sNoPlaceMoved):=⟨rfl,rfl,rfl,by decide +kernel,rfl,by decide +kernel,by decide +kernel⟩
theorem okNoPlaceMoved (T:Tx K mg a):FnOk P w K mg base (CXE P w) 2 a.fNoPlaceMoved a.dNoPlaceMoved ["words","moves"] (spNoPlaceMoved K):=by
 have GP:FnOk P w K mg base (CXE P w) 1 a.fPlacesOf a.dPlacesOf ["moves"] spPlacesOf:=okPlacesOf T
 have GM:FnOk P w K mg base (CXE P w) 1 a.fMovedTo a.dMovedTo ["word","moves","place"] (spMovedTo K):=okMovedTo T
 refine okE T.gNoPlaceMoved.fn scNoPlaceMoved (fun vs H Q E h=>?_) (fun cdv A outer s H vs Q E hr h=>?_)
 ·obtain ⟨q,d,as,ws,M,k,m,rfl,_⟩:=h
  rfl
 ·obtain ⟨q,d,as,ws,M,k,m,rfl,hq,hws,hd,hM,hk,hm,hwk,kk⟩:=h
  refine ⟨_,pss_cons (ps_for ownE rfl (pi_list (pv 0)) (pg_name (i:=2) scNoPlaceMoved.nd rfl (Or.inl rfl))
    (pss_one (ps_for ownE rfl (pi_range1 rfl T.b_range (pa_cons (pe_call GP hr rfl T.gPlacesOf.mg T.gPlacesOf.fn.kp T.gPlacesOf.bd .nil passE (pa_cons (pv 1) (pa_nil))) pa_nil)) (pg_name (i:=3) scNoPlaceMoved.nd rfl (Or.inl rfl))
     (pss_cons (ps_set (i:=4) scNoPlaceMoved.nd rfl (Or.inl rfl) (pe_call GM hr rfl T.gMovedTo.mg T.gMovedTo.fn.kp T.gMovedTo.bd .nil passE (pa_cons (pv 2) (pa_cons (pv 1) (pa_cons (pv 3) (pa_nil))))))
     (pss_one (ps_if (PW.pt (pw_and (pt_cmpR op_ne (pv 4) (pv 3) (nomark _)) (pw_and1 (pt_cmpR op_ne (pv 4) (pgi T.iNOWHERE) (nomark _))))) (pss_one (ps_ret pe_bl)) pss_nil))))))
   (pss_one (ps_ret pe_bl)),?_⟩
  refine ⟨_,rfl,q,rfl,⟨_,hq⟩,for_list (K:=K) (a:=q) (xs:=as.map V.ref) (fun i σ H'=>H'=H/\∃ v2 v3 v4:Option V,σ=[some (.ref q),some (.ref d),v2,v3,v4]/\npm M m (ws.take i)=true)
   ⟨rfl,none,none,none,rfl,rfl⟩ (fun i σ H' _ e=>by rw [e.1];exact hq) (fun i x σ H' hx hP=>?_) (fun σ H' hP=>?_)⟩
  ·obtain ⟨rfl,v2,v3,v4,rfl,hn⟩:=hP
   obtain ⟨c,hc,rfl⟩:∃ c:Addr,as[i]?=some c/\x=V.ref c:=by
    rw [List.getElem?_map] at hx
    cases e:as[i]? with
    | none=>rw [e] at hx;cases hx
    | some c=>rw [e] at hx;exact ⟨c,rfl,(Option.some.inj hx).symm⟩
   have hil:=(List.getElem?_eq_some_iff.mp hc).1
   rw [hws.len] at hil
   obtain ⟨u,hu⟩:∃ u,ws[i]?=some u:=⟨_,List.getElem?_eq_getElem hil⟩
   have hcu:=hws.at_ i c u hc hu
   have hum:=List.mem_of_getElem? hu
   refine ⟨_,rfl,d,M,k,m,rfl,hd,hM,hk,(m:Int),rfl,by omega,by omega,?_⟩
   rw [Int.toNat_natCast]
   refine for_range (lo:=0) (n:=m) (fun j σ H2=>H2=H'/\∃ v3 v4:Option V,σ=[some (.ref q),some (.ref d),some (.ref c),v3,v4]/\(List.range j).all (stays M u)=true)
    ⟨rfl,_,_,rfl,rfl⟩ (fun j σ H2 hj hP=>?_) (fun σ H2 hP=>?_)
   ·obtain ⟨rfl,w3,w4,rfl,hal⟩:=hP
    refine ⟨_,rfl,_,rfl,_,rfl,c,d,u,M,k,m,j,by rw [Int.zero_add];rfl,hcu,hd,hM,hwk u hum,hj,?_⟩
    refine ⟨_,rfl,_,rfl,rfl,_,rfl,?_⟩
    have fin:stays M u j=true->_:=fun hst=>(⟨rfl,some (V.int (0+(j:Int))),some (ov (moveP M u j)),rfl,by
     rw [List.range_succ,List.all_append,hal];simp [hst]⟩:H2=H2/\∃ v3 v4:Option V,[some (V.ref q),some (V.ref d),some (V.ref c),some (V.int (0+(j:Int))),some (ov (moveP M u j))]=[some (V.ref q),some (V.ref d),some (V.ref c),v3,v4]/\(List.range (j+1)).all (stays M u)=true)
    refine ite2 (fun h1=>?_) (fun h1=>?_)
    ·have h1:moveP M u j≠some j:=fun z=>by
      have q1:(!decide (ov (moveP M u j)=V.int (0+(j:Int))))=true:=h1
      rw [z,decide_eq_true (by show V.int (j:Int)=V.int (0+(j:Int));rw [Int.zero_add])] at q1
      cases q1
     refine ⟨_,rfl,rfl,_,rfl,?_⟩
     refine ite2 (fun h2=>?_) (fun h2=>?_)
     ·have h2:moveP M u j≠none:=fun z=>by
       have q1:(!decide (ov (moveP M u j)=V.int (-1)))=true:=h2
       rw [z,decide_eq_true (show ov none=V.int (-1) from rfl)] at q1
       cases q1
      have ef:npm M m ws=false:=by
       rw [npm_eq,Bool.eq_false_iff]
       intro z
       have z1:=List.all_eq_true.mp (List.all_eq_true.mp z u hum) j (List.mem_range.mpr hj)
       unfold stays at z1
       simp [h1,h2] at z1
      rw [ef] at kk
      exact kk
     ·have h2:moveP M u j=none:=by
       refine Classical.byContradiction fun z=>h2 ?_
       show (!decide (ov (moveP M u j)=V.int (-1)))=true
       rw [decide_eq_false fun y=>z ((oz_none _).mp (V.int.inj y))]
       rfl
      exact fin (by unfold stays;simp [h2])
    ·have h1:moveP M u j=some j:=by
      refine Classical.byContradiction fun z=>h1 ?_
      show (!decide (ov (moveP M u j)=V.int (0+(j:Int))))=true
      rw [decide_eq_false fun y=>z ((oz_some _ _).mp (by have:=V.int.inj y;omega))]
      rfl
     exact fin (by unfold stays;simp [h1])
   ·obtain ⟨rfl,w3,w4,rfl,hal⟩:=hP
    refine ⟨rfl,_,_,_,rfl,?_⟩
    rw [npm_eq] at hn ⊢
    rw [List.take_add_one,hu,List.all_append,hn]
    simp only [Option.toList_some,List.all_cons,List.all_nil,Bool.and_true,Bool.true_and]
    exact hal
  ·obtain ⟨rfl,v2,v3,v4,rfl,hn⟩:=hP
   rw [List.length_map,hws.len,List.take_length] at hn
   rw [hn] at kk
   exact kk
def mostZ (k:Nat):Int:=([8,7,5,4,3,3,3,3]:List Int).getD (k-1) 0
theorem mostZ_eq {k:Nat} (h0:0<k) (h8:k<=8):mostZ k=Sa54.most k:=by
 have:k=1\/k=2\/k=3\/k=4\/k=5\/k=6\/k=7\/k=8:=by omega
 rcases this with rfl | rfl | rfl | rfl | rfl | rfl | rfl | rfl<;>rfl
theorem GroupOk.pos {g:Sa54.Group} {sg:List Nat} (h:GroupOk g sg):0<g.letters.length:=List.length_pos_iff.mpr h.ne
def spMostPlaces (a:AD):Sp:=fun vs H Q _=>∃ (p:Addr) (g:Sa54.Group) (sg:List Nat),vs=[.ref p]/\GroupAt a H p g sg/\GroupOk g sg/\Q (.int (Sa54.most g.letters.length)) H
theorem scMostPlaces:FnScope ["group"] ["group"] (defScope sMostPlaces):=⟨rfl,rfl,rfl,by decide +kernel,rfl,by decide +kernel,by decide +kernel⟩
theorem okMostPlaces (T:Tx K mg a):FnOk P w K mg base (CXE P w) 1 a.fMostPlaces a.dMostPlaces ["group"] (spMostPlaces a):=by
 refine okE T.gMostPlaces.fn scMostPlaces (fun vs H Q E h=>?_) (fun cdv A outer s H vs Q E hr h=>?_)
 ·obtain ⟨p,g,sg,rfl,_⟩:=h
  rfl
 ·obtain ⟨p,g,sg,rfl,GA,GO,k⟩:=h
  obtain ⟨dx,l,q,w,as,hp,hl,hq,hw,hws⟩:=GA.ex
  refine ⟨_,pss_one (ps_ret (pe_ix ix_tup (pe_glob rfl T.uMOST_PLACES.mg (v:=.ref a.tMOST_PLACES) rfl) (pe_op op_sub (pe_callB call_len_seq (by rfl) T.b_len PySem.boot_len (pa_cons (pe_fld (pv 0) rfl) pa_nil)) pe_int) (fun _ _=>rfl))),?_⟩
  refine ⟨_,rfl,p,a.cGroup,dx,_,_,rfl,hp,T.kGroup.cl,T.nGroup_letters,gf_l,l,_,rfl,.inl (SqL.of hl),_,_,rfl,rfl,a.tMOST_PLACES,_,_,_,rfl,rfl,T.uMOST_PLACES.sq H,?_,k⟩
  have h0:=GO.pos
  have h8:=GO.le
  rw [nv_len,show ((g.letters.length:Int)-1)=((g.letters.length-1:Nat):Int) by omega]
  refine atI_nat ?_
  rw [<-mostZ_eq h0 h8]
  generalize g.letters.length=n at h0 h8
  have:n=1\/n=2\/n=3\/n=4\/n=5\/n=6\/n=7\/n=8:=by omega
  rcases this with rfl | rfl | rfl | rfl | rfl | rfl | rfl | rfl<;>rfl
def spGroupWithPlaces (K:PySem.W.Frag) (a:AD):Sp:=fun vs H Q E=>∃ (n:Int) (t:Addr) (b:List Nat),vs=[.int n,.ref t]/\SqL K H t (nv b)/\b.length<=4096 /\
 (¬ (1<=n/\n<=8)->∀ H',E (.ref a.cWrongArguments) none H') /\
 (1<=n->n<=8->ResQ a.cWrongText (some 0) a.cTooLong E (Sa54.groupOf b) fun g=>(Sa54.most g.letters.length<n->∀ H',E (.ref a.cWrongArguments) none H') /\
  (n<=Sa54.most g.letters.length->∀ (H':Hp) (p:Addr) (sg:List Nat),GroupAt a H' p g sg->GroupOk g sg->Keep [] H H'->Q (.ref p) H'))
theorem scGroupWithPlaces:FnScope ["n","text","group"] ["n","text"] (defScope sGroupWithPlaces):=⟨rfl,rfl,rfl,by decide +kernel,rfl,by decide +kernel,by decide +kernel⟩
theorem okGroupWithPlaces (T:Tx K mg a):FnOk P w K mg base (CXE P w) 8 a.fGroupWithPlaces a.dGroupWithPlaces ["n","text"] (spGroupWithPlaces K a):=by
 have GL:FnOk P w K mg base (CXE P w) 7 a.fCheckLength a.dCheckLength ["signs"] (spCheckLength K):=(okCheckLength T).mono (by decide)
 have GR:FnOk P w K mg base (CXE P w) 7 a.fCheckRange a.dCheckRange ["number","least","most"] (spCheckRange a):=(okCheckRange T).mono (by decide)
 have GG:FnOk P w K mg base (CXE P w) 7 a.fGroupOf a.dGroupOf ["text"] (spGroupOf K a):=okGroupOf T
 have GP:FnOk P w K mg base (CXE P w) 7 a.fMostPlaces a.dMostPlaces ["group"] (spMostPlaces a):=(okMostPlaces T).mono (by decide)
 refine okE T.gGroupWithPlaces.fn scGroupWithPlaces (fun vs H Q E h=>?_) (fun cdv A outer s H vs Q E hr h=>?_)
 ·obtain ⟨n,t,b,rfl,_⟩:=h
  rfl
 ·obtain ⟨n,t,b,rfl,ht,hb,k1,k2⟩:=h
  refine ⟨_,pss_cons (ps_expr (pe_call GL hr rfl T.gCheckLength.mg T.gCheckLength.fn.kp T.gCheckLength.bd .nil passE (pa_cons (pv 1) (pa_nil)))) (pss_cons (ps_expr (pe_call GR hr rfl T.gCheckRange.mg T.gCheckRange.fn.kp T.gCheckRange.bd .nil passE (pa_cons (pv 0) (pa_cons (pe_int) (pa_cons (pgi T.iMOST_PLACES_AT_ALL) (pa_nil)))))) (pss_cons (ps_set (i:=2) scGroupWithPlaces.nd rfl (Or.inl rfl) (pe_call GG hr rfl T.gGroupOf.mg T.gGroupOf.fn.kp T.gGroupOf.bd .nil passE (pa_cons (pv 1) (pa_nil)))) (pss_cons (ps_expr (pe_call GR hr rfl T.gCheckRange.mg T.gCheckRange.fn.kp T.gCheckRange.bd .nil passE (pa_cons (pv 0) (pa_cons (pe_int) (pa_cons (pe_call GP hr rfl T.gMostPlaces.mg T.gMostPlaces.fn.kp T.gMostPlaces.bd .nil passE (pa_cons (pv 2) (pa_nil))) (pa_nil)))))) (pss_one (ps_ret (pv 2)))))),?_⟩
  refine ⟨_,rfl,t,_,rfl,ht,by rw [nv_len];exact hb,?_⟩
  refine ⟨_,rfl,n,1,8,rfl,fun h1 h2=>?_,fun z=>k1 z _⟩
  have R:=k2 h1 h2
  refine ⟨_,rfl,t,b,rfl,ht,hb,?_⟩
  cases e:Sa54.groupOf b with
  | error f=>
   rw [e] at R
   cases f<;>exact R
  | ok g=>
   rw [e] at R
   intro H1 p sg GA GO k3
   refine ⟨_,rfl,_,rfl,p,g,sg,rfl,GA,GO,?_⟩
   refine ⟨n,1,_,rfl,fun _ h4=>⟨_,rfl,R.2 h4 H1 p sg GA GO k3⟩,fun z=>R.1 (by omega) _⟩
end
end Gw
set_option Elab.async false
set_option linter.all false
set_option maxRecDepth 100000
set_option maxHeartbeats 8000000
namespace Gw
open PySem PySem.Spec PyProof.Rows L2
theorem bootList':bootBuiltins "list" = some (.type "list"):=by decide +kernel
theorem mkv_at:∀ (as:List Addr) (j i:Nat),(mkv j as)[i]?=(as[i]?).map fun a=>((Sum.inl (keyZ (j+i)):Key),V.ref a)
 | [],_,_=>by simp [mkv]
 | b :: as,j,0=>rfl
 | b :: as,j,i+1=>by
  show (mkv (j+1) as)[i]?=(as[i]?).map _
  rw [mkv_at as (j+1) i,show j+1+i=j+(i+1) by omega]
theorem keyZ_bar (j:Nat):keyZ (bar j) = -keyZ j:=by
 unfold keyZ bar
 by_cases h:j % 2=0
 ·rw [if_pos h,if_pos h,if_neg (by omega)]
  have:(j+1) / 2=j / 2:=by omega
  rw [this]
 ·rw [if_neg h,if_neg h,if_pos (by omega)]
  have:(j-1) / 2=j / 2:=by omega
  rw [this]
  omega
structure MvNw (H H':Hp) (d:Addr) (M:Rows):Prop where
 ex:∃ as:List Addr,H' d=some (.dK (mkv 0 as))/\RowsAt H' as M/\H d=none/\∀ b∈as,H b=none
theorem MvNw.at_ {H H':Hp} {d:Addr} {M:Rows} (h:MvNw H H' d M):MvAt H' d M:=by
 obtain ⟨as,h1,h2,_⟩:=h.ex
 exact ⟨as,h1,h2⟩
def off (ws:List Addr) (H:Hp):Hp:=fun b=>if b∈ws then none else H b
theorem off_in {ws:List Addr} {H:Hp} {b:Addr} (h:b∈ws):off ws H b=none:=by unfold off;rw [if_pos h]
theorem off_not {ws:List Addr} {H:Hp} {b:Addr} (h:b∉ws):off ws H b=H b:=by unfold off;rw [if_neg h]
theorem off_same {ws:List Addr} {H:Hp}:Same (off ws H) H:=fun b o e=>by
 by_cases h:b∈ws
 ·rw [off_in h] at e;cases e
 ·rwa [off_not h] at e
theorem off_keep {ws:List Addr} {H H':Hp} (k:Keep ws H H'):Same (off ws H) (off ws H'):=fun b o e=>by
 by_cases h:b∈ws
 ·rw [off_in h] at e;cases e
 ·rw [off_not h] at e ⊢
  exact k b o e h
theorem RowsAt.mem {H:Hp} {as:List Addr} {M:Rows} (h:RowsAt H as M) {b:Addr} (hb:b∈as):∃ r,H b=some (.lst r):=by
 obtain ⟨j,hj⟩:=List.getElem?_of_mem hb
 have hl:=(List.getElem?_eq_some_iff.mp hj).1
 rw [h.len] at hl
 exact ⟨_,h.at_ j b _ hj (List.getElem?_eq_getElem hl)⟩
theorem MvNw.off {ws:List Addr} {H H':Hp} {d:Addr} {M:Rows} (h:MvNw H H' d M) (hw:∀ b∈ws,H b≠none):MvAt (off ws H') d M:=by
 obtain ⟨as,h1,h2,h3,h4⟩:=h.ex
 have hd:d∉ws:=fun z=>hw d z h3
 refine ⟨as,by rw [off_not hd];exact h1,h2.len,fun j b r e1 e2=>?_⟩
 have hb:b∉ws:=fun z=>hw b z (h4 b (List.mem_of_getElem? e1))
 rw [off_not hb]
 exact h2.at_ j b r e1 e2
theorem MvNw.mono {H0 H H' H2:Hp} {d:Addr} {M:Rows} (h:MvNw H H' d M) (s:Same H0 H) (s2:Same H' H2):MvNw H0 H2 d M:=by
 obtain ⟨as,h1,h2,h3,h4⟩:=h.ex
 have nn:∀ b,H b=none->H0 b=none:=fun b e=>by
  cases z:H0 b with
  | none=>rfl
  | some o=>rw [s b o z] at e;cases e
 exact ⟨as,s2 _ _ h1,h2.same s2,nn d h3,fun b hb=>nn b (h4 b hb)⟩
structure MvsNw (H H':Hp) (ds:List Addr) (Ms:List Rows):Prop where
 len:ds.length=Ms.length
 at_:∀ (i:Nat) (d:Addr) (M:Rows),ds[i]?=some d->Ms[i]?=some M->MvNw H H' d M
structure MvsAt (H:Hp) (ds:List Addr) (Ms:List Rows):Prop where
 len:ds.length=Ms.length
 at_:∀ (i:Nat) (d:Addr) (M:Rows),ds[i]?=some d->Ms[i]?=some M->MvAt H d M
theorem MvsAt.same {H H':Hp} {ds:List Addr} {Ms:List Rows} (h:MvsAt H ds Ms) (s:Same H H'):MvsAt H' ds Ms:=⟨h.len,fun i d M e1 e2=>(h.at_ i d M e1 e2).same s⟩
theorem MvsAt.app {H:Hp} {ds es:List Addr} {Ms Ns:List Rows} (h:MvsAt H ds Ms) (g:MvsAt H es Ns):MvsAt H (ds++es) (Ms++Ns):=by
 refine ⟨by rw [List.length_append,List.length_append,h.len,g.len],fun i d M e1 e2=>?_⟩
 by_cases hi:i<ds.length
 ·rw [List.getElem?_append_left hi] at e1
  rw [List.getElem?_append_left (by rw [<-h.len];exact hi)] at e2
  exact h.at_ i d M e1 e2
 ·rw [List.getElem?_append_right (by omega)] at e1
  rw [List.getElem?_append_right (by rw [<-h.len];omega),<-h.len] at e2
  exact g.at_ _ d M e1 e2
theorem MvsAt.one {H:Hp} {d:Addr} {M:Rows} (h:MvAt H d M):MvsAt H [d] [M]:=⟨rfl,fun i e N e1 e2=>by
 cases i with
 | zero=>cases e1;cases e2;exact h
 | succ i=>simp at e1⟩
theorem MvsAt.nil {H:Hp}:MvsAt H [] []:=⟨rfl,fun i e N e1 e2=>by simp at e1⟩
theorem MvsNw.nil {H H':Hp}:MvsNw H H' [] []:=⟨rfl,fun i e N e1 e2=>by simp at e1⟩
theorem MvsNw.snoc {H H':Hp} {ds:List Addr} {Ms:List Rows} {e:Addr} {N:Rows} (h:MvsNw H H' ds Ms) (g:MvNw H H' e N):MvsNw H H' (ds++[e]) (Ms++[N]):=by
 refine ⟨by simp [h.len],fun i d M e1 e2=>?_⟩
 by_cases hi:i<ds.length
 ·rw [List.getElem?_append_left hi] at e1
  rw [List.getElem?_append_left (by rw [<-h.len];exact hi)] at e2
  exact h.at_ i d M e1 e2
 ·rw [List.getElem?_append_right (by omega)] at e1
  rw [List.getElem?_append_right (by rw [<-h.len];omega),<-h.len] at e2
  cases hq:i-ds.length with
  | zero=>rw [hq] at e1 e2;cases e1;cases e2;exact g
  | succ n=>rw [hq] at e1;simp at e1
theorem MvsNw.off {ws:List Addr} {H H':Hp} {ds:List Addr} {Ms:List Rows} (h:MvsNw H H' ds Ms) (hw:∀ b∈ws,H b≠none):MvsAt (off ws H') ds Ms:=⟨h.len,fun i d M e1 e2=>(h.at_ i d M e1 e2).off hw⟩
theorem MvsNw.mono {H0 H H' H2:Hp} {ds:List Addr} {Ms:List Rows} (h:MvsNw H H' ds Ms) (s:Same H0 H) (s2:Same H' H2):MvsNw H0 H2 ds Ms:=⟨h.len,fun i d M e1 e2=>(h.at_ i d M e1 e2).mono s s2⟩
theorem MvsNw.keep {H H' H2:Hp} {ds:List Addr} {Ms:List Rows} {w:Addr} {o:HO} (h:MvsNw H H' ds Ms) (hw:H w=some o) (k:Keep [w] H' H2):MvsNw H H2 ds Ms:=⟨h.len,fun i d M e1 e2=>by
 obtain ⟨as,h1,h2,h3,h4⟩:=(h.at_ i d M e1 e2).ex
 have ne:∀ b,H b=none->b∉[w]:=fun b hb z=>by rw [List.mem_singleton.mp z,hw] at hb;cases hb
 exact ⟨as,k _ _ h1 (ne _ h3),⟨h2.len,fun j b r e1 e2=>k _ _ (h2.at_ j b r e1 e2) (ne b (h4 b (List.mem_of_getElem? e1)))⟩,h3,h4⟩⟩
theorem RowsAt.snoc {H:Hp} {as:List Addr} {M:Rows} {b:Addr} {r:List (Option Nat)} (h:RowsAt H as M) (e:H b=some (.lst (r.map ov))):RowsAt H (as++[b]) (M++[r]):=by
 refine ⟨by simp [h.len],fun j c x e1 e2=>?_⟩
 by_cases hj:j<as.length
 ·rw [List.getElem?_append_left hj] at e1
  rw [List.getElem?_append_left (by rw [<-h.len];exact hj)] at e2
  exact h.at_ j c x e1 e2
 ·rw [List.getElem?_append_right (by omega)] at e1
  rw [List.getElem?_append_right (by rw [<-h.len];omega),<-h.len] at e2
  cases hq:j-as.length with
  | zero=>
   rw [hq] at e1 e2
   cases e1
   cases e2
   exact e
  | succ n=>
   rw [hq] at e1
   simp at e1
theorem RowsAt.keep {H H':Hp} {as:List Addr} {M:Rows} {d:Addr} {kvs:List (Key × V)} (h:RowsAt H as M) (hd:H d=some (.dK kvs)) (k:Keep [d] H H'):RowsAt H' as M:=by
 refine ⟨h.len,fun j a r e1 e2=>?_⟩
 have z:=h.at_ j a r e1 e2
 exact k _ _ z (by simp only [List.mem_singleton];exact ne_of z hd (by intro q;cases q))
theorem RowsAt.put {H:Hp} {as:List Addr} {M:Rows} {j:Nat} {b:Addr} {r':List (Option Nat)} (h:RowsAt H as M) (nd:as.Nodup) (hb:as[j]?=some b):RowsAt (upd H b (.lst (r'.map ov))) as (M.set j r'):=by
 refine ⟨by rw [List.length_set];exact h.len,fun i c r e1 e2=>?_⟩
 by_cases hi:i=j
 ·subst hi
  rw [hb] at e1
  cases e1
  have hl:i<M.length:=by rw [<-h.len];exact (List.getElem?_eq_some_iff.mp hb).1
  rw [List.getElem?_set_self hl] at e2
  cases e2
  exact upd_same
 ·rw [List.getElem?_set_ne (fun z=>hi z.symm)] at e2
  have hc:c≠b:=fun z=>by
   rw [z] at e1
   exact hi (nd_ix nd e1 hb)
  rw [upd_ne hc]
  exact h.at_ i c r e1 e2
section
variable {P:Program} {w:World} {K:PySem.W.Frag} {mg:Str->Option Value} {base:Heap} {a:AD}
theorem firstM_succ (i:Nat):firstM (i+1)=firstM i++[[none]]++[[none]]:=by
 unfold firstM
 rw [show 2*(i+1)=2*i+1+1 by omega,List.replicate_succ',List.replicate_succ']
def spFirstMoves:Sp:=fun vs H Q _=>∃ k:Nat,vs=[.int k]/\k<=8/\∀ (H':Hp) (d:Addr),MvNw H H' d (firstM k)->Keep [] H H'->Q (.ref d) H'
theorem scFirstMoves:FnScope ["letters","moves","letter"] ["letters"] (defScope sFirstMoves):=⟨rfl,rfl,rfl,by decide +kernel,rfl,by decide +kernel,by decide +kernel⟩
theorem okFirstMoves (T:Tx K mg a):FnOk P w K mg base (CXE P w) 1 a.fFirstMoves a.dFirstMoves ["letters"] spFirstMoves:=by
 refine okE T.gFirstMoves.fn scFirstMoves (fun vs H Q E h=>?_) (fun cdv A outer s H vs Q E hr h=>?_)
 ·obtain ⟨k,rfl,_⟩:=h
  rfl
 ·obtain ⟨k,rfl,hk,kk⟩:=h
  have hu:=hu_of hr
  refine ⟨_,pss_cons (ps_set (i:=1) scFirstMoves.nd rfl (Or.inl rfl) (pe_dnewK)) (pss_cons (ps_for ownE rfl (pi_range2 rfl T.b_range (pa_cons pe_int (pa_cons (pe_op op_add (pv 0) pe_int) pa_nil))) (pg_name (i:=2) scFirstMoves.nd rfl (Or.inl rfl)) (pss_cons (ps_dput hu (pv 1) (pv 2) (pe_lst (pa_cons (pgi T.iNOWHERE) pa_nil)) rfl) (pss_one (ps_dput hu (pv 1) (pe_un un_neg (pv 2)) (pe_lst (pa_cons (pgi T.iNOWHERE) pa_nil)) rfl)))) (pss_one (ps_ret (pv 1)))),?_⟩
  intro d hd
  have s0:Same H (upd H d (.dK [])):=(Keep.new hd).same
  refine ⟨_,rfl,_,_,rfl,rfl,1,(k:Int)+1,rfl,⟨by decide,by decide,by omega,by omega⟩,?_⟩
  rw [show ((k:Int)+1-1).toNat=k by omega]
  refine for_range (lo:=1) (n:=k) (fun i σ H2=>∃ (v2:Option V) (as:List Addr),σ=[some (.int k),some (.ref d),v2]/\Same H H2/\H2 d=some (.dK (mkv 0 as))/\RowsAt H2 as (firstM i)/\∀ b∈as,H b=none)
   ⟨none,[],rfl,s0,upd_same,⟨rfl,fun j a r e=>by simp at e⟩,fun _ z=>absurd z (by simp)⟩ (fun i σ H2 hi hP=>?_) (fun σ H2 hP=>?_)
  ·obtain ⟨v2,as,rfl,s2,hd2,hR,hf⟩:=hP
   have hal:as.length=2*i:=by rw [hR.len];simp [firstM]
   have key1:(Sum.inl (1+(i:Int)):Key)=Sum.inl (keyZ (2*i)):=by unfold keyZ;rw [if_pos (by omega)];congr 1;omega
   have key2:(Sum.inl (-(1+(i:Int))):Key)=Sum.inl (keyZ (2*i+1)):=by unfold keyZ;rw [if_neg (by omega)];congr 1;omega
   refine ⟨(by show 1<=sizeLine;decide),fun l hl=>?_⟩
   have s3:Same H2 (upd H2 l (.lst [V.int (-1)])):=(Keep.new hl).same
   have hl3:(upd H2 l (.lst [V.int (-1)])) l=some (.lst [V.int (-1)]):=upd_same
   have nl:d≠l:=ne_of_none hd2 hl
   generalize upd H2 l (.lst [V.int (-1)])=H3 at s3 hl3
   refine ⟨_,rfl,_,rfl,d,_,rfl,DPut.k (k:=Sum.inl (1+(i:Int))) (s3 _ _ hd2) (by rw [mkv_len,hal];exact small1000' (by omega)),?_⟩
   have ep1:putK (mkv 0 as) (Sum.inl (1+(i:Int)):Key) (V.ref l)=mkv 0 (as++[l]):=by
    rw [key1,putK_new _ (mkv_none as 0 (2*i) (by omega)),mkv_snoc,hal,Nat.zero_add]
   rw [ep1]
   have k4:Keep [d] H3 (upd H3 d (.dK (mkv 0 (as++[l])))):=Keep.upd
   have hd4:(upd H3 d (.dK (mkv 0 (as++[l])))) d=some (.dK (mkv 0 (as++[l]))):=upd_same
   generalize upd H3 d (.dK (mkv 0 (as++[l])))=H4 at k4 hd4
   refine ⟨(by show 1<=sizeLine;decide),fun l2 hl2=>?_⟩
   have s5:Same H4 (upd H4 l2 (.lst [V.int (-1)])):=(Keep.new hl2).same
   have hl5:(upd H4 l2 (.lst [V.int (-1)])) l2=some (.lst [V.int (-1)]):=upd_same
   have nl2:d≠l2:=ne_of_none hd4 hl2
   generalize upd H4 l2 (.lst [V.int (-1)])=H5 at s5 hl5
   refine ⟨_,rfl,_,rfl,_,rfl,d,_,rfl,DPut.k (k:=Sum.inl (-(1+(i:Int)))) (s5 _ _ hd4) (by rw [mkv_len,List.length_append,hal];exact small1000' (by simp;omega)),?_⟩
   have ep2:putK (mkv 0 (as++[l])) (Sum.inl (-(1+(i:Int))):Key) (V.ref l2)=mkv 0 (as++[l]++[l2]):=by
    rw [key2,putK_new _ (mkv_none (as++[l]) 0 (2*i+1) (by simp;omega)),mkv_snoc (as++[l]),List.length_append,hal,Nat.zero_add]
    rfl
   rw [ep2]
   have k6:Keep [d] H5 (upd H5 d (.dK (mkv 0 (as++[l]++[l2])))):=Keep.upd
   have kall:Keep [d] H2 (upd H5 d (.dK (mkv 0 (as++[l]++[l2])))):=fun b o e nb=>k6 _ _ (s5 _ _ (k4 _ _ (s3 _ _ e) nb)) nb
   have nn:∀ b,H2 b=none->H b=none:=fun b e=>by
    cases z:H b with
    | none=>rfl
    | some o=>rw [s2 b o z] at e;cases e
   refine ⟨_,as++[l]++[l2],rfl,fun b o e=>kall b o (s2 _ _ e) (by simp only [List.mem_singleton];exact ne_of_none e hd),upd_same,?_,fun b hb=>?_⟩
   ·rw [firstM_succ]
    refine ((hR.keep hd2 kall).snoc ?_).snoc ?_
    ·exact k6 _ _ (s5 _ _ (k4 _ _ hl3 (by simp only [List.mem_singleton];exact nl.symm))) (by simp only [List.mem_singleton];exact nl.symm)
    ·exact k6 _ _ hl5 (by simp only [List.mem_singleton];exact nl2.symm)
   ·rcases List.mem_append.mp hb with z | z
    ·rcases List.mem_append.mp z with z | z
     ·exact hf b z
     ·rw [List.mem_singleton.mp z];exact nn l hl
    ·rw [List.mem_singleton.mp z]
     refine nn l2 ?_
     cases e:H2 l2 with
     | none=>rfl
     | some o=>
      have:=k4 _ _ (s3 _ _ e) (by simp only [List.mem_singleton];exact nl2.symm)
      rw [hl2] at this
      cases this
  ·obtain ⟨v2,as,rfl,s2,hd2,hR,hf⟩:=hP
   exact ⟨_,rfl,kk H2 d ⟨as,hd2,hR,hd,hf⟩ fun b o e _=>s2 b o e⟩
def spWithPlace:Sp:=fun vs H Q _=>∃ (d:Addr) (M:Rows) (k m:Nat),vs=[.ref d]/\MvAt H d M/\MvOk M k m/\k<=8/\m<=1000/\∀ (H':Hp) (e:Addr),MvNw H H' e (placeM M)->Keep [] H H'->Q (.ref e) H'
theorem scWithPlace:FnScope ["moves","larger","number","row"] ["moves"] (defScope sWithPlace):=⟨rfl,rfl,rfl,by decide +kernel,rfl,by decide +kernel,by decide +kernel⟩
theorem take_map_succ {α β:Type} (f:α->β) {l:List α} {i:Nat} {x:α} (h:l[i]?=some x):(l.take (i+1)).map f=(l.take i).map f++[f x]:=by
 rw [List.take_add_one,h,List.map_append]
 rfl
theorem okWithPlace (T:Tx K mg a):FnOk P w K mg base (CXE P w) 1 a.fWithPlace a.dWithPlace ["moves"] spWithPlace:=by
 refine okE T.gWithPlace.fn scWithPlace (fun vs H Q E h=>?_) (fun cdv A outer s H vs Q E hr h=>?_)
 ·obtain ⟨d,M,k,m,rfl,_⟩:=h
  rfl
 ·obtain ⟨d,M,k,m,rfl,hd,hM,hk,hm,kk⟩:=h
  have hu:=hu_of hr
  obtain ⟨as,h1,hR0⟩:=hd.ex
  have hal:as.length=2*k:=by rw [hR0.len,hM.len]
  refine ⟨_,pss_cons (ps_set (i:=1) scWithPlace.nd rfl (Or.inl rfl) (pe_dnewK)) (pss_cons (ps_lock (ps_for ownE rfl (pi_items (pv 0)) (pg_tup (n:=2) rfl (pgs_cons (pg_name (i:=2) scWithPlace.nd rfl (Or.inl rfl)) (pgs_cons (pg_name (i:=3) scWithPlace.nd rfl (Or.inl rfl)) pgs_nil))) (pss_one (ps_dput hu (pv 1) (pv 2) (pe_op op_cat (pv 3) (pe_lst (pa_cons (pgi T.iNOWHERE) pa_nil))) rfl)))) (pss_one (ps_ret (pv 1)))),?_⟩
  intro e he
  have ned:d≠e:=ne_of_none h1 he
  have s0:Same H (upd H e (.dK [])):=(Keep.new he).same
  have he0:(upd H e (.dK [])) e=some (.dK []):=upd_same
  generalize upd H e (.dK [])=H0 at s0 he0
  refine ⟨d,.dK (mkv 0 as),s0 _ _ h1,trivial,fun od=>?_⟩
  refine ⟨_,rfl,d,od,_,rfl,upd_same,?_⟩
  refine for_items (d:=d) (o:=od) (kvs:=mkv 0 as) (fun i σ H2=>∃ (v2 v3:Option V) (bs:List Addr),σ=[some (.ref d),some (.ref e),v2,v3]/\Keep [d] H H2/\H2 d=some (.frz od (.dK (mkv 0 as)))/\H2 e=some (.dK (mkv 0 bs))/\RowsAt H2 bs ((M.take i).map fun r=>r++[none])/\∀ b∈bs,H b=none)
   ⟨none,none,[],rfl,fun b o z nb=>by rw [upd_ne (fun y=>nb (by simp [y]))];exact s0 _ _ z,upd_same,by rw [upd_ne ned.symm];exact he0,⟨rfl,fun j a r e=>by simp at e⟩,fun _ z=>absurd z (by simp)⟩
   (fun i σ H2 _ ⟨_,_,_,_,_,z,_⟩=>z) ?_ ?_
  ·rintro i ky v σ H2 T0 hi ⟨v2,v3,bs,rfl,k2,hd2,he2,hR,hf⟩ hT
   rw [mkv_at] at hi
   obtain ⟨c,hc,hcv⟩:∃ c,as[i]?=some c/\((Sum.inl (keyZ (0+i)):Key),V.ref c)=(ky,v):=by
    cases z:as[i]? with
    | none=>rw [z] at hi;cases hi
    | some c=>rw [z] at hi;exact ⟨c,rfl,Option.some.inj hi⟩
   cases hcv
   rw [Nat.zero_add]
   have hil:=(List.getElem?_eq_some_iff.mp hc).1
   have hiM:i<M.length:=by rw [<-hR0.len];exact hil
   have hrow:=hR0.at_ i c _ hc (List.getElem?_eq_getElem hiM)
   have ncd:c≠d:=ne_of hrow h1 (by intro z;cases z)
   have s3:Same H2 (upd H2 T0 (.tup [kV (Sum.inl (keyZ i)),V.ref c])):=(Keep.new hT).same
   have hT3:(upd H2 T0 (.tup [kV (Sum.inl (keyZ i)),V.ref c])) T0=some (.tup [V.int (keyZ i),V.ref c]):=upd_same
   generalize upd H2 T0 (.tup [kV (Sum.inl (keyZ i)),V.ref c])=H3 at s3 hT3
   refine ⟨T0,_,rfl,SqT.of hT3,rfl,_,_,rfl,_,_,rfl,rfl,?_⟩
   have hrow3:=s3 _ _ (k2 _ _ hrow (by simp only [List.mem_singleton];exact ncd))
   refine ⟨_,rfl,(by show 1<=sizeLine;decide),fun l hl=>?_⟩
   have s4:Same H3 (upd H3 l (.lst [V.int (-1)])):=(Keep.new hl).same
   have hl4:(upd H3 l (.lst [V.int (-1)])) l=some (.lst [V.int (-1)]):=upd_same
   generalize upd H3 l (.lst [V.int (-1)])=H4 at s4 hl4
   refine ⟨c,l,_,_,rfl,rfl,s4 _ _ hrow3,hl4,by rw [List.length_map,hM.row _ (List.getElem_mem hiM)];show m+1<=sizeLine;exact Nat.le_of_lt (small1000' (by omega)),fun q hq=>?_⟩
   have erow:(M[i].map ov)++[V.int (-1)]=(M[i]++[none]).map ov:=by rw [List.map_append];rfl
   rw [erow]
   have s5:Same H4 (upd H4 q (.lst ((M[i]++[none]).map ov))):=(Keep.new hq).same
   have hq5:(upd H4 q (.lst ((M[i]++[none]).map ov))) q=some (.lst ((M[i]++[none]).map ov)):=upd_same
   generalize upd H4 q (.lst ((M[i]++[none]).map ov))=H5 at s5 hq5
   have s25:Same H2 H5:=fun b o z=>s5 _ _ (s4 _ _ (s3 _ _ z))
   have he5:=s25 _ _ he2
   have hbl:bs.length=i:=by rw [hR.len,List.length_map,List.length_take];omega
   refine ⟨_,rfl,_,rfl,e,_,rfl,DPut.k (k:=Sum.inl (keyZ i)) he5 (by rw [mkv_len,hbl];exact small1000' (by omega)),?_⟩
   have ep:putK (mkv 0 bs) (Sum.inl (keyZ i):Key) (V.ref q)=mkv 0 (bs++[q]):=by
    rw [putK_new _ (mkv_none bs 0 i (by omega)),mkv_snoc,hbl,Nat.zero_add]
   rw [ep]
   have nqe:q≠e:=(ne_of_none (s4 _ _ (s3 _ _ he2)) hq).symm
   have k6:Keep [e] H5 (upd H5 e (.dK (mkv 0 (bs++[q])))):=Keep.upd
   have hq2:H2 q=none:=by
    cases z:H2 q with
    | none=>rfl
    | some o=>rw [s4 _ _ (s3 _ _ z)] at hq;cases hq
   have nqd:q≠d:=fun z=>by rw [z,hd2] at hq2;cases hq2
   refine ⟨_,_,bs++[q],rfl,fun b o z nb=>k6 _ _ (s25 _ _ (k2 b o z nb)) (by simp only [List.mem_singleton];exact ne_of_none z he),?_,upd_same,?_,fun b hb=>?_⟩
   ·exact k6 _ _ (s25 _ _ hd2) (by simp only [List.mem_singleton];exact ned)
   ·rw [take_map_succ _ (List.getElem?_eq_getElem hiM)]
    refine RowsAt.snoc ?_ (k6 _ _ hq5 (by simp only [List.mem_singleton];exact nqe))
    exact hR.keep he2 fun b o z nb=>k6 _ _ (s25 _ _ z) nb
   ·rcases List.mem_append.mp hb with z | z
    ·exact hf b z
    ·rw [List.mem_singleton.mp z]
     cases y:H q with
     | none=>rfl
     | some o=>
      rw [k2 q o y (by simp only [List.mem_singleton];exact nqd)] at hq2
      cases hq2
  ·rintro σ H2 ⟨v2,v3,bs,rfl,k2,hd2,he2,hR,hf⟩
   refine ⟨hd2,⟨_,rfl,?_⟩⟩
   have eM:(M.take (mkv 0 as).length).map (fun r=>r++[none])=placeM M:=by rw [mkv_len,hR0.len,List.take_length];rfl
   rw [eM] at hR
   refine kk _ e ⟨bs,by rw [upd_ne ned.symm];exact he2,⟨hR.len,fun j b r e1 e2=>?_⟩,he,hf⟩ fun b o z _=>?_
   ·have z:=hR.at_ j b r e1 e2
    rw [upd_ne (ne_of z hd2 (by intro y;cases y))]
    exact z
   ·by_cases hb:b=d
    ·rw [hb,upd_same]
     rw [hb,h1] at z
     exact z
    ·rw [upd_ne hb]
     exact k2 b o z (by simp only [List.mem_singleton];exact hb)
end
end Gw
set_option Elab.async false
set_option linter.all false
set_option maxRecDepth 100000
set_option maxHeartbeats 8000000
namespace Gw
open PySem PySem.Spec PyProof.Rows L2
theorem nodup_snoc {l:List Addr} {x:Addr} (h:l.Nodup) (hx:x∉l):(l++[x]).Nodup:=by
 rw [List.nodup_append]
 refine ⟨h,by simp,fun a ha b hb=>?_⟩
 rw [List.mem_singleton.mp hb]
 intro e
 exact hx (e ▸ ha)
theorem rowD {M:Rows} {j:Nat} {r:List (Option Nat)} (h:M[j]?=some r):M.getD j []=r:=by rw [List.getD_eq_getElem?_getD,h];rfl
theorem setM_eq {M:Rows} {j:Nat} (h:j<M.length) (p q:Nat):setM M j p q=M.set j (M[j].set p (some q)):=by unfold setM;rw [rowD (List.getElem?_eq_getElem h)]
theorem ixN_nat {n p:Nat} (h:p<n):ixN n (p:Int)=some p:=by
 unfold ixN
 rw [if_pos (by omega),if_pos (by omega)]
 rfl
section
variable {P:Program} {w:World} {K:PySem.W.Frag} {mg:Str->Option Value} {base:Heap} {a:AD}
def spWithStep:Sp:=fun vs H Q _=>∃ (d:Addr) (M:Rows) (k m p j q:Nat),vs=[.ref d,.int p,.int (keyZ j),.int q]/\MvAt H d M/\MvOk M k m/\k<=8/\m<=1000/\j<2*k/\p<m/\q<m/\∀ (H':Hp) (e:Addr),MvNw H H' e (stepM M j p q)->Keep [] H H'->Q (.ref e) H'
theorem scWithStep:FnScope ["moves","place","number","target","stepped","other","row"] ["moves","place","number","target"] (defScope sWithStep):=⟨rfl,rfl,rfl,by decide +kernel,rfl,by decide +kernel,by decide +kernel⟩
theorem okWithStep (T:Tx K mg a):FnOk P w K mg base (CXE P w) 1 a.fWithStep a.dWithStep ["moves","place","number","target"] spWithStep:=by
 refine okE T.gWithStep.fn scWithStep (fun vs H Q E h=>?_) (fun cdv A outer s H vs Q E hr h=>?_)
 ·obtain ⟨d,M,k,m,p,j,q,rfl,_⟩:=h
  rfl
 ·obtain ⟨d,M,k,m,p,j,q,rfl,hd,hM,hk,hm,hj,hp,hq,kk⟩:=h
  have hu:=hu_of hr
  obtain ⟨as,h1,hR0⟩:=hd.ex
  have hal:as.length=2*k:=by rw [hR0.len,hM.len]
  refine ⟨_,pss_cons (ps_set (i:=4) scWithStep.nd rfl (Or.inl rfl) (pe_dnewK)) (pss_cons (ps_lock (ps_for ownE rfl (pi_items (pv 0)) (pg_tup (n:=2) rfl (pgs_cons (pg_name (i:=5) scWithStep.nd rfl (Or.inl rfl)) (pgs_cons (pg_name (i:=6) scWithStep.nd rfl (Or.inl rfl)) pgs_nil))) (pss_one (ps_dput hu (pv 4) (pv 5) (pe_callTy call_list_of (by rfl) T.b_list bootList' (pa_cons (pv 6) pa_nil)) rfl)))) (pss_cons (ps_asg (pv 3) (pg_sub (pe_dget hu (pv 4) (pv 2) (fun _ _=>rfl)) (pv 1) set_list)) (pss_cons (ps_asg (pv 1) (pg_sub (pe_dget hu (pv 4) (pe_un un_neg (pv 2)) (fun _ _=>rfl)) (pv 3) set_list)) (pss_one (ps_ret (pv 4)))))),?_⟩
  intro e he
  have ned:d≠e:=ne_of_none h1 he
  have s0:Same H (upd H e (.dK [])):=(Keep.new he).same
  have he0:(upd H e (.dK [])) e=some (.dK []):=upd_same
  generalize upd H e (.dK [])=H0 at s0 he0
  refine ⟨d,.dK (mkv 0 as),s0 _ _ h1,trivial,fun od=>?_⟩
  refine ⟨_,rfl,d,od,_,rfl,upd_same,?_⟩
  refine for_items (d:=d) (o:=od) (kvs:=mkv 0 as) (fun i σ H2=>∃ (v5 v6:Option V) (bs:List Addr),σ=[some (.ref d),some (.int p),some (.int (keyZ j)),some (.int q),some (.ref e),v5,v6]/\Keep [d] H H2/\H2 d=some (.frz od (.dK (mkv 0 as)))/\H2 e=some (.dK (mkv 0 bs))/\RowsAt H2 bs (M.take i)/\bs.Nodup/\∀ b∈bs,H b=none)
   ⟨none,none,[],rfl,fun b o z nb=>by rw [upd_ne (fun y=>nb (by simp [y]))];exact s0 _ _ z,upd_same,by rw [upd_ne ned.symm];exact he0,⟨rfl,fun j a r e=>by simp at e⟩,List.nodup_nil,fun _ z=>absurd z (by simp)⟩
   (fun i σ H2 _ ⟨_,_,_,_,_,z,_⟩=>z) ?_ ?_
  ·rintro i ky v σ H2 T0 hi ⟨v5,v6,bs,rfl,k2,hd2,he2,hR,hnd,hf⟩ hT
   rw [mkv_at] at hi
   obtain ⟨c,hc,hcv⟩:∃ c,as[i]?=some c/\((Sum.inl (keyZ (0+i)):Key),V.ref c)=(ky,v):=by
    cases z:as[i]? with
    | none=>rw [z] at hi;cases hi
    | some c=>rw [z] at hi;exact ⟨c,rfl,Option.some.inj hi⟩
   cases hcv
   rw [Nat.zero_add]
   have hil:=(List.getElem?_eq_some_iff.mp hc).1
   have hiM:i<M.length:=by rw [<-hR0.len];exact hil
   have hrow:=hR0.at_ i c _ hc (List.getElem?_eq_getElem hiM)
   have ncd:c≠d:=ne_of hrow h1 (by intro z;cases z)
   have s3:Same H2 (upd H2 T0 (.tup [kV (Sum.inl (keyZ i)),V.ref c])):=(Keep.new hT).same
   have hT3:(upd H2 T0 (.tup [kV (Sum.inl (keyZ i)),V.ref c])) T0=some (.tup [V.int (keyZ i),V.ref c]):=upd_same
   generalize upd H2 T0 (.tup [kV (Sum.inl (keyZ i)),V.ref c])=H3 at s3 hT3
   refine ⟨T0,_,rfl,SqT.of hT3,rfl,_,_,rfl,_,_,rfl,rfl,?_⟩
   have hrow3:=s3 _ _ (k2 _ _ hrow (by simp only [List.mem_singleton];exact ncd))
   refine ⟨_,rfl,c,_,rfl,.inl (SqL.of hrow3),fun l hl=>?_⟩
   have s4:Same H3 (upd H3 l (.lst (M[i].map ov))):=(Keep.new hl).same
   have hl4:(upd H3 l (.lst (M[i].map ov))) l=some (.lst (M[i].map ov)):=upd_same
   generalize upd H3 l (.lst (M[i].map ov))=H4 at s4 hl4
   have s24:Same H2 H4:=fun b o z=>s4 _ _ (s3 _ _ z)
   have he4:=s24 _ _ he2
   have hbl:bs.length=i:=by rw [hR.len,List.length_take];omega
   refine ⟨_,rfl,_,rfl,e,_,rfl,DPut.k (k:=Sum.inl (keyZ i)) he4 (by rw [mkv_len,hbl];exact small1000' (by omega)),?_⟩
   have ep:putK (mkv 0 bs) (Sum.inl (keyZ i):Key) (V.ref l)=mkv 0 (bs++[l]):=by
    rw [putK_new _ (mkv_none bs 0 i (by omega)),mkv_snoc,hbl,Nat.zero_add]
   rw [ep]
   have nle:l≠e:=(ne_of_none (s3 _ _ he2) hl).symm
   have k6:Keep [e] H4 (upd H4 e (.dK (mkv 0 (bs++[l])))):=Keep.upd
   have hl2:H2 l=none:=by
    cases z:H2 l with
    | none=>rfl
    | some o=>rw [s3 _ _ z] at hl;cases hl
   have nld:l≠d:=fun z=>by rw [z,hd2] at hl2;cases hl2
   have nlb:l∉bs:=fun z=>by
    obtain ⟨r,hr⟩:=hR.mem z
    rw [hl2] at hr
    cases hr
   refine ⟨_,_,bs++[l],rfl,fun b o z nb=>k6 _ _ (s24 _ _ (k2 b o z nb)) (by simp only [List.mem_singleton];exact ne_of_none z he),?_,upd_same,?_,nodup_snoc hnd nlb,fun b hb=>?_⟩
   ·exact k6 _ _ (s24 _ _ hd2) (by simp only [List.mem_singleton];exact ned)
   ·rw [List.take_add_one,List.getElem?_eq_getElem hiM]
    refine RowsAt.snoc ?_ (k6 _ _ hl4 (by simp only [List.mem_singleton];exact nle))
    exact hR.keep he2 fun b o z nb=>k6 _ _ (s24 _ _ z) nb
   ·rcases List.mem_append.mp hb with z | z
    ·exact hf b z
    ·rw [List.mem_singleton.mp z]
     cases y:H l with
     | none=>rfl
     | some o=>
      rw [k2 l o y (by simp only [List.mem_singleton];exact nld)] at hl2
      cases hl2
  ·rintro σ H2 ⟨v5,v6,bs,rfl,k2,hd2,he2,hR,hnd,hf⟩
   refine ⟨hd2,?_⟩
   have eM:M.take (mkv 0 as).length=M:=by rw [mkv_len,hR0.len,List.take_length]
   rw [eM] at hR
   have he3:(upd H2 d (.dK (mkv 0 as))) e=some (.dK (mkv 0 bs)):=by rw [upd_ne ned.symm];exact he2
   have hR3:RowsAt (upd H2 d (.dK (mkv 0 as))) bs M:=⟨hR.len,fun j b r e1 e2=>by
    have z:=hR.at_ j b r e1 e2
    rw [upd_ne (ne_of z hd2 (by intro y;cases y))]
    exact z⟩
   have k3:Same H (upd H2 d (.dK (mkv 0 as))):=fun b o z=>by
    by_cases hb:b=d
    ·rw [hb,upd_same]
     rw [hb,h1] at z
     exact z
    ·rw [upd_ne hb]
     exact k2 b o z (by simp only [List.mem_singleton];exact hb)
   generalize upd H2 d (.dK (mkv 0 as))=H3 at he3 hR3 k3
   have hjM:j<M.length:=by rw [hM.len];exact hj
   have hjb:j<bs.length:=by rw [hR3.len];exact hjM
   have hrj:=hR3.at_ j _ _ (List.getElem?_eq_getElem hjb) (List.getElem?_eq_getElem hjM)
   have g1:DGet H3 e (.int (keyZ j)) (some (.ref bs[j])):=by
    have z:=DGet.k (k:=Sum.inl (keyZ j)) he3
    have y:=mkv_get bs 0 j bs[j] (List.getElem?_eq_getElem hjb)
    rw [Nat.zero_add] at y
    rw [y] at z
    exact z
   refine ⟨_,rfl,_,rfl,_,rfl,e,_,rfl,g1,_,rfl,bs[j],_,_,p,rfl,rfl,hrj,by rw [List.length_map,hM.row _ (List.getElem_mem hjM)];exact ixN_nat hp,?_⟩
   have eset:(M[j].map ov).set p (V.int (q:Int))=(M[j].set p (some q)).map ov:=by rw [List.map_set];rfl
   rw [eset]
   have e4:setM M j p q=M.set j (M[j].set p (some q)):=by unfold setM;rw [rowD (List.getElem?_eq_getElem hjM)]
   have hR4:RowsAt (upd H3 bs[j] (.lst ((M[j].set p (some q)).map ov))) bs (setM M j p q):=by
    rw [e4]
    exact hR3.put hnd (List.getElem?_eq_getElem hjb)
   have nej:e≠bs[j]:=fun z=>by rw [<-z,he3] at hrj;cases hrj
   have he4:(upd H3 bs[j] (.lst ((M[j].set p (some q)).map ov))) e=some (.dK (mkv 0 bs)):=by rw [upd_ne nej];exact he3
   have k4:Same H (upd H3 bs[j] (.lst ((M[j].set p (some q)).map ov))):=fun b o z=>by
    have:b≠bs[j]:=fun y=>by
     have:=hf bs[j] (List.getElem_mem hjb)
     rw [<-y,z] at this
     cases this
    rw [upd_ne this]
    exact k3 b o z
   generalize upd H3 bs[j] (.lst ((M[j].set p (some q)).map ov))=H4 at hR4 he4 k4
   have ok1:=setM_ok (p:=p) hM hj hq
   have hb2:=bar_lt hj
   have hjM2:bar j<(setM M j p q).length:=by rw [ok1.len];exact hb2
   have hjb2:bar j<bs.length:=by rw [hR4.len];exact hjM2
   have hrj2:=hR4.at_ (bar j) _ _ (List.getElem?_eq_getElem hjb2) (List.getElem?_eq_getElem hjM2)
   have g2:DGet H4 e (.int (-keyZ j)) (some (.ref bs[bar j])):=by
    rw [<-keyZ_bar]
    have z:=DGet.k (k:=Sum.inl (keyZ (bar j))) he4
    have y:=mkv_get bs 0 (bar j) bs[bar j] (List.getElem?_eq_getElem hjb2)
    rw [Nat.zero_add] at y
    rw [y] at z
    exact z
   refine ⟨_,rfl,_,rfl,_,rfl,_,rfl,e,_,rfl,g2,_,rfl,bs[bar j],_,_,q,rfl,rfl,hrj2,by rw [List.length_map,ok1.row _ (List.getElem_mem hjM2)];exact ixN_nat hq,?_⟩
   have eset2:((setM M j p q)[bar j].map ov).set q (V.int (p:Int))=((setM M j p q)[bar j].set q (some p)).map ov:=by rw [List.map_set];rfl
   rw [eset2]
   have e5:stepM M j p q=(setM M j p q).set (bar j) ((setM M j p q)[bar j].set q (some p)):=setM_eq hjM2 q p
   refine ⟨_,rfl,kk _ e ⟨bs,?_,?_,he,hf⟩ fun b o z _=>?_⟩
   ·have:e≠bs[bar j]:=fun z=>by rw [<-z,he4] at hrj2;cases hrj2
    rw [upd_ne this]
    exact he4
   ·rw [e5]
    exact hR4.put hnd (List.getElem?_eq_getElem hjb2)
   ·have:b≠bs[bar j]:=fun y=>by
     have:=hf bs[bar j] (List.getElem_mem hjb2)
     rw [<-y,z] at this
     cases this
    rw [upd_ne this]
    exact k4 b o z
theorem find_is {β:Type} {f:Nat->Option β} {n i:Nat} {b:β} (hi:i<n) (e:f i=some b) (h:∀ i',i'<i->f i'=none):(List.range n).findSome? f=some b:=by
 cases z:(List.range n).findSome? f with
 | none=>
  have:=findSome_none z i (List.mem_range.mpr hi)
  rw [e] at this
  cases this
 | some c=>
  obtain ⟨i0,h1,h2,h3⟩:=find_range z
  have e0:i0=i:=by
   rcases Nat.lt_trichotomy i0 i with y | y | y
   ·rw [h i0 y] at h2;cases h2
   ·exact y
   ·rw [h3 i y] at e;cases e
  rw [e0,e] at h2
  exact h2.symm
theorem firstU_is {M:Rows} {k m p j:Nat} (hp:p<m) (hj:j<2*k) (h1:∀ p',p'<p->∀ j',j'<2*k->getM M j' p'≠none) (h2:∀ j',j'<j->getM M j' p≠none) (h3:getM M j p=none):firstU M k m=some (p,j):=by
 unfold firstU
 refine find_is hp (find_is hj (by rw [if_pos h3]) fun j' hj'=>by rw [if_neg (h2 j' hj')]) fun p' hp'=>?_
 rw [List.findSome?_eq_none_iff]
 intro j' hj'
 rw [if_neg (h1 p' hp' j' (List.mem_range.mp hj'))]
theorem firstU_no {M:Rows} {k m:Nat} (h:∀ p,p<m->∀ j,j<2*k->getM M j p≠none):firstU M k m=none:=by
 unfold firstU
 rw [List.findSome?_eq_none_iff]
 intro p hp
 rw [List.findSome?_eq_none_iff]
 intro j hj
 rw [if_neg (h p (List.mem_range.mp hp) j (List.mem_range.mp hj))]
def spFirstUnknown:Sp:=fun vs H Q _=>∃ (d:Addr) (M:Rows) (k m:Nat),vs=[.ref d]/\MvAt H d M/\MvOk M k m/\0<k/\k<=8/\m<=1000/\(firstU M k m=none->∀ H',Keep [] H H'->Q .non H') /\
 ∀ p j,firstU M k m=some (p,j)->∀ (H':Hp) (t:Addr),H' t=some (.tup [.int p,.int (keyZ j)])->Keep [] H H'->Q (.ref t) H'
theorem scFirstUnknown:FnScope ["moves","place","number","row"] ["moves"] (defScope sFirstUnknown):=⟨rfl,rfl,rfl,by decide +kernel,rfl,by decide +kernel,by decide +kernel⟩
theorem okFirstUnknown (T:Tx K mg a):FnOk P w K mg base (CXE P w) 2 a.fFirstUnknown a.dFirstUnknown ["moves"] spFirstUnknown:=by
 have GP:FnOk P w K mg base (CXE P w) 1 a.fPlacesOf a.dPlacesOf ["moves"] spPlacesOf:=okPlacesOf T
 refine okE T.gFirstUnknown.fn scFirstUnknown (fun vs H Q E h=>?_) (fun cdv A outer s H vs Q E hr h=>?_)
 ·obtain ⟨d,M,k,m,rfl,_⟩:=h
  rfl
 ·obtain ⟨d,M,k,m,rfl,hd,hM,hk0,hk,hm,k1,k2⟩:=h
  obtain ⟨as,h1,hR0⟩:=id hd.ex
  have hal:as.length=2*k:=by rw [hR0.len,hM.len]
  refine ⟨_,pss_cons (ps_for ownE rfl (pi_range1 rfl T.b_range (pa_cons (pe_call GP hr rfl T.gPlacesOf.mg T.gPlacesOf.fn.kp T.gPlacesOf.bd .nil passE (pa_cons (pv 0) (pa_nil))) pa_nil)) (pg_name (i:=1) scFirstUnknown.nd rfl (Or.inl rfl))
    (pss_one (ps_lock (ps_for ownE rfl (pi_items (pv 0)) (pg_tup (n:=2) rfl (pgs_cons (pg_name (i:=2) scFirstUnknown.nd rfl (Or.inl rfl)) (pgs_cons (pg_name (i:=3) scFirstUnknown.nd rfl (Or.inl rfl)) pgs_nil)))
     (pss_one (ps_if (pt_cmpR op_eq (pe_ix ix_list (pv 3) (pv 1) (fun _ _=>rfl)) (pgi T.iNOWHERE) (nomark _)) (pss_one (ps_ret (pe_tup (pa_cons (pv 1) (pa_cons (pv 2) pa_nil))))) pss_nil))))))
   (pss_one (ps_ret pe_non)),?_⟩
  refine ⟨_,rfl,d,M,k,m,rfl,hd,hM,hk0,(m:Int),rfl,by omega,by omega,?_⟩
  rw [Int.toNat_natCast]
  refine for_range (lo:=0) (n:=m) (fun i σ H2=>Same H H2/\∃ v1 v2 v3:Option V,σ=[some (.ref d),v1,v2,v3]/\∀ p',p'<i->∀ j',j'<2*k->getM M j' p'≠none)
   ⟨fun _ _ z=>z,none,none,none,rfl,fun p' hp'=>by omega⟩ (fun i σ H2 hi hP=>?_) (fun σ H2 hP=>?_)
  ·obtain ⟨s2,v1,v2,v3,rfl,hkn⟩:=hP
   rw [Int.zero_add]
   refine ⟨d,.dK (mkv 0 as),s2 _ _ h1,trivial,fun od=>?_⟩
   refine ⟨_,rfl,d,od,_,rfl,upd_same,?_⟩
   refine for_items (d:=d) (o:=od) (kvs:=mkv 0 as) (fun j σ H3=>∃ v2 v3:Option V,σ=[some (.ref d),some (.int (i:Int)),v2,v3]/\Keep [d] H H3/\H3 d=some (.frz od (.dK (mkv 0 as)))/\∀ j',j'<j->getM M j' i≠none)
    ⟨v2,v3,rfl,fun b o z nb=>by rw [upd_ne (fun y=>nb (by simp [y]))];exact s2 _ _ z,upd_same,fun j' hj'=>by omega⟩ (fun j σ H3 _ ⟨_,_,_,_,z,_⟩=>z) ?_ ?_
   ·rintro j ky v σ H3 T0 hj ⟨v2,v3,rfl,k3,hd3,hk3⟩ hT
    rw [mkv_at] at hj
    obtain ⟨c,hc,hcv⟩:∃ c,as[j]?=some c/\((Sum.inl (keyZ (0+j)):Key),V.ref c)=(ky,v):=by
     cases z:as[j]? with
     | none=>rw [z] at hj;cases hj
     | some c=>rw [z] at hj;exact ⟨c,rfl,Option.some.inj hj⟩
    cases hcv
    rw [Nat.zero_add]
    have hjl:=(List.getElem?_eq_some_iff.mp hc).1
    have hjM:j<M.length:=by rw [<-hR0.len];exact hjl
    have hrow:=hR0.at_ j c _ hc (List.getElem?_eq_getElem hjM)
    have ncd:c≠d:=ne_of hrow h1 (by intro z;cases z)
    have s4:Same H3 (upd H3 T0 (.tup [kV (Sum.inl (keyZ j)),V.ref c])):=(Keep.new hT).same
    have hT4:(upd H3 T0 (.tup [kV (Sum.inl (keyZ j)),V.ref c])) T0=some (.tup [V.int (keyZ j),V.ref c]):=upd_same
    generalize upd H3 T0 (.tup [kV (Sum.inl (keyZ j)),V.ref c])=H4 at s4 hT4
    refine ⟨T0,_,rfl,SqT.of hT4,rfl,_,_,rfl,_,_,rfl,rfl,?_⟩
    have hrow4:=s4 _ _ (k3 _ _ hrow (by simp only [List.mem_singleton];exact ncd))
    have hrl:i<M[j].length:=by rw [hM.row _ (List.getElem_mem hjM)];exact hi
    have e4:=ovs_at hrl
    rw [<-getM_of (List.getElem?_eq_getElem hjM) i] at e4
    refine ⟨_,rfl,_,rfl,c,_,_,_,rfl,rfl,SqL.of hrow4,e4,?_⟩
    refine ⟨rfl,_,rfl,?_⟩
    cases hg:getM M j i with
    | none=>
     refine iteT ?_
     refine ⟨_,rfl,_,rfl,(by show 2<=sizeLine;decide),fun t ht=>?_⟩
     have ntd:d≠t:=ne_of_none (s4 _ _ hd3) ht
     refine ⟨by rw [upd_ne ntd];exact s4 _ _ hd3,?_⟩
     refine k2 i j (firstU_is hi (by omega) hkn hk3 hg) _ t (by rw [upd_ne ntd.symm];exact upd_same) fun b o z _=>?_
     by_cases hb:b=d
     ·rw [hb,upd_same]
      rw [hb,h1] at z
      exact z
     ·have z3:=s4 _ _ (k3 b o z (by simp only [List.mem_singleton];exact hb))
      rw [upd_ne hb,upd_ne (ne_of_none z3 ht)]
      exact z3
    | some q'=>
     refine iteF' ?_ ?_
     ·exact decide_eq_false fun z=>by
       have z2:oz (some q') = -1:=V.int.inj z
       rw [oz_none] at z2
       cases z2
     ·refine ⟨_,_,rfl,fun b o z nb=>s4 _ _ (k3 b o z nb),s4 _ _ hd3,fun j' hj'=>?_⟩
      by_cases e:j'=j
      ·rw [e,hg];simp
      ·exact hk3 j' (by omega)
   ·rintro σ H3 ⟨v2,v3,rfl,k3,hd3,hk3⟩
    rw [mkv_len,hal] at hk3
    refine ⟨hd3,fun b o z=>?_,_,_,_,rfl,fun p' hp' j' hj'=>?_⟩
    ·by_cases hb:b=d
     ·rw [hb,upd_same]
      rw [hb,h1] at z
      exact z
     ·rw [upd_ne hb]
      exact k3 b o z (by simp only [List.mem_singleton];exact hb)
    ·by_cases e:p'=i
     ·rw [e];exact hk3 j' hj'
     ·exact hkn p' (by omega) j' hj'
  ·obtain ⟨s2,v1,v2,v3,rfl,hkn⟩:=hP
   exact k1 (firstU_no hkn) H2 fun b o z _=>s2 b o z
end
end Gw
set_option Elab.async false
set_option linter.all false
set_option maxRecDepth 100000
set_option maxHeartbeats 8000000
namespace Gw
open PySem PySem.Spec PyProof.Rows L2
theorem bootTuple':bootBuiltins "tuple" = some (.type "tuple"):=by decide +kernel
theorem MvNw.mono2 {H0 H H' H2:Hp} {d:Addr} {M:Rows} (h:MvNw H H' d M) (nn:∀ b,H b=none->H0 b=none) (s2:Same H' H2):MvNw H0 H2 d M:=by
 obtain ⟨as,h1,h2,h3,h4⟩:=h.ex
 exact ⟨as,s2 _ _ h1,h2.same s2,nn d h3,fun b hb=>nn b (h4 b hb)⟩
theorem none_of_keep {w:Addr} {o:HO} {H H2:Hp} (k:Keep [w] H H2) (hw:H2 w=some o):∀ b,H2 b=none->H b=none:=fun b e=>by
 cases z:H b with
 | none=>rfl
 | some u=>
  by_cases hb:b=w
  ·rw [hb,hw] at e;cases e
  ·rw [k b u z (by simp only [List.mem_singleton];exact hb)] at e;cases e
section
variable {P:Program} {w:World} {K:PySem.W.Frag} {mg:Str->Option Value} {base:Heap} {a:AD}
def freeT (M:Rows) (j:Nat) (t:Nat):Bool:=decide (getM M (bar j) t=none)
def spAllWays:Sp:=fun vs H Q _=>∃ (d:Addr) (M:Rows) (k m p j most:Nat),vs=[.ref d,.int p,.int (keyZ j),.int most]/\MvAt H d M/\MvOk M k m/\0<k/\k<=8/\m<=most/\most<=8/\j<2*k/\p<m /\
 ∀ (H':Hp) (l:Addr) (ds:List Addr),H' l=some (.lst (ds.map V.ref))->H l=none->MvsNw H H' ds (kids M k m most p j)->Keep [] H H'->Q (.ref l) H'
theorem scAllWays:FnScope ["moves","place","number","most","places","ways","target"] ["moves","place","number","most"] (defScope sAllWays):=⟨rfl,rfl,rfl,by decide +kernel,rfl,by decide +kernel,by decide +kernel⟩
theorem okAllWays (T:Tx K mg a):FnOk P w K mg base (CXE P w) 2 a.fAllWays a.dAllWays ["moves","place","number","most"] spAllWays:=by
 have GP:FnOk P w K mg base (CXE P w) 1 a.fPlacesOf a.dPlacesOf ["moves"] spPlacesOf:=okPlacesOf T
 have GS:FnOk P w K mg base (CXE P w) 1 a.fWithStep a.dWithStep ["moves","place","number","target"] spWithStep:=okWithStep T
 have GL:FnOk P w K mg base (CXE P w) 1 a.fWithPlace a.dWithPlace ["moves"] spWithPlace:=okWithPlace T
 refine okE T.gAllWays.fn scAllWays (fun vs H Q E h=>?_) (fun cdv A outer s H vs Q E hr h=>?_)
 ·obtain ⟨d,M,k,m,p,j,most,rfl,_⟩:=h
  rfl
 ·obtain ⟨d,M,k,m,p,j,most,rfl,hd,hM,hk0,hk,hmm,hmost,hj,hp,kk⟩:=h
  have hu:=hu_of hr
  refine ⟨_,pss_cons (ps_set (i:=4) scAllWays.nd rfl (Or.inl rfl) (pe_call GP hr rfl T.gPlacesOf.mg T.gPlacesOf.fn.kp T.gPlacesOf.bd .nil passE (pa_cons (pv 0) (pa_nil))))
   (pss_cons (ps_set (i:=5) scAllWays.nd rfl (Or.inl rfl) (pe_lst pa_nil))
   (pss_cons (ps_for ownE rfl (pi_range1 rfl T.b_range (pa_cons (pv 4) pa_nil)) (pg_name (i:=6) scAllWays.nd rfl (Or.inl rfl))
    (pss_one (ps_if (pt_cmpR op_eq (pe_ix ix_list (pe_dget hu (pv 0) (pe_un un_neg (pv 2)) (fun _ _=>rfl)) (pv 6) (fun _ _=>rfl)) (pgi T.iNOWHERE) (nomark _))
     (pss_one (ps_expr (pe_bm PySem.F.plainAttrs_list PySem.F.slot_list_append PySem.F.type_list_append mt_append (pv 5) (pa_cons (pe_call GS hr rfl T.gWithStep.mg T.gWithStep.fn.kp T.gWithStep.bd .nil passE (pa_cons (pv 0) (pa_cons (pv 1) (pa_cons (pv 2) (pa_cons (pv 6) pa_nil))))) pa_nil)))) pss_nil)))
   (pss_cons (ps_if (pt_cmpR op_lt (pv 4) (pv 3) (nomark _))
     (pss_one (ps_expr (pe_bm PySem.F.plainAttrs_list PySem.F.slot_list_append PySem.F.type_list_append mt_append (pv 5) (pa_cons (pe_call GS hr rfl T.gWithStep.mg T.gWithStep.fn.kp T.gWithStep.bd .nil passE (pa_cons (pe_call GL hr rfl T.gWithPlace.mg T.gWithPlace.fn.kp T.gWithPlace.bd .nil passE (pa_cons (pv 0) pa_nil)) (pa_cons (pv 1) (pa_cons (pv 2) (pa_cons (pv 4) pa_nil))))) pa_nil)))) pss_nil)
   (pss_one (ps_ret (pv 5)))))),?_⟩
  refine ⟨_,rfl,d,M,k,m,rfl,hd,hM,hk0,?_⟩
  refine ⟨(by show 0<=sizeLine;decide),fun q hq=>?_⟩
  have s1:Same H (upd H q (.lst [])):=(Keep.new hq).same
  have hq1:(upd H q (.lst [])) q=some (.lst []):=upd_same
  generalize upd H q (.lst [])=H1 at s1 hq1
  have hbj:bar j<M.length:=by rw [hM.len];exact bar_lt hj
  have hd1:=hd.same s1
  obtain ⟨a1,g1,g2⟩:=hd1.row (List.getElem?_eq_getElem hbj)
  have nq:∀ (b:Addr) o,H b=some o->b≠q:=fun b o z=>ne_of_none z hq
  obtain ⟨a0,g10,g20⟩:=hd.row (List.getElem?_eq_getElem hbj)
  have ha1:a1≠q:=by
   have z1:a1=a0:=by
    have z:=g10
    obtain ⟨as,e1,e2⟩:=hd.ex
    have hl2:bar j<as.length:=by rw [e2.len];exact hbj
    have y:=mkv_get as 0 (bar j) as[bar j] (List.getElem?_eq_getElem hl2)
    rw [Nat.zero_add] at y
    have d0:DGet H d (.int (keyZ (bar j))) (some (.ref as[bar j])):=by
     have:=DGet.k (k:=Sum.inl (keyZ (bar j))) e1
     rw [y] at this
     exact this
    have d1:DGet H1 d (.int (keyZ (bar j))) (some (.ref as[bar j])):=by
     have:=DGet.k (k:=Sum.inl (keyZ (bar j))) (s1 _ _ e1)
     rw [y] at this
     exact this
    have un:∀ (HH:Hp) (x y:Addr),HH d=some (.dK (mkv 0 as))->DGet HH d (.int (keyZ (bar j))) (some (.ref x))->x=as[bar j]:=fun HH x y' eh gx=>by
     rcases gx with ⟨kvs,kk,r1,r2,r3⟩ | ⟨kvs,kk,b,r1,r2,_⟩
     ·have ek:kk=Sum.inl (keyZ (bar j)):=by
       cases kk with
       | inl i=>have:=V.int.inj r2;rw [this]
       | inr x=>cases r2
      have ekv:kvs=mkv 0 as:=by
       rcases r1 with r1 | ⟨o,r1⟩
       ·rw [eh] at r1;cases r1;rfl
       ·rw [eh] at r1;cases r1
      rw [ek,ekv,y] at r3
      cases r3
      rfl
     ·cases r2
    rw [un H1 a1 a1 (s1 _ _ e1) g1,un H a0 a0 e1 g10]
   rw [z1]
   exact nq a0 _ g20
  refine ⟨_,rfl,(m:Int),rfl,by omega,by omega,?_⟩
  rw [Int.toNat_natCast]
  refine for_range (lo:=0) (n:=m) (fun i σ H2=>∃ (v6:Option V) (ds:List Addr),σ=[some (.ref d),some (.int p),some (.int (keyZ j)),some (.int most),some (.int m),some (.ref q),v6]/\Keep [q] H1 H2/\H2 q=some (.lst (ds.map V.ref))/\ds.length<=i/\MvsNw H1 H2 ds (((List.range i).filter (freeT M j)).map fun t=>stepM M j p t))
   ⟨none,[],rfl,Keep.refl,hq1,Nat.le_refl _,MvsNw.nil⟩ (fun i σ H2 hi hP=>?_) (fun σ H2 hP=>?_)
  ·obtain ⟨v6,ds,rfl,k2,hq2,hdl,hMs⟩:=hP
   rw [Int.zero_add]
   have kq:∀ b o,H b=some o->H2 b=some o:=fun b o z=>k2 b o (s1 b o z) (by simp only [List.mem_singleton];exact nq b o z)
   have hd2:MvAt H2 d M:=hd.same kq
   have hg2:=k2 _ _ g2 (by simp only [List.mem_singleton];exact ha1)
   have g12:DGet H2 d (.int (-keyZ j)) (some (.ref a1)):=by
    rw [<-keyZ_bar]
    obtain ⟨as,e1,e2⟩:=hd.ex
    rcases g1 with ⟨kvs,kk',r1,r2,r3⟩ | ⟨kvs,kk',b,r1,r2,_⟩
    ·have ekv:kvs=mkv 0 as:=by
      rcases r1 with r1 | ⟨o,r1⟩
      ·rw [s1 _ _ e1] at r1;cases r1;rfl
      ·rw [s1 _ _ e1] at r1;cases r1
     exact .inl ⟨kvs,kk',.inl (by rw [ekv];exact kq _ _ e1),r2,r3⟩
    ·cases r2
   have hrl:i<M[bar j].length:=by rw [hM.row _ (List.getElem_mem hbj)];exact hi
   have e4:=ovs_at hrl
   rw [<-getM_of (List.getElem?_eq_getElem hbj) i] at e4
   refine ⟨_,rfl,_,rfl,_,rfl,d,_,rfl,g12,_,rfl,a1,_,_,_,rfl,rfl,SqL.of hg2,e4,?_⟩
   refine ⟨rfl,_,rfl,?_⟩
   cases hg:getM M (bar j) i with
   | none=>
    refine iteT ?_
    refine ⟨_,rfl,.inl ⟨rfl,_,SqL.of hq2⟩,_,rfl,_,rfl,_,rfl,_,rfl,d,M,k,m,p,j,i,rfl,hd2,hM,hk,by omega,hj,hp,hi,fun H3 e hN k3=>?_⟩
    have s3:Same H2 H3:=k3.same
    refine ⟨q,_,_,rfl,rfl,s3 _ _ hq2,by rw [List.length_map];exact small1000' (by omega),?_⟩
    have emap:ds.map V.ref++[V.ref e]=(ds++[e]).map V.ref:=by simp
    rw [emap]
    have k4:Keep [q] H3 (upd H3 q (.lst ((ds++[e]).map V.ref))):=Keep.upd
    refine ⟨_,ds++[e],rfl,fun b o z nb=>k4 _ _ (s3 _ _ (k2 b o z nb)) nb,upd_same,by simp;omega,?_⟩
    have ef:((List.range (i+1)).filter (freeT M j)).map (fun t=>stepM M j p t)=((List.range i).filter (freeT M j)).map (fun t=>stepM M j p t)++[stepM M j p i]:=by
     rw [List.range_succ,List.filter_append]
     have:[i].filter (freeT M j)=[i]:=by simp [freeT,hg]
     rw [this,List.map_append]
     rfl
    rw [ef]
    exact ((hMs.mono (fun _ _ z=>z) s3).snoc (hN.mono2 (none_of_keep k2 hq2) fun _ _ z=>z)).keep hq1 k4
   | some q'=>
    refine iteF' ?_ ?_
    ·exact decide_eq_false fun z=>by
      have z2:oz (some q') = -1:=V.int.inj z
      rw [oz_none] at z2
      cases z2
    ·refine ⟨_,ds,rfl,k2,hq2,by omega,?_⟩
     rw [List.range_succ,List.filter_append]
     have ef:[i].filter (freeT M j)=[]:=by simp [freeT,hg]
     rw [ef,List.append_nil]
     exact hMs
  ·obtain ⟨v6,ds,rfl,k2,hq2,hdl,hMs⟩:=hP
   have kq:∀ b o,H b=some o->H2 b=some o:=fun b o z=>k2 b o (s1 b o z) (by simp only [List.mem_singleton];exact nq b o z)
   have hd2:MvAt H2 d M:=hd.same kq
   have hkids:kids M k m most p j=(((List.range m).filter (freeT M j)).map fun t=>stepM M j p t)++(if m<most then [stepM (placeM M) j p m] else []):=rfl
   have nn1:∀ b,H1 b=none->H b=none:=fun b e=>by
    cases z:H b with
    | none=>rfl
    | some u=>rw [s1 b u z] at e;cases e
   refine ⟨_,rfl,_,rfl,_,_,rfl,rfl,_,rfl,?_⟩
   by_cases hlt:m<most
   ·have hlt':decide ((m:Int)<(most:Int))=true:=decide_eq_true (by omega)
    rw [hlt']
    refine iteT ?_
    refine ⟨_,rfl,.inl ⟨rfl,_,SqL.of hq2⟩,_,rfl,d,M,k,m,rfl,hd2,hM,hk,by omega,fun H3 e hN k3=>?_⟩
    have s3:Same H2 H3:=k3.same
    refine ⟨_,rfl,_,rfl,_,rfl,e,placeM M,k,m+1,p,j,m,rfl,hN.at_,placeM_ok hM,hk,by omega,hj,by omega,by omega,fun H4 e2 hN2 k4=>?_⟩
    have s4:Same H3 H4:=k4.same
    have s24:Same H2 H4:=fun b o z=>s4 _ _ (s3 _ _ z)
    refine ⟨q,_,_,rfl,rfl,s24 _ _ hq2,by rw [List.length_map];exact small1000' (by omega),?_⟩
    have emap:ds.map V.ref++[V.ref e2]=(ds++[e2]).map V.ref:=by simp
    rw [emap]
    have k5:Keep [q] H4 (upd H4 q (.lst ((ds++[e2]).map V.ref))):=Keep.upd
    have nn3:∀ b,H3 b=none->H1 b=none:=fun b e=>none_of_keep k2 hq2 b (by
     cases z:H2 b with
     | none=>rfl
     | some u=>rw [s3 b u z] at e;cases e)
    have fin:=((hMs.mono (fun _ _ z=>z) s24).snoc (hN2.mono2 nn3 fun _ _ z=>z)).keep hq1 k5
    refine ⟨_,rfl,kk _ q (ds++[e2]) upd_same hq ?_ fun b o z _=>k5 _ _ (s24 _ _ (kq b o z)) (by simp only [List.mem_singleton];exact nq b o z)⟩
    rw [hkids,if_pos hlt]
    exact fin.mono s1 fun _ _ z=>z
   ·have hlt':decide ((m:Int)<(most:Int))=false:=decide_eq_false (by omega)
    rw [hlt']
    refine iteF' rfl ?_
    refine ⟨_,rfl,kk _ q ds hq2 hq ?_ fun b o z _=>kq b o z⟩
    rw [hkids,if_neg hlt,List.append_nil]
    exact hMs.mono s1 fun _ _ z=>z
theorem encL_inj {l l':Sa54.Letter} (h:encL l=encL l'):l=l':=by
 unfold encL at h
 obtain ⟨i,b⟩:=l
 obtain ⟨i',b'⟩:=l'
 cases b<;>cases b'<;>simp at h
 ·rw [show i=i' by omega]
 ·omega
 ·omega
 ·rw [show i=i' by omega]
theorem encL_bars (l:Sa54.Letter):encL (bars l) = -encL l:=by
 unfold encL bars
 obtain ⟨i,b⟩:=l
 cases b<;>simp
theorem short1_len (s:Sa54.Word) (l:Sa54.Letter):(short1 s l).length<=s.length+1:=by
 unfold short1
 split
 ·split
  ·simp;omega
  ·simp
 ·simp
theorem short_take {u:Sa54.Word} {i:Nat} {l:Sa54.Letter} (h:u[i]?=some l):shorten (u.take (i+1))=short1 (shorten (u.take i)) l:=by
 unfold shorten
 exact foldl_take_succ _ _ h
theorem shorten_len:∀ (u:Sa54.Word) (i:Nat),(shorten (u.take i)).length<=i
 | u,0=>by simp [shorten]
 | u,i+1=>by
  have ih:=shorten_len u i
  cases h:u[i]? with
  | none=>
   have:u.take (i+1)=u.take i:=by rw [List.take_add_one,h];simp
   rw [this];omega
  | some l=>
   rw [short_take h]
   have:=short1_len (shorten (u.take i)) l
   omega
def spShortened (K:PySem.W.Frag):Sp:=fun vs H Q _=>∃ (q:Addr) (u:Sa54.Word),vs=[.ref q]/\SqL K H q (wv u)/\u.length<=4096/\∀ (H':Hp) (l:Addr),H' l=some (.lst (wv (shorten u)))->Keep [] H H'->Q (.ref l) H'
theorem scShortened:FnScope ["word","short","number"] ["word"] (defScope sShortened):=⟨rfl,rfl,rfl,by decide +kernel,rfl,by decide +kernel,by decide +kernel⟩
theorem okShortened (T:Tx K mg a):FnOk P w K mg base (CXE P w) 1 a.fShortened a.dShortened ["word"] (spShortened K):=by
 refine okE T.gShortened.fn scShortened (fun vs H Q E h=>?_) (fun cdv A outer s H vs Q E hr h=>?_)
 ·obtain ⟨q,u,rfl,_⟩:=h
  rfl
 ·obtain ⟨q,u,rfl,hq,hul,kk⟩:=h
  refine ⟨_,pss_cons (ps_set (i:=1) scShortened.nd rfl (Or.inl rfl) (pe_lst pa_nil))
   (pss_cons (ps_for ownE rfl (pi_list (pv 0)) (pg_name (i:=2) scShortened.nd rfl (Or.inl rfl))
    (pss_one (ps_if (PW.pt (pw_and (pt_truth (pv 1) (fun _=>rfl)) (pw_and1 (pt_cmpR op_eq (pe_ix ix_list (pv 1) (pe_un un_neg pe_int) (fun _ _=>rfl)) (pe_un un_neg (pv 2)) (nomark _)))))
     (pss_one (ps_expr (pe_bm0 PySem.F.plainAttrs_list PySem.F.slot_list_pop PySem.F.type_list_pop mt_pop (pv 1))))
     (pss_one (ps_expr (pe_bm PySem.F.plainAttrs_list PySem.F.slot_list_append PySem.F.type_list_append mt_append (pv 1) (pa_cons (pv 2) pa_nil)))))))
   (pss_one (ps_ret (pv 1)))),?_⟩
  refine ⟨(by show 0<=sizeLine;decide),fun l hl=>?_⟩
  have s0:Same H (upd H l (.lst [])):=(Keep.new hl).same
  have hl0:(upd H l (.lst [])) l=some (.lst []):=upd_same
  generalize upd H l (.lst [])=H0 at s0 hl0
  have nl:∀ (b:Addr) o,H b=some o->b≠l:=fun b o z=>ne_of_none z hl
  refine ⟨_,rfl,q,rfl,⟨_,s0.seq hq⟩,for_list (K:=K) (a:=q) (xs:=wv u) (fun i σ H2=>Same H H2/\∃ v2:Option V,σ=[some (.ref q),some (.ref l),v2]/\H2 l=some (.lst (wv (shorten (u.take i)))))
   ⟨s0,none,rfl,hl0⟩ (fun i σ H2 _ e=>e.1.seq hq) (fun i x σ H2 hx hP=>?_) (fun σ H2 hP=>?_)⟩
  ·obtain ⟨s2,v2,rfl,hl2⟩:=hP
   obtain ⟨c,hc,rfl⟩:∃ c,u[i]?=some c/\x=V.int (encL c):=by
    rw [List.getElem?_map] at hx
    cases e:u[i]? with
    | none=>rw [e] at hx;cases hx
    | some c=>rw [e] at hx;exact ⟨c,rfl,(Option.some.inj hx).symm⟩
   have hsl:=shorten_len u i
   have hil:=(List.getElem?_eq_some_iff.mp hc).1
   have est:=short_take hc
   have app:∀ (k:shorten (u.take (i+1))=shorten (u.take i)++[c]) (v2:Option V),Same H (upd H2 l (.lst (wv (shorten (u.take i))++[V.int (encL c)])))/\∃ v3:Option V,[some (V.ref q),some (V.ref l),v2]=[some (V.ref q),some (V.ref l),v3]/\(upd H2 l (.lst (wv (shorten (u.take i))++[V.int (encL c)]))) l=some (.lst (wv (shorten (u.take (i+1))))):=fun e v2=>by
    refine ⟨fun b o z=>by rw [upd_ne (nl b o z)];exact s2 b o z,v2,rfl,?_⟩
    rw [upd_same,e]
    simp
   refine ⟨_,rfl,_,.inl ⟨_,SqL.of hl2,rfl⟩,?_⟩
   rcases List.eq_nil_or_concat (shorten (u.take i)) with hn | ⟨s',m',hsm⟩
   ·rw [hn] at hl2 ⊢
    refine iteF' rfl ?_
    refine ⟨_,rfl,.inl ⟨rfl,_,SqL.of hl2⟩,_,rfl,l,_,_,rfl,rfl,hl2,(by show 0<sizeLine;decide),?_⟩
    have e1:shorten (u.take (i+1))=shorten (u.take i)++[c]:=by rw [est,hn];rfl
    have:=app e1 (some (V.int (encL c)))
    rw [hn] at this
    exact this
   ·have hsm:shorten (u.take i)=s'++[m']:=by rw [hsm];simp
    have hwv:wv (shorten (u.take i))=wv s'++[V.int (encL m')]:=by rw [hsm];simp
    have hne:(wv (shorten (u.take i))).isEmpty=false:=by rw [hwv];simp
    rw [hne]
    refine iteT ?_
    refine ⟨_,rfl,_,rfl,l,_,_,_,rfl,rfl,SqL.of hl2,by rw [hwv];exact atI_last _ _,_,rfl,_,rfl,rfl,_,rfl,?_⟩
    have e2:short1 (shorten (u.take i)) c=if m'=bars c then s' else s'++[m']++[c]:=by
     unfold short1
     rw [hsm]
     simp
    by_cases hmc:m'=bars c
    ·have hd:decide (V.int (encL m')=V.int (-encL c))=true:=decide_eq_true (by rw [hmc,encL_bars])
     rw [hd]
     refine iteT ?_
     have hg:(wv (shorten (u.take i)))[(wv (shorten (u.take i))).length-1]?=some (V.int (encL m')):=by rw [hwv];simp
     refine ⟨_,rfl,.inl ⟨rfl,_,SqL.of hl2⟩,l,_,_,rfl,rfl,hl2,hg,?_⟩
     have e3:(wv (shorten (u.take i))).dropLast=wv (shorten (u.take (i+1))):=by
      rw [hwv,est,e2,if_pos hmc]
      simp
     rw [e3]
     exact ⟨fun b o z=>by rw [upd_ne (nl b o z)];exact s2 b o z,_,rfl,upd_same⟩
    ·have hd:decide (V.int (encL m')=V.int (-encL c))=false:=decide_eq_false fun z=>hmc (encL_inj (by rw [encL_bars];exact V.int.inj z))
     rw [hd]
     refine iteF' rfl ?_
     refine ⟨_,rfl,.inl ⟨rfl,_,SqL.of hl2⟩,_,rfl,l,_,_,rfl,rfl,hl2,by rw [List.length_map];exact lt_line (by omega),?_⟩
     exact app (by rw [est,e2,if_neg hmc,hsm]) _
  ·obtain ⟨s2,v2,rfl,hl2⟩:=hP
   rw [wv_len,List.take_length] at hl2
   exact ⟨_,rfl,kk H2 l hl2 fun b o z _=>s2 b o z⟩
end
end Gw
set_option Elab.async false
set_option linter.all false
set_option maxRecDepth 100000
set_option maxHeartbeats 8000000
namespace Gw
open PySem PySem.Spec PyProof.Rows L2
def ordN (n:Nat):Nat:=([1,2,6,12,60,60,420,840]:List Nat).getD (n-1) 0
theorem ordN_ok:∀ n d:Fin 9,1<=n.val->1<=d.val->d.val<=n.val->d.val ∣ ordN n.val:=by decide
theorem ordN_pos:∀ n:Fin 9,1<=n.val->0<ordN n.val/\ordN n.val<=840:=by decide
theorem ord_ok {n:Nat} (h1:1<=n) (h8:n<=8):∀ m,m<=n->OrdOk (ordN n) m:=fun m hm d hd1 hd=>ordN_ok ⟨n,by omega⟩ ⟨d,by omega⟩ h1 hd1 (by show d<=n;omega)
def wk (u:Sa54.Word):List Key:=u.map fun l=>Sum.inl (encL l)
theorem wk_v (u:Sa54.Word):(wk u).map kV=wv u:=by unfold wk;rw [List.map_map];rfl
theorem wk_inj:∀ {u u':Sa54.Word},wk u=wk u'->u=u'
 | [],[],_=>rfl
 | [],_ :: _,h=>by cases h
 | _ :: _,[],h=>by cases h
 | l :: u,l' :: u',h=>by
  have h:(Sum.inl (encL l):Key) :: wk u=Sum.inl (encL l') :: wk u':=h
  injection h with h1 h2
  rw [encL_inj (Sum.inl.inj h1),wk_inj h2]
theorem wv_inj:∀ {u u':Sa54.Word},wv u=wv u'->u=u'
 | [],[],_=>rfl
 | [],_ :: _,h=>by cases h
 | _ :: _,[],h=>by cases h
 | l :: u,l' :: u',h=>by
  have h:V.int (encL l) :: wv u=V.int (encL l') :: wv u':=h
  injection h with h1 h2
  rw [encL_inj (V.int.inj h1),wv_inj h2]
theorem val_of_at {kvs:List (List Key × V)} {i:Nat} {k:List Key} {v:V} (h:kvs[i]?=some (k,v)):(valV kvs k).isSome=true:=by
 rw [<-valV_any,List.any_eq_true]
 exact ⟨(k,v),List.mem_of_getElem? h,by simp⟩
theorem at_of_val {kvs:List (List Key × V)} {k:List Key} (h:(valV kvs k).isSome=true):∃ (i:Nat) (v:V),kvs[i]?=some (k,v):=by
 rw [<-valV_any,List.any_eq_true] at h
 obtain ⟨⟨k',v⟩,h1,h2⟩:=h
 have h2:k'=k:=by simpa using h2
 subst h2
 obtain ⟨i,hi⟩:=List.getElem?_of_mem h1
 exact ⟨i,v,hi⟩
section
variable {P:Program} {w:World} {K:PySem.W.Frag} {mg:Str->Option Value} {base:Heap} {a:AD}
def spWordsByOrder (a:AD):Sp:=fun vs H Q _=>∃ (p:Addr) (g:Sa54.Group) (sg:List Nat) (o most:Nat),vs=[.ref p,.int o]/\GroupAt a H p g sg/\GroupOk g sg/\0<o/\o<=840/\(∀ n,n<=most->OrdOk o n) /\
 ∀ (H':Hp) (e:Addr) (as:List Addr) (ws':List Sa54.Word),H' e=some (.lst (as.map V.ref))->WordsAt H' as ws'->P2 (Rw g.letters.length o most) g.nothing ws'->Keep [] H H'->Q (.ref e) H'
theorem scWordsByOrder:FnScope ["group","order"] ["group","order"] (defScope sWordsByOrder):=⟨rfl,rfl,rfl,by decide +kernel,rfl,by decide +kernel,by decide +kernel⟩
theorem okWordsByOrder (T:Tx K mg a):FnOk P w K mg base (CXE P w) 6 a.fWordsByOrder a.dWordsByOrder ["group","order"] (spWordsByOrder a):=by
 have GW:FnOk P w K mg base (CXE P w) 5 a.fWordsOfText a.dWordsOfText ["signs","letters","order"] (spWordsOfText K a):=okWordsOfText T
 refine okE T.gWordsByOrder.fn scWordsByOrder (fun vs H Q E h=>?_) (fun cdv A outer s H vs Q E hr h=>?_)
 ·obtain ⟨p,g,sg,o,most,rfl,_⟩:=h
  rfl
 ·obtain ⟨p,g,sg,o,most,rfl,GA,GO,h0,h840,ho,kk⟩:=h
  obtain ⟨dx,l,q,w2,as,hp,hl,hq,hw,hws⟩:=GA.ex
  refine ⟨_,pss_one (ps_ret (pe_call GW hr rfl T.gWordsOfText.mg T.gWordsOfText.fn.kp T.gWordsOfText.bd .nil passE (pa_cons (pe_fld (pv 0) rfl) (pa_cons (pe_fld (pv 0) rfl) (pa_cons (pv 1) pa_nil))))),?_⟩
  refine ⟨_,rfl,p,a.cGroup,dx,_,_,rfl,hp,T.kGroup.cl,T.nGroup_signs,gf_s,_,rfl,p,a.cGroup,dx,_,_,rfl,hp,T.kGroup.cl,T.nGroup_letters,gf_l,_,rfl,?_⟩
  refine ⟨q,l,sg,g.letters,o,rfl,by omega,SqL.of hq,SqL.of hl,GO.small,GO.nd,by have:=GO.le;omega,GO.sl,?_⟩
  have rd:=GO.rd
  unfold rw_ at rd ⊢
  by_cases hs:sg=[]
  ·rw [if_pos hs] at rd ⊢
   injection rd with rd
   intro H' e as' he hw2 k2
   exact kk H' e as' [] he hw2 (by rw [<-rd];exact .nil) k2
  ·rw [if_neg hs] at rd ⊢
   obtain ⟨ws',e1,e2⟩:=go_sim (o:=o) (most:=most) h0 ho rd
   rw [e1]
   intro H' e as' he hw2 k2
   exact kk H' e as' ws' he hw2 e2 k2
def spTellingWords (K:PySem.W.Frag):Sp:=fun vs H Q _=>∃ (q:Addr) (as:List Addr) (ws:List Sa54.Word),vs=[.ref q]/\SqL K H q (as.map V.ref)/\WordsAt H as ws/\ws.length<=1000 /\
 ∀ (H':Hp) (l:Addr) (qs:List Addr) (ts:List Sa54.Word),H' l=some (.lst (qs.map V.ref))->WordsS K H' qs ts->Tells ws ts->Keep [] H H'->Q (.ref l) H'
theorem scTellingWords:FnScope ["words","telling","word"] ["words"] (defScope sTellingWords):=⟨rfl,rfl,rfl,by decide +kernel,rfl,by decide +kernel,by decide +kernel⟩
theorem okTellingWords (T:Tx K mg a):FnOk P w K mg base (CXE P w) 2 a.fTellingWords a.dTellingWords ["words"] (spTellingWords K):=by
 have GS:FnOk P w K mg base (CXE P w) 1 a.fShortened a.dShortened ["word"] (spShortened K):=okShortened T
 refine okE T.gTellingWords.fn scTellingWords (fun vs H Q E h=>?_) (fun cdv A outer s H vs Q E hr h=>?_)
 ·obtain ⟨q,as,ws,rfl,_⟩:=h
  rfl
 ·obtain ⟨q,as,ws,rfl,hq,hws,hwl,kk⟩:=h
  have hu:=hu_of hr
  refine ⟨_,pss_cons (ps_set (i:=1) scTellingWords.nd rfl (Or.inl rfl) (pe_dnewT))
   (pss_cons (ps_for ownE rfl (pi_list (pv 0)) (pg_name (i:=2) scTellingWords.nd rfl (Or.inl rfl))
    (pss_one (ps_dput hu (pv 1) (pe_callTy call_tuple_of (by rfl) T.b_tuple bootTuple' (pa_cons (pe_call GS hr rfl T.gShortened.mg T.gShortened.fn.kp T.gShortened.bd .nil passE (pa_cons (pv 2) pa_nil)) pa_nil)) pe_bl rfl)))
   (pss_one (ps_ret (pe_sortedLen rfl T.b_sorted rfl T.b_len (pa_cons (pe_lock (pe_lc (own:=[("word",2)]) rfl scTellingWords.nd (pi_keys (pv 1)) (blkOk_by (by kernel_rfl)) (fun s H C cl fp=>pg_name (i:=2) scTellingWords.nd rfl (Or.inl rfl) (.inr rfl)) (fun s H C cl fp=>pts_one (pt_truthK (K:=K) rfl (pv 2) (fun _=>rfl))) (fun s H C cl fp=>pv 2))) pa_nil))))),?_⟩
  intro d hd
  have s0:Same H (upd H d (.dT [])):=(Keep.new hd).same
  have hd0:(upd H d (.dT [])) d=some (.dT []):=upd_same
  generalize upd H d (.dT [])=H0 at s0 hd0
  have nd:∀ (b:Addr) o,H b=some o->b≠d:=fun b o z=>ne_of_none z hd
  refine ⟨_,rfl,q,rfl,⟨_,s0.seq hq⟩,for_list (K:=K) (a:=q) (xs:=as.map V.ref) (fun i σ H2=>Same H H2/\∃ (v2:Option V) (kvs:List (List Key × V)),σ=[some (.ref q),some (.ref d),v2]/\H2 d=some (.dT kvs)/\kvs.length<=i/\∀ k,(valV kvs k).isSome=true↔∃ u∈ws.take i,k=wk (shorten u))
   ⟨s0,none,[],rfl,hd0,Nat.le_refl _,fun k=>⟨(fun z=>by cases z),(fun ⟨u,z,_⟩=>absurd z (by simp))⟩⟩ (fun i σ H2 _ e=>e.1.seq hq) (fun i x σ H2 hx hP=>?_) (fun σ H2 hP=>?_)⟩
  ·obtain ⟨s2,v2,kvs,rfl,hd2,hkl,hkv⟩:=hP
   obtain ⟨c,hc,rfl⟩:∃ c:Addr,as[i]?=some c/\x=V.ref c:=by
    rw [List.getElem?_map] at hx
    cases e:as[i]? with
    | none=>rw [e] at hx;cases hx
    | some c=>rw [e] at hx;exact ⟨c,rfl,(Option.some.inj hx).symm⟩
   have hil:=(List.getElem?_eq_some_iff.mp hc).1
   rw [hws.len] at hil
   have hu2:=List.getElem?_eq_getElem hil
   have hcu:=hws.at_ i c _ hc hu2
   have hul:=hws.ln _ (List.getElem_mem hil)
   have hul:ws[i].length<=4096:=hul
   refine ⟨_,rfl,_,rfl,c,ws[i],rfl,SqL.of (s2 _ _ hcu),hul,fun H3 l hl k3=>?_⟩
   have s3:Same H2 H3:=k3.same
   refine ⟨l,_,rfl,.inl ⟨SqL.of hl,fun t ht=>?_⟩⟩
   have s4:Same H3 (upd H3 t (.tup (wv (shorten ws[i])))):=(Keep.new ht).same
   have ht4:(upd H3 t (.tup (wv (shorten ws[i])))) t=some (.tup (wv (shorten ws[i]))):=upd_same
   generalize upd H3 t (.tup (wv (shorten ws[i])))=H4 at s4 ht4
   have hd4:=s4 _ _ (s3 _ _ hd2)
   refine ⟨d,_,rfl,DPut.t (k:=wk (shorten ws[i])) hd4 (by rw [wk_v];exact ht4) (small1000' (by omega)),?_⟩
   refine ⟨fun b o z=>?_,_,_,rfl,upd_same,Nat.le_trans (length_putK _ _ _) (by omega),fun k=>?_⟩
   ·rw [upd_ne (nd b o z)]
    exact s4 _ _ (s3 _ _ (s2 b o z))
   ·have et:ws.take (i+1)=ws.take i++[ws[i]]:=by rw [List.take_add_one,hu2];rfl
    rw [valV_put,et]
    by_cases e:k=wk (shorten ws[i])
    ·rw [if_pos e]
     exact ⟨fun _=>⟨ws[i],List.mem_append_right _ (List.mem_singleton.mpr rfl),e⟩,fun _=>rfl⟩
    ·rw [if_neg e,hkv k]
     constructor
     ·rintro ⟨u,h1,h2⟩
      exact ⟨u,List.mem_append_left _ h1,h2⟩
     ·rintro ⟨u,h1,h2⟩
      rcases List.mem_append.mp h1 with z | z
      ·exact ⟨u,z,h2⟩
      ·have z:u=ws[i]:=by simpa using z
       rw [z] at h2
       exact absurd h2 e
  ·obtain ⟨s2,v2,kvs,rfl,hd2,hkl,hkv⟩:=hP
   rw [List.length_map,hws.len,List.take_length] at hkv
   rw [List.length_map,hws.len] at hkl
   refine ⟨d,_,hd2,trivial,fun od=>?_⟩
   have hdl:(upd H2 d (.frz od (.dT kvs))) d=some (.frz od (.dT kvs)):=upd_same
   have kl:Keep [d] H2 (upd H2 d (.frz od (.dT kvs))):=Keep.upd
   generalize upd H2 d (.frz od (.dT kvs))=Hl at hdl kl
   refine ⟨_,rfl,d,od,rfl,.inr ⟨kvs,hdl,fun D hD=>?_⟩⟩
   have nDd:D≠d:=fun z=>by rw [z,hdl] at hD;cases hD
   have kD:∀ acc,Same Hl (upd Hl D (.lst acc)):=fun acc b o e=>by rw [upd_ne (ne_of_none e hD)];exact e
   refine lc_keysT (d:=d) (o:=od) (kvs:=kvs) (fun i H'=>∃ (qs:List Addr) (ts:List Sa54.Word),H'=upd Hl D (.lst (qs.map V.ref))/\qs.length=ts.length/\qs.length<=i/\(∀ (j:Nat) (b:Addr) (t:Sa54.Word),qs[j]?=some b->ts[j]?=some t->Hl b=some (.tup (wv t)))/\(∀ t∈ts,∃ u∈ws,t=shorten u) /\
     ∀ (i':Nat) (t:Sa54.Word) (v:V),i'<i->kvs[i']?=some (wk t,v)->t≠[]->t∈ts)
    ⟨[],[],rfl,rfl,Nat.le_refl _,fun j b t e=>by simp at e,fun t z=>absurd z (by simp),fun i' t v z=>by omega⟩
    (fun i H' _ ⟨qs,ts,e,_⟩=>by rw [e];exact kD _ _ _ hdl) (fun i k v q2 H' hk hq2 hP=>?_) fun H' hP=>?_
   ·obtain ⟨qs,ts,rfl,l1,l2,hat,hof,hall⟩:=hP
    have hi:=(List.getElem?_eq_some_iff.mp hk).1
    obtain ⟨u,hum,hku⟩:=(hkv k).mp (val_of_at hk)
    rw [hku,wk_v] at hq2
    have hq2l:Hl q2=some (.tup (wv (shorten u))):=by
     have:q2≠D:=fun z=>by rw [z,upd_same] at hq2;cases hq2
     rw [upd_ne this] at hq2
     exact hq2
    refine ⟨rfl,_,rfl,_,.inr (.inl ⟨_,SqT.of hq2,rfl⟩),?_⟩
    cases hsu:shorten u with
    | nil=>
     refine iteF' rfl ?_
     refine ⟨qs,ts,rfl,l1,by omega,hat,hof,fun i' t v' hi' e hne=>?_⟩
     by_cases z:i'=i
     ·subst z
      rw [hk] at e
      cases e
      rw [hsu] at hku
      exact absurd (wk_inj (hku:wk t=wk [])) hne
     ·exact hall i' t v' (by omega) e hne
    | cons c0 r0=>
     refine iteT ?_
     refine ⟨_,rfl,_,upd_same,by rw [List.length_map];exact small1000' (by omega),?_⟩
     refine ⟨qs++[q2],ts++[shorten u],by rw [upd_upd];simp,by simp [l1],by simp;omega,fun j b t e1 e2=>?_,fun t z=>?_,fun i' t v' hi' e hne=>?_⟩
     ·by_cases hj:j<qs.length
      ·rw [List.getElem?_append_left hj] at e1
       rw [List.getElem?_append_left (by rw [<-l1];exact hj)] at e2
       exact hat j b t e1 e2
      ·rw [List.getElem?_append_right (by omega)] at e1
       rw [List.getElem?_append_right (by rw [<-l1];omega),<-l1] at e2
       cases hq:j-qs.length with
       | zero=>rw [hq] at e1 e2;cases e1;cases e2;exact hq2l
       | succ n=>rw [hq] at e1;simp at e1
     ·rcases List.mem_append.mp z with y | y
      ·exact hof t y
      ·rw [List.mem_singleton.mp y];exact ⟨u,hum,rfl⟩
     ·by_cases z:i'=i
      ·subst z
       rw [hk] at e
       cases e
       rw [wk_inj hku]
       simp
      ·exact List.mem_append_left _ (hall i' t v' (by omega) e hne)
   ·obtain ⟨qs,ts,rfl,l1,l2,hat,hof,hall⟩:=hP
    refine ⟨kD _ _ _ hdl,?_⟩
    have hD5:(upd (upd Hl D (.lst (qs.map V.ref))) d (.dT kvs)) D=some (.lst (qs.map V.ref)):=by rw [upd_ne nDd];exact upd_same
    have hat5:∀ (j:Nat) (b:Addr) (t:Sa54.Word),qs[j]?=some b->ts[j]?=some t->(upd (upd Hl D (.lst (qs.map V.ref))) d (.dT kvs)) b=some (.tup (wv t)):=fun j b t e1 e2=>by
     have z:=hat j b t e1 e2
     have n1:b≠d:=fun y=>by rw [y,hdl] at z;cases z
     rw [upd_ne n1]
     exact kD _ _ _ z
    have s5:Same H (upd (upd Hl D (.lst (qs.map V.ref))) d (.dT kvs)):=fun b o z=>by
     rw [upd_ne (nd b o z)]
     exact kD _ _ _ (kl _ _ (s2 b o z) (by simp only [List.mem_singleton];exact nd b o z))
    generalize upd (upd Hl D (.lst (qs.map V.ref))) d (.dT kvs)=H5 at hD5 hat5 s5
    refine ⟨D,qs,rfl,SqL.of hD5,fun b hb=>?_,fun qs' D' hperm hD'=>?_⟩
    ·obtain ⟨j,hj⟩:=List.getElem?_of_mem hb
     have hjl:=(List.getElem?_eq_some_iff.mp hj).1
     rw [l1] at hjl
     exact ⟨_,SqT.of (hat5 j b _ hj (List.getElem?_eq_getElem hjl))⟩
    ·have s6:Same H5 (upd H5 D' (.lst (qs'.map V.ref))):=(Keep.new hD').same
     have pick:∀ b:Addr,∃ t:Sa54.Word,b∈qs->t∈ts/\H5 b=some (.tup (wv t)):=fun b=>by
      by_cases hb:b∈qs
      ·obtain ⟨j,hj⟩:=List.getElem?_of_mem hb
       have hjl:=(List.getElem?_eq_some_iff.mp hj).1
       rw [l1] at hjl
       exact ⟨ts[j],fun _=>⟨List.getElem_mem hjl,hat5 j b _ hj (List.getElem?_eq_getElem hjl)⟩⟩
      ·exact ⟨[],fun z=>absurd z hb⟩
     obtain ⟨f,hf⟩:=Classical.axiomOfChoice pick
     refine kk _ D' qs' (qs'.map f) upd_same ⟨by simp,fun j b t e1 e2=>?_⟩ ⟨fun t ht=>?_,fun u hu=>?_⟩ fun b o z _=>s6 _ _ (s5 b o z)
     ·rw [List.getElem?_map,e1] at e2
      cases e2
      exact .inr (SqT.of (s6 _ _ (hf b (hperm.mem_iff.mp (List.mem_of_getElem? e1))).2))
     ·obtain ⟨b,hb,rfl⟩:=List.mem_map.mp ht
      exact hof _ (hf b (hperm.mem_iff.mp hb)).1
     ·by_cases hne:shorten u=[]
      ·exact .inl hne
      ·right
       obtain ⟨i',v,hi'⟩:=at_of_val ((hkv (wk (shorten u))).mpr ⟨u,hu,rfl⟩)
       have hm:=hall i' (shorten u) v (List.getElem?_eq_some_iff.mp hi').1 hi' hne
       obtain ⟨j,hj⟩:=List.getElem?_of_mem hm
       have hjl:=(List.getElem?_eq_some_iff.mp hj).1
       rw [<-l1] at hjl
       have hb:=List.getElem?_eq_getElem hjl
       have h1:=hat5 j _ _ hb hj
       have h2:=(hf qs[j] (List.getElem_mem hjl)).2
       rw [h1] at h2
       have h3:wv (shorten u)=wv (f qs[j]):=by injection h2 with h2;injection h2
       rw [wv_inj h3]
       exact List.mem_map.mpr ⟨qs[j],hperm.mem_iff.mpr (List.getElem_mem hjl),rfl⟩
end
end Gw
set_option Elab.async false
set_option linter.all false
set_option maxRecDepth 100000
set_option maxHeartbeats 8000000
namespace Gw
open PySem PySem.Spec PyProof.Rows L2
theorem snoc_of_ne {α:Type} {l:List α} (h:l≠[]):∃ t x,l=t++[x]:=by
 rcases List.eq_nil_or_concat l with z | ⟨t,x,z⟩
 ·exact absurd z h
 ·exact ⟨t,x,by rw [z];simp⟩
theorem MvsAt.split {H:Hp} {ds:List Addr} {Ms:List Rows} {M:Rows} (h:MvsAt H ds (Ms++[M])):∃ ds' d,ds=ds'++[d]/\MvsAt H ds' Ms/\MvAt H d M:=by
 have hl:=h.len
 rw [List.length_append] at hl
 have hne:ds≠[]:=fun z=>by rw [z] at hl;simp at hl
 obtain ⟨ds',d,rfl⟩:=snoc_of_ne hne
 have hl2:ds'.length=Ms.length:=by simp at hl;exact hl
 refine ⟨ds',d,rfl,⟨hl2,fun i e N e1 e2=>?_⟩,?_⟩
 ·have h1:=(List.getElem?_eq_some_iff.mp e1).1
  have h2:=(List.getElem?_eq_some_iff.mp e2).1
  exact h.at_ i e N (by rw [List.getElem?_append_left h1];exact e1) (by rw [List.getElem?_append_left h2];exact e2)
 ·exact h.at_ ds'.length d M (by simp) (by rw [hl2];simp)
theorem sum_snoc (f:Rows->Nat) (l:List Rows) (M:Rows):((l++[M]).map f).sum=(l.map f).sum+f M:=by simp
section
variable {P:Program} {w:World} {K:PySem.W.Frag} {mg:Str->Option Value} {base:Heap} {a:AD}
structure WI (ts:List Sa54.Word) (k n:Nat) (Hw:Hp) (bq fq:Addr) (H2:Hp) (bs fs:List Addr) (Bs Fs:List Rows) (cs:List Nat):Prop where
 same:Same Hw H2
 nb:Hw bq=none
 nf:Hw fq=none
 ne:bq≠fq
 hb:H2 bq=some (.lst (bs.map V.ref))
 hf:H2 fq=some (.lst (fs.map V.ref))
 mb:MvsAt (off [bq,fq] H2) bs Bs
 mf:MvsAt (off [bq,fq] H2) fs Fs
 si:SI ts k n Fs Bs
 bi:BI k n Bs cs
theorem off_upd {ws:List Addr} {H:Hp} {b:Addr} {o:HO} (h:b∈ws):off ws (upd H b o)=off ws H:=by
 funext c
 by_cases hc:c∈ws
 ·rw [off_in hc,off_in hc]
 ·rw [off_not hc,off_not hc,upd_ne (fun z=>hc (by rw [z];exact h))]
theorem off_mono {ws:List Addr} {H H':Hp} (s:Same H H'):Same (off ws H) (off ws H'):=off_keep fun b o e _=>s b o e
def spWholeMoves (K:PySem.W.Frag) (a:AD):Sp:=fun vs H Q _=>∃ (p:Addr) (g:Sa54.Group) (sg:List Nat) (n:Nat),vs=[.ref p,.int n]/\GroupAt a H p g sg/\GroupOk g sg/\1<=n/\n<=8/\fac n ^ g.letters.length<=20000 /\
 ∀ (H':Hp) (f:Addr) (fs:List Addr) (Fs:List Rows) (ts:List Sa54.Word),H' f=some (.lst (fs.map V.ref))->MvsAt H' fs Fs->SI ts g.letters.length n Fs []->(∀ u m,Sa54.isTable g.letters.length m u=true->m<=n->ts.all (Sa54.still u m)=g.nothing.all (Sa54.still u m))->Keep [] H H'->Q (.ref f) H'
theorem scWholeMoves:FnScope ["group","most","words","begun","found","moves","step"] ["group","most"] (defScope sWholeMoves):=⟨rfl,rfl,rfl,by decide +kernel,rfl,by decide +kernel,by decide +kernel⟩
theorem okWholeMoves (T:Tx K mg a):FnOk P w K mg base (CXE P w) 7 a.fWholeMoves a.dWholeMoves ["group","most"] (spWholeMoves K a):=by
 have GO6:FnOk P w K mg base (CXE P w) 6 a.fWordsByOrder a.dWordsByOrder ["group","order"] (spWordsByOrder a):=okWordsByOrder T
 have GT:FnOk P w K mg base (CXE P w) 6 a.fTellingWords a.dTellingWords ["words"] (spTellingWords K):=(okTellingWords T).mono (by decide)
 have GF:FnOk P w K mg base (CXE P w) 6 a.fFirstMoves a.dFirstMoves ["letters"] spFirstMoves:=(okFirstMoves T).mono (by decide)
 have GN:FnOk P w K mg base (CXE P w) 6 a.fNoPlaceMoved a.dNoPlaceMoved ["words","moves"] (spNoPlaceMoved K):=(okNoPlaceMoved T).mono (by decide)
 have GU:FnOk P w K mg base (CXE P w) 6 a.fFirstUnknown a.dFirstUnknown ["moves"] spFirstUnknown:=(okFirstUnknown T).mono (by decide)
 have GW:FnOk P w K mg base (CXE P w) 6 a.fAllWays a.dAllWays ["moves","place","number","most"] spAllWays:=(okAllWays T).mono (by decide)
 refine okE T.gWholeMoves.fn scWholeMoves (fun vs H Q E h=>?_) (fun cdv A outer s H vs Q E hr h=>?_)
 ·obtain ⟨p,g,sg,n,rfl,_⟩:=h
  rfl
 ·obtain ⟨p,g,sg,n,rfl,GA,GO,hn1,hn8,hfac,kk⟩:=h
  refine ⟨_,pss_cons (ps_set (i:=2) scWholeMoves.nd rfl (Or.inl rfl) (pe_call GT hr rfl T.gTellingWords.mg T.gTellingWords.fn.kp T.gTellingWords.bd .nil passE (pa_cons (pe_call GO6 hr rfl T.gWordsByOrder.mg T.gWordsByOrder.fn.kp T.gWordsByOrder.bd .nil passE (pa_cons (pv 0) (pa_cons (pe_ix ix_tup (pe_glob rfl T.uORDERS.mg (v:=.ref a.tORDERS) rfl) (pe_op op_sub (pv 1) pe_int) (fun _ _=>rfl)) pa_nil))) pa_nil)))
   (pss_cons (ps_set (i:=3) scWholeMoves.nd rfl (Or.inl rfl) (pe_lst (pa_cons (pe_call GF hr rfl T.gFirstMoves.mg T.gFirstMoves.fn.kp T.gFirstMoves.bd .nil passE (pa_cons (pe_callB call_len_seq (by rfl) T.b_len PySem.boot_len (pa_cons (pe_fld (pv 0) rfl) pa_nil)) pa_nil)) pa_nil)))
   (pss_cons (ps_set (i:=4) scWholeMoves.nd rfl (Or.inl rfl) (pe_lst pa_nil))
   (pss_cons (ps_while ownE (pt_truth (pv 3) (fun _=>rfl))
    (pss_cons (ps_set (i:=5) scWholeMoves.nd rfl (Or.inl rfl) (pe_bm0 PySem.F.plainAttrs_list PySem.F.slot_list_pop PySem.F.type_list_pop mt_pop (pv 3)))
    (pss_one (ps_if (pt_val (pe_call GN hr rfl T.gNoPlaceMoved.mg T.gNoPlaceMoved.fn.kp T.gNoPlaceMoved.bd .nil passE (pa_cons (pv 2) (pa_cons (pv 5) pa_nil))))
     (pss_cons (ps_set (i:=6) scWholeMoves.nd rfl (Or.inl rfl) (pe_call GU hr rfl T.gFirstUnknown.mg T.gFirstUnknown.fn.kp T.gFirstUnknown.bd .nil passE (pa_cons (pv 5) pa_nil)))
     (pss_one (ps_if (pt_cmpR op_isN (pv 6) pe_non (nomark _))
      (pss_one (ps_expr (pe_bm PySem.F.plainAttrs_list PySem.F.slot_list_append PySem.F.type_list_append mt_append (pv 4) (pa_cons (pv 5) pa_nil))))
      (pss_one (ps_expr (pe_bm PySem.F.plainAttrs_list PySem.F.slot_list_extend PySem.F.type_list_extend mt_extend (pv 3) (pa_cons (pe_call GW hr rfl T.gAllWays.mg T.gAllWays.fn.kp T.gAllWays.bd .nil passE (pa_cons (pv 5) (pa_cons (pe_ix ix_tup (pv 6) pe_int (fun _ _=>rfl)) (pa_cons (pe_ix ix_tup (pv 6) pe_int (fun _ _=>rfl)) (pa_cons (pv 1) pa_nil))))) pa_nil)))))))
     pss_nil))))
   (pss_one (ps_ret (pv 4)))))),?_⟩
  have hk0:=GO.pos
  have hk8:=GO.le
  have hord:atI (([1,2,6,12,60,60,420,840]:List Int).map V.int) ((n:Int)-1)=some (V.int ((ordN n:Nat):Int)):=by
   rw [show ((n:Int)-1)=((n-1:Nat):Int) by omega]
   refine atI_nat ?_
   have:n=1\/n=2\/n=3\/n=4\/n=5\/n=6\/n=7\/n=8:=by omega
   rcases this with rfl | rfl | rfl | rfl | rfl | rfl | rfl | rfl<;>rfl
  have hop:=ordN_pos ⟨n,by omega⟩ hn1
  refine ⟨_,rfl,_,rfl,_,_,rfl,rfl,a.tORDERS,_,_,_,rfl,rfl,T.uORDERS.sq H,hord,p,g,sg,ordN n,n,rfl,GA,GO,hop.1,hop.2,ord_ok hn1 hn8,fun H1 e as ws' he hws hP2 k1=>?_⟩
  have s1:Same H H1:=k1.same
  have hwl:ws'.length<=1000:=by rw [<-hP2.len];have:=GO.wl;omega
  refine ⟨e,as,ws',rfl,SqL.of he,hws,hwl,fun Hw wq qs ts hwq hqs hT k2=>?_⟩
  have sw:Same H Hw:=fun b o z=>k2.same b o (s1 b o z)
  have hts:∀ u m,Sa54.isTable g.letters.length m u=true->m<=n->ts.all (Sa54.still u m)=g.nothing.all (Sa54.still u m):=fun u m ht hm=>tells_still hP2 hT ht hm
  have hwok:∀ t∈ts,WOk g.letters.length t:=tells_ok hP2 hT
  obtain ⟨dx,l,q2,w2,as2,hp,hl,hq2,hw2,hws2⟩:=(GA.same sw).ex
  refine ⟨_,rfl,p,a.cGroup,dx,_,_,rfl,hp,T.kGroup.cl,T.nGroup_letters,gf_l,l,_,rfl,.inl (SqL.of hl),?_⟩
  rw [nv_len]
  refine ⟨g.letters.length,rfl,hk8,fun H3 d0 hN3 k3=>?_⟩
  have s3:Same Hw H3:=k3.same
  refine ⟨(by show 1<=sizeLine;decide),fun bq hbq=>?_⟩
  have s4:Same H3 (upd H3 bq (.lst [V.ref d0])):=(Keep.new hbq).same
  have hb4:(upd H3 bq (.lst [V.ref d0])) bq=some (.lst [V.ref d0]):=upd_same
  generalize upd H3 bq (.lst [V.ref d0])=H4 at s4 hb4
  refine ⟨(by show 0<=sizeLine;decide),fun fq hfq=>?_⟩
  have s5:Same H4 (upd H4 fq (.lst [])):=(Keep.new hfq).same
  have hf5:(upd H4 fq (.lst [])) fq=some (.lst []):=upd_same
  generalize upd H4 fq (.lst [])=H5 at s5 hf5
  have nbw:Hw bq=none:=by
   cases z:Hw bq with
   | none=>rfl
   | some o=>rw [s3 _ _ z] at hbq;cases hbq
  have nfw:Hw fq=none:=by
   cases z:Hw fq with
   | none=>rfl
   | some o=>rw [s4 _ _ (s3 _ _ z)] at hfq;cases hfq
  have nbf:bq≠fq:=fun z=>by rw [z] at hb4;rw [hb4] at hfq;cases hfq
  have d5:MvAt (off [bq,fq] H5) d0 (firstM g.letters.length):=by
   obtain ⟨as3,x1,x2,x3,x4⟩:=hN3.ex
   have nn:∀ (b:Addr) o,H3 b=some o->b∉[bq,fq]:=fun b o z m=>by
    simp only [List.mem_cons,List.not_mem_nil,or_false] at m
    rcases m with m | m
    ·rw [m,hbq] at z;cases z
    ·rw [m] at z;rw [s4 _ _ z] at hfq;cases hfq
   refine ⟨as3,by rw [off_not (nn _ _ x1)];exact s5 _ _ (s4 _ _ x1),x2.len,fun j b r e1 e2=>?_⟩
   have z:=x2.at_ j b r e1 e2
   rw [off_not (nn _ _ z)]
   exact s5 _ _ (s4 _ _ z)
  refine ⟨fun m σ H2=>∃ (v5 v6:Option V) (bs fs:List Addr) (Bs Fs:List Rows) (cs:List Nat),σ=[some (.ref p),some (.int n),some (.ref wq),some (.ref bq),some (.ref fq),v5,v6]/\WI ts g.letters.length n Hw bq fq H2 bs fs Bs Fs cs/\m=(Bs.map (wt g.letters.length n)).sum,
   ⟨_,none,none,[d0],[],[firstM g.letters.length],[],[0],rfl,⟨fun b o z=>s5 _ _ (s4 _ _ (s3 _ _ z)),nbw,nfw,nbf,s5 _ _ hb4,hf5,MvsAt.one d5,MvsAt.nil,SI.first hk0 hn1,BI.first _ _⟩,rfl⟩,?_⟩
  rintro m σ H2 ⟨v5,v6,bs,fs,Bs,Fs,cs,rfl,I,rfl⟩
  refine ⟨_,rfl,_,.inl ⟨_,SqL.of I.hb,rfl⟩,?_⟩
  by_cases hBs:Bs=[]
  ·-- nothing is left
   have hbs:bs=[]:=List.length_eq_zero_iff.mp (by rw [I.mb.len,hBs];rfl)
   rw [hbs]
   refine iteF' rfl ?_
   have si:=I.si
   rw [hBs] at si
   refine ⟨_,rfl,kk H2 fq fs Fs ts I.hf (I.mf.same off_same) si hts fun b o z _=>I.same _ _ (sw b o z)⟩
  ·obtain ⟨Bs',M,rfl⟩:=snoc_of_ne hBs
   obtain ⟨bs',d,rfl,hmb,hmd⟩:=I.mb.split
   have hne:((bs'++[d]).map V.ref).isEmpty=false:=by simp
   rw [hne]
   refine iteT ⟨fun σ' H'=>∃ m',m'<((Bs'++[M]).map (wt g.letters.length n)).sum/\∃ (v5 v6:Option V) (bs fs:List Addr) (Bs Fs:List Rows) (cs:List Nat),σ'=[some (.ref p),some (.int n),some (.ref wq),some (.ref bq),some (.ref fq),v5,v6]/\WI ts g.letters.length n Hw bq fq H' bs fs Bs Fs cs/\m'=(Bs.map (wt g.letters.length n)).sum,fun _ _ z=>z,?_⟩
   have emap:(bs'++[d]).map V.ref=bs'.map V.ref++[V.ref d]:=by simp
   have hb:=I.hb
   rw [emap] at hb
   refine ⟨_,rfl,.inl ⟨rfl,_,SqL.of hb⟩,bq,_,V.ref d,rfl,rfl,hb,(by simp),?_⟩
   have edl:(bs'.map V.ref++[V.ref d]).dropLast=bs'.map V.ref:=by simp
   rw [edl]
   have o3:off [bq,fq] (upd H2 bq (.lst (bs'.map V.ref)))=off [bq,fq] H2:=off_upd (by simp)
   have hb3:(upd H2 bq (.lst (bs'.map V.ref))) bq=some (.lst (bs'.map V.ref)):=upd_same
   have hf3:(upd H2 bq (.lst (bs'.map V.ref))) fq=some (.lst (fs.map V.ref)):=by rw [upd_ne I.ne.symm];exact I.hf
   have sw3:Same Hw (upd H2 bq (.lst (bs'.map V.ref))):=fun b o z=>by rw [upd_ne (ne_of_none z I.nb)];exact I.same b o z
   have mb3:=hmb
   have mf3:=I.mf
   have md3:=hmd
   rw [<-o3] at mb3 mf3 md3
   generalize upd H2 bq (.lst (bs'.map V.ref))=H6 at o3 hb3 hf3 sw3 mb3 mf3 md3
   obtain ⟨m',G⟩:=I.si.good M (by simp)
   have hm8:m'<=8:=Nat.le_trans G.le hn8
   have dd:=md3.same off_same
   have hwt:=wt_pos g.letters.length n M
   have hsum:=sum_snoc (wt g.letters.length n) Bs' M
   refine ⟨_,rfl,_,rfl,wq,d,qs,ts,M,_,m',rfl,SqL.of (sw3 _ _ hwq),hqs.same sw3,dd,G.ok,hk0,by omega,hwok,_,rfl,?_⟩
   obtain ⟨cs',c,hbi,hcs,hbl,hkn⟩:=I.bi.pop
   cases hnp:npm M m' ts with
   | false=>
    refine iteF' rfl ?_
    exact ⟨_,(by rw [hsum];omega),_,_,bs',fs,Bs',Fs,cs',rfl,⟨sw3,I.nb,I.nf,I.ne,hb3,hf3,mb3,mf3,I.si.drop hk0 hwok G.ok hnp,hbi⟩,rfl⟩
   | true=>
    refine iteT ?_
    refine ⟨_,rfl,d,M,_,m',rfl,dd,G.ok,hk0,hk8,by omega,fun hfu H7 k7=>?_,fun p' j' hfu H7 t ht k7=>?_⟩
    ·-- found
     have s7:Same H6 H7:=k7.same
     refine ⟨_,rfl,rfl,_,rfl,?_⟩
     refine iteT ?_
     have hfl:=(I.si.take hk0 hwok G hfu hnp).bound hk0
     have hfl2:Fs.length+1<=n*fac n ^ g.letters.length:=by simpa using hfl
     have hfl3:n*fac n ^ g.letters.length<=8*20000:=Nat.mul_le_mul hn8 hfac
     have hfslen:fs.length<sizeLine:=by
      rw [I.mf.len]
      exact Nat.lt_of_lt_of_le (by omega:Fs.length<160001) (by decide)
     refine ⟨_,rfl,.inl ⟨rfl,_,SqL.of (s7 _ _ hf3)⟩,_,rfl,fq,_,_,rfl,rfl,s7 _ _ hf3,by rw [List.length_map];exact hfslen,?_⟩
     have ef:fs.map V.ref++[V.ref d]=(fs++[d]).map V.ref:=by simp
     rw [ef]
     have o8:off [bq,fq] (upd H7 fq (.lst ((fs++[d]).map V.ref)))=off [bq,fq] H7:=off_upd (by simp)
     refine ⟨_,(by rw [hsum];omega),_,_,bs',fs++[d],Bs',Fs++[M],cs',rfl,⟨fun b o z=>?_,I.nb,I.nf,I.ne,?_,upd_same,?_,?_,I.si.take hk0 hwok G hfu hnp,hbi⟩,rfl⟩
     ·rw [upd_ne (ne_of_none z I.nf)]
      exact s7 _ _ (sw3 b o z)
     ·rw [upd_ne I.ne]
      exact s7 _ _ hb3
     ·rw [o8]
      exact mb3.same (off_mono s7)
     ·rw [o8]
      exact (mf3.same (off_mono s7)).app (MvsAt.one (md3.same (off_mono s7)))
    ·-- all ways
     have s7:Same H6 H7:=k7.same
     obtain ⟨hp',hj',hn',hkn'⟩:=firstU_some hfu
     refine ⟨_,rfl,rfl,_,rfl,?_⟩
     refine iteF' rfl ?_
     refine ⟨_,rfl,.inl ⟨rfl,_,SqL.of (s7 _ _ hb3)⟩,_,rfl,_,rfl,t,_,_,_,rfl,rfl,SqT.of ht,rfl,_,rfl,t,_,_,_,rfl,rfl,SqT.of ht,rfl,_,rfl,d,M,_,m',p',j',n,rfl,dd.same s7,G.ok,hk0,hk8,G.le,hn8,hj',hp',fun H8 l8 ds h8 hn8' hds k8=>?_⟩
     have s8:Same H7 H8:=k8.same
     have hlenb:bs'.length<=10000:=by
      rw [hmb.len]
      have z:=hbi.bound hk0 fun x hx=>I.si.good x (List.mem_append_left _ hx)
      have z2:(n+1)*(2*g.letters.length*n+1)<=9*129:=Nat.mul_le_mul (by omega) (by
       have:2*g.letters.length*n<=16*8:=Nat.mul_le_mul (by omega) hn8
       omega)
      omega
     have hlenk:=kids_len M g.letters.length m' n p' j'
     have hlend:ds.length<=9:=by rw [hds.len];omega
     refine ⟨bq,l8,_,_,rfl,rfl,s8 _ _ (s7 _ _ hb3),h8,by rw [List.length_map,List.length_map];exact lt_line (by omega),?_⟩
     have ef:bs'.map V.ref++ds.map V.ref=(bs'++ds).map V.ref:=by simp
     rw [ef]
     have o9:off [bq,fq] (upd H8 bq (.lst ((bs'++ds).map V.ref)))=off [bq,fq] H8:=off_upd (by simp)
     have hkw:=kids_wt G hk0 hfu
     have hc1:c<=2*g.letters.length*p'+j':=Nat.le_of_not_lt fun z=>by
      have y:=hkn _ z
      unfold cv at y
      rw [(cell_ix hj').1,(cell_ix hj').2] at y
      exact y hn'
     refine ⟨_,?_,_,_,bs'++ds,fs,Bs'++kids M g.letters.length m' n p' j',Fs,_,rfl,⟨fun b o z=>?_,I.nb,I.nf,I.ne,upd_same,?_,?_,?_,I.si.kids G hfu,hbi.push hcs hbl hc1 (Nat.le_trans hlenk (Nat.succ_le_succ G.le)) fun K hK x hx=>?_⟩,rfl⟩
     ·rw [hsum,List.map_append,List.sum_append]
      omega
     ·rw [upd_ne (ne_of_none z I.nb)]
      exact s8 _ _ (s7 _ _ (sw3 b o z))
     ·rw [upd_ne I.ne.symm]
      exact s8 _ _ (s7 _ _ hf3)
     ·rw [o9]
      refine (mb3.same (off_mono fun b o z=>s8 _ _ (s7 _ _ z))).app (hds.off fun b hb=>?_)
      simp only [List.mem_cons,List.not_mem_nil,or_false] at hb
      rcases hb with z | z
      ·rw [z,s7 _ _ hb3];simp
      ·rw [z,s7 _ _ hf3];simp
     ·rw [o9]
      exact mf3.same (off_mono fun b o z=>s8 _ _ (s7 _ _ z))
     ·obtain ⟨m2,g2,h2⟩:=kids_good G hfu K hK
      exact h2 x hx
end
end Gw
set_option Elab.async false
set_option linter.all false
set_option maxRecDepth 100000
set_option maxHeartbeats 8000000
namespace Gw
open PySem PySem.Spec PyProof.Rows L2
def numV (M:Rows):Nat->List V
 | 0=>[]
 | i+1=>numV M i++if i % 2=0 then (M.getD i []).map ov else []
theorem numV_len {M:Rows} {k m:Nat} (h:MvOk M k m):∀ i,(numV M i).length<=i*m
 | 0=>by simp [numV]
 | i+1=>by
  have ih:=numV_len h i
  have:(if i % 2=0 then (M.getD i []).map ov else []).length<=m:=by
   split
   ·rw [List.length_map,List.getD_eq_getElem?_getD]
    cases e:M[i]? with
    | none=>simp
    | some r=>exact Nat.le_of_eq (h.row r (List.mem_of_getElem? e))
   ·simp
  rw [numV,List.length_append,Nat.add_mul,Nat.one_mul]
  omega
theorem keyZ_pos (j:Nat):(0<keyZ j)↔j % 2=0:=by
 unfold keyZ
 split
 ·rename_i h;exact ⟨fun _=>h,fun _=>by omega⟩
 ·rename_i h;exact ⟨fun z=>by omega,fun z=>absurd z h⟩
section
variable {P:Program} {w:World} {K:PySem.W.Frag} {mg:Str->Option Value} {base:Heap} {a:AD}
def spTableNumbers:Sp:=fun vs H Q _=>∃ (d:Addr) (M:Rows) (k m:Nat),vs=[.ref d]/\MvAt H d M/\MvOk M k m/\k<=8/\m<=8/\∀ (H':Hp) (l:Addr),H l=none->H' l=some (.lst (numV M (2*k)))->Keep [] H H'->Q (.ref l) H'
theorem scTableNumbers:FnScope ["moves","numbers","number","row"] ["moves"] (defScope sTableNumbers):=⟨rfl,rfl,rfl,by decide +kernel,rfl,by decide +kernel,by decide +kernel⟩
theorem okTableNumbers (T:Tx K mg a):FnOk P w K mg base (CXE P w) 1 a.fTableNumbers a.dTableNumbers ["moves"] spTableNumbers:=by
 refine okE T.gTableNumbers.fn scTableNumbers (fun vs H Q E h=>?_) (fun cdv A outer s H vs Q E hr h=>?_)
 ·obtain ⟨d,M,k,m,rfl,_⟩:=h
  rfl
 ·obtain ⟨d,M,k,m,rfl,hd,hM,hk,hm,kk⟩:=h
  have hu:=hu_of hr
  obtain ⟨as,h1,hR0⟩:=hd.ex
  have hal:as.length=2*k:=by rw [hR0.len,hM.len]
  refine ⟨_,pss_cons (ps_set (i:=1) scTableNumbers.nd rfl (Or.inl rfl) (pe_lst pa_nil)) (pss_cons (ps_lock (ps_for ownE rfl (pi_items (pv 0)) (pg_tup (n:=2) rfl (pgs_cons (pg_name (i:=2) scTableNumbers.nd rfl (Or.inl rfl)) (pgs_cons (pg_name (i:=3) scTableNumbers.nd rfl (Or.inl rfl)) pgs_nil)))
   (pss_one (ps_if (pt_cmpR op_gt (pv 2) pe_int (nomark _)) (pss_one (ps_expr (pe_bm PySem.F.plainAttrs_list PySem.F.slot_list_extend PySem.F.type_list_extend mt_extend (pv 1) (pa_cons (pv 3) pa_nil)))) pss_nil)))) (pss_one (ps_ret (pv 1)))),?_⟩
  refine ⟨(by show 0<=sizeLine;decide),fun e he=>?_⟩
  have ned:d≠e:=ne_of_none h1 he
  have s0:Same H (upd H e (.lst [])):=(Keep.new he).same
  have he0:(upd H e (.lst [])) e=some (.lst []):=upd_same
  generalize upd H e (.lst [])=H0 at s0 he0
  refine ⟨d,.dK (mkv 0 as),s0 _ _ h1,trivial,fun od=>?_⟩
  refine ⟨_,rfl,d,od,_,rfl,upd_same,?_⟩
  refine for_items (d:=d) (o:=od) (kvs:=mkv 0 as) (fun i σ H2=>∃ (v2 v3:Option V),σ=[some (.ref d),some (.ref e),v2,v3]/\Keep [d] H H2/\H2 d=some (.frz od (.dK (mkv 0 as)))/\H2 e=some (.lst (numV M i)))
   ⟨none,none,rfl,fun b o z nb=>by rw [upd_ne (fun y=>nb (by simp [y]))];exact s0 _ _ z,upd_same,by rw [upd_ne ned.symm];exact he0⟩
   (fun i σ H2 _ ⟨_,_,_,_,z,_⟩=>z) ?_ ?_
  ·rintro i ky v σ H2 T0 hi ⟨v2,v3,rfl,k2,hd2,he2⟩ hT
   rw [mkv_at] at hi
   obtain ⟨c,hc,hcv⟩:∃ c,as[i]?=some c/\((Sum.inl (keyZ (0+i)):Key),V.ref c)=(ky,v):=by
    cases z:as[i]? with
    | none=>rw [z] at hi;cases hi
    | some c=>rw [z] at hi;exact ⟨c,rfl,Option.some.inj hi⟩
   cases hcv
   rw [Nat.zero_add]
   have hil:=(List.getElem?_eq_some_iff.mp hc).1
   have hiM:i<M.length:=by rw [<-hR0.len];exact hil
   have hrow:=hR0.at_ i c _ hc (List.getElem?_eq_getElem hiM)
   have ncd:c≠d:=ne_of hrow h1 (by intro z;cases z)
   have nce:c≠e:=ne_of_none hrow he
   have s3:Same H2 (upd H2 T0 (.tup [kV (Sum.inl (keyZ i)),V.ref c])):=(Keep.new hT).same
   have hT3:(upd H2 T0 (.tup [kV (Sum.inl (keyZ i)),V.ref c])) T0=some (.tup [V.int (keyZ i),V.ref c]):=upd_same
   generalize upd H2 T0 (.tup [kV (Sum.inl (keyZ i)),V.ref c])=H3 at s3 hT3
   refine ⟨T0,_,rfl,SqT.of hT3,rfl,_,_,rfl,_,_,rfl,rfl,?_⟩
   have hrow3:=s3 _ _ (k2 _ _ hrow (by simp only [List.mem_singleton];exact ncd))
   have eg:M.getD i []=M[i]:=by rw [List.getD_eq_getElem?_getD,List.getElem?_eq_getElem hiM];rfl
   refine ⟨_,rfl,_,_,rfl,rfl,_,rfl,?_⟩
   refine ite2 (fun h=>?_) (fun h=>?_)
   ·have h:i % 2=0:=(keyZ_pos i).mp (of_decide_eq_true h)
    have z1:=numV_len hM i
    have z2:i*m<=16*8:=Nat.mul_le_mul (by omega) hm
    refine ⟨_,rfl,.inl ⟨rfl,_,SqL.of (s3 _ _ he2)⟩,_,rfl,e,c,_,_,rfl,rfl,s3 _ _ he2,hrow3,by rw [List.length_map,hM.row _ (List.getElem_mem hiM)];exact Nat.le_of_lt (small1000' (by omega)),?_⟩
    have k6:Keep [e] H3 (upd H3 e (.lst (numV M i++M[i].map ov))):=Keep.upd
    refine ⟨_,_,rfl,fun b o z nb=>k6 _ _ (s3 _ _ (k2 b o z nb)) (by simp only [List.mem_singleton];exact ne_of_none z he),k6 _ _ (s3 _ _ hd2) (by simp only [List.mem_singleton];exact ned),?_⟩
    rw [numV,if_pos h,eg]
    exact upd_same
   ·have h:¬ i % 2=0:=fun z=>h (decide_eq_true ((keyZ_pos i).mpr z))
    refine ⟨_,_,rfl,fun b o z nb=>s3 _ _ (k2 b o z nb),s3 _ _ hd2,?_⟩
    rw [numV,if_neg h,List.append_nil]
    exact s3 _ _ he2
  ·rintro σ H2 ⟨v2,v3,rfl,k2,hd2,he2⟩
   refine ⟨hd2,⟨_,rfl,?_⟩⟩
   rw [mkv_len,hal] at he2
   refine kk _ e he (by rw [upd_ne ned.symm];exact he2) fun b o z _=>?_
   by_cases hb:b=d
   ·rw [hb,upd_same]
    rw [hb,h1] at z
    exact z
   ·rw [upd_ne hb]
    exact k2 b o z (by simp only [List.mem_singleton];exact hb)
end
end Gw
set_option Elab.async false
set_option linter.all false
set_option maxRecDepth 100000
set_option maxHeartbeats 8000000
namespace Gw
open PySem PySem.Spec PyProof.Rows L2
theorem MvsAt.snoc {H:Hp} {ds:List Addr} {Ms:List Rows} {d:Addr} {M:Rows} (h:MvsAt H ds Ms) (hd:MvAt H d M):MvsAt H (ds++[d]) (Ms++[M]):=
 h.app ⟨rfl,fun i e N e1 e2=>by
  cases i with
  | zero=>cases e1;cases e2;exact hd
  | succ i=>simp at e1⟩
section
variable {P:Program} {w:World} {K:PySem.W.Frag} {mg:Str->Option Value} {base:Heap} {a:AD}
def spOfPlaces (K:PySem.W.Frag):Sp:=fun vs H Q _=>∃ (f:Addr) (fs:List Addr) (Fs:List Rows) (n k:Nat),vs=[.ref f,.int n]/\H f=some (.lst (fs.map V.ref))/\MvsAt H fs Fs/\0<k/\(∀ M∈Fs,∃ m,MvOk M k m)/\Fs.length<sizeLine /\
 ∀ (H':Hp) (l:Addr) (ds:List Addr),H' l=some (.lst (ds.map V.ref))->MvsAt H' ds (ofN n Fs)->Keep [] H H'->Q (.ref l) H'
theorem scOfPlaces:FnScope ["whole","n","moves"] ["whole","n"] (defScope sOfPlaces):=⟨rfl,rfl,rfl,by decide +kernel,rfl,by decide +kernel,by decide +kernel⟩
theorem okOfPlaces (T:Tx K mg a):FnOk P w K mg base (CXE P w) 2 a.fOfPlaces a.dOfPlaces ["whole","n"] (spOfPlaces K):=by
 have GP:FnOk P w K mg base (CXE P w) 1 a.fPlacesOf a.dPlacesOf ["moves"] spPlacesOf:=okPlacesOf T
 refine okE T.gOfPlaces.fn scOfPlaces (fun vs H Q E h=>?_) (fun cdv A outer s H vs Q E hr h=>?_)
 ·obtain ⟨f,fs,Fs,n,k,rfl,_⟩:=h
  rfl
 ·obtain ⟨f,fs,Fs,n,k,rfl,hf,hms,hk,hok,hsz,kk⟩:=h
  refine ⟨_,pss_one (ps_ret (pe_lc (own:=[("moves",2)]) rfl scOfPlaces.nd (pi_list (pv 0)) (blkOk_by (by kernel_rfl)) (fun s H C cl fp=>pg_name (i:=2) scOfPlaces.nd rfl (Or.inl rfl) (.inr rfl))
   (fun s H C cl fp=>pts_one (pt_cmpR op_eq (pe_call GP hr rfl T.gPlacesOf.mg T.gPlacesOf.fn.kp T.gPlacesOf.bd .nil passF (pa_cons (pv 2) pa_nil)) (pv 1) (nomark _))) (fun s H C cl fp=>pv 2))),?_⟩
  refine ⟨_,rfl,f,rfl,⟨_,SqL.of hf⟩,fun D hD=>?_⟩
  have kD:∀ acc,Same H (upd H D (.lst acc)):=fun acc b o e=>by rw [upd_ne (ne_of_none e hD)];exact e
  refine lc_list (K:=K) (a:=f) (xs:=fs.map V.ref) (fun i H'=>∃ ds:List Addr,H'=upd H D (.lst (ds.map V.ref))/\MvsAt H ds (ofN n (Fs.take i))/\ds.length<=i) ⟨[],rfl,⟨rfl,fun i d M e=>by simp at e⟩,Nat.le_refl _⟩
   (fun i H' _ ⟨ds,e,_⟩=>by rw [e];exact SqL.of (kD _ _ _ hf)) (fun i x H' hx ⟨ds,e,hds,hdl⟩=>?_) (fun H' ⟨ds,e,hds,_⟩=>?_)
  ·subst e
   obtain ⟨c,hc,rfl⟩:∃ c:Addr,fs[i]?=some c/\x=V.ref c:=by
    rw [List.getElem?_map] at hx
    cases e:fs[i]? with
    | none=>rw [e] at hx;cases hx
    | some c=>rw [e] at hx;exact ⟨c,rfl,(Option.some.inj hx).symm⟩
   have hil:=(List.getElem?_eq_some_iff.mp hc).1
   rw [hms.len] at hil
   have hMv:=hms.at_ i c _ hc (List.getElem?_eq_getElem hil)
   obtain ⟨m,hm⟩:=hok Fs[i] (List.getElem_mem hil)
   have hp:pl Fs[i]=m:=hm.pl hk
   have et:ofN n (Fs.take (i+1))=ofN n (Fs.take i)++if m=n then [Fs[i]] else []:=by
    unfold ofN
    rw [List.take_add_one,List.getElem?_eq_getElem hil,List.filter_append]
    show _++List.filter _ [Fs[i]]=_
    rw [List.filter_cons,hp]
    by_cases z:m=n<;>simp [z]
   refine ⟨rfl,_,rfl,c,Fs[i],k,m,rfl,hMv.same (kD _),hm,hk,_,rfl,rfl,_,rfl,?_⟩
   refine ite2 (fun h=>?_) (fun h=>?_)
   ·have h:m=n:=by
     have z:=of_decide_eq_true h
     exact Int.ofNat.inj (V.int.inj z)
    rw [if_pos h] at et
    rw [et]
    refine ⟨_,rfl,_,upd_same,by rw [List.length_map];omega,ds++[c],?_,hds.snoc hMv,by rw [List.length_append];exact Nat.add_le_add_right hdl 1⟩
    rw [upd_upd,List.map_append]
    rfl
   ·have h:m≠n:=fun z=>h (decide_eq_true (by rw [z]))
    rw [if_neg h,List.append_nil] at et
    rw [et]
    exact ⟨ds,rfl,hds,by omega⟩
  ·subst e
   rw [List.length_map,hms.len,List.take_length] at hds
   exact kk _ D ds upd_same (hds.same (kD _)) fun b o z _=>kD _ b o z
end
end Gw
set_option Elab.async false
set_option linter.all false
set_option maxRecDepth 100000
set_option maxHeartbeats 8000000
namespace Gw
open PySem PySem.Spec PyProof.Rows L2
def zOf:V->Int
 | .int z=>z
 | _=>0
def listZ (H:Hp) (r:Addr):List Int:=match H r with
 | some (.lst xs)=>xs.map zOf
 | _=>[]
theorem zOf_map (l:List Int):(l.map V.int).map zOf=l:=by
 rw [List.map_map]
 exact List.map_id _
theorem numV_full {k n:Nat} {u:Sa54.Table} (h:Sa54.isTable k n u=true):∀ i,i<=k->numV (fullM u n) (2*i)=(asInts (u.take i).flatten).map V.int
 | 0,_=>rfl
 | i+1,hi=>by
  have hu:i<u.length:=by rw [(isTable_row h).1];omega
  have e:=(fullM_at n u i u[i] (List.getElem?_eq_getElem hu)).1
  rw [show 2*(i+1)=2*i+1+1 by omega,numV,numV,if_neg (show ¬ (2*i+1) % 2=0 by omega),if_pos (show 2*i % 2=0 by omega),List.append_nil,numV_full h i (by omega),List.getD_eq_getElem?_getD,e,List.take_add_one,List.getElem?_eq_getElem hu]
  show _++(u[i].map some).map ov=_
  unfold asInts
  simp only [Option.toList_some,List.flatten_append,List.map_append,List.flatten_cons,List.flatten_nil,List.append_nil]
  congr 1
  rw [List.map_map,List.map_map]
  rfl
structure NumsL (H:Hp) (rs:List Addr) (k:Nat) (Ms:List Rows):Prop where
 len:rs.length=Ms.length
 at_:∀ (i:Nat) (r:Addr) (M:Rows),rs[i]?=some r->Ms[i]?=some M->H r=some (.lst (numV M (2*k)))
theorem NumsL.keep {H H':Hp} {rs:List Addr} {k:Nat} {Ms:List Rows} (h:NumsL H rs k Ms) (s:∀ r∈rs,∀ o,H r=some o->H' r=some o):NumsL H' rs k Ms:=
 ⟨h.len,fun i r M e1 e2=>s r (List.mem_of_getElem? e1) _ (h.at_ i r M e1 e2)⟩
theorem NumsL.snoc {H:Hp} {rs:List Addr} {k:Nat} {Ms:List Rows} {r:Addr} {M:Rows} (h:NumsL H rs k Ms) (hr:H r=some (.lst (numV M (2*k)))):NumsL H (rs++[r]) k (Ms++[M]):=by
 refine ⟨by rw [List.length_append,List.length_append,h.len];rfl,fun i x N e1 e2=>?_⟩
 rcases Nat.lt_trichotomy i rs.length with c | c | c
 ·rw [List.getElem?_append_left c] at e1
  rw [List.getElem?_append_left (by rw [<-h.len];exact c)] at e2
  exact h.at_ i x N e1 e2
 ·rw [List.getElem?_append_right (by omega),show i-rs.length=0 by omega] at e1
  rw [List.getElem?_append_right (by have:=h.len;omega),show i-Ms.length=0 by have:=h.len;omega] at e2
  cases e1;cases e2;exact hr
 ·rw [List.getElem?_eq_none (by rw [List.length_append];exact c)] at e1
  cases e1
section
variable {P:Program} {w:World} {K:PySem.W.Frag} {mg:Str->Option Value} {base:Heap} {a:AD}
def tableDue (g:Sa54.Group) (n:Nat) (j:Int):List Int:=match (Sa54.all g n)[j.toNat]? with
 | some t=>0 :: asInts t.flatten
 | none=>[-5]
def tableAns (n j:Int) (b:List Nat):List Int:=if j<0\/¬ (1<=n/\n<=8) then [-2] else match Sa54.groupOf b with
 | .error f=>[Sa54.codeOf f (-3)]
 | .ok g=>if Sa54.most g.letters.length<n then [-2] else tableDue g n.toNat j
def spTableAnswer (K:PySem.W.Frag) (a:AD):Sp:=fun vs H Q E=>∃ (n j:Int) (t:Addr) (b:List Nat),vs=[.int n,.int j,.ref t]/\SqL K H t (nv b)/\b.length<=4096 /\
 (1<=n->n<=8->∀ g,Sa54.groupOf b=.ok g->fac n.toNat ^ g.letters.length<=20000) /\
 (∀ (c:Addr) (q':Option Addr) (code:Int) (H':Hp),CodeOf a (.ref c) code->tableAns n j b=[code]->E (.ref c) q' H')/\∀ (H':Hp) (l:Addr),H' l=some (.lst ((tableAns n j b).map V.int))->Q (.ref l) H'
theorem scTableAnswer:FnScope ["n","j","text","group","tables","moves"] ["n","j","text"] (defScope sTableAnswer):=⟨rfl,rfl,rfl,by decide +kernel,rfl,by decide +kernel,by decide +kernel⟩
theorem okTableAnswer (T:Tx K mg a):FnOk P w K mg base (CXE P w) 9 a.fTableAnswer a.dTableAnswer ["n","j","text"] (spTableAnswer K a):=by
 have GG:FnOk P w K mg base (CXE P w) 8 a.fGroupWithPlaces a.dGroupWithPlaces ["n","text"] (spGroupWithPlaces K a):=okGroupWithPlaces T
 have GM:FnOk P w K mg base (CXE P w) 8 a.fWholeMoves a.dWholeMoves ["group","most"] (spWholeMoves K a):=(okWholeMoves T).mono (by decide)
 have GO:FnOk P w K mg base (CXE P w) 8 a.fOfPlaces a.dOfPlaces ["whole","n"] (spOfPlaces K):=(okOfPlaces T).mono (by decide)
 have GT:FnOk P w K mg base (CXE P w) 8 a.fTableNumbers a.dTableNumbers ["moves"] spTableNumbers:=(okTableNumbers T).mono (by decide)
 refine okE T.gTableAnswer.fn scTableAnswer (fun vs H Q E h=>?_) (fun cdv A outer s H vs Q E hr h=>?_)
 ·obtain ⟨n,j,t,b,rfl,_⟩:=h
  rfl
 ·obtain ⟨n,j,t,b,rfl,ht,hb,hfac,kE,kQ⟩:=h
  have hu2:(cxE P w K mg base ["n","j","text","group","tables","moves"] "table_answer" sTableAnswer a.fTableAnswer cdv A outer s H E).A.units+2<cLine:=by
   refine Nat.lt_of_le_of_lt (m:=(A.deeper _).units+16*8+200) ?_ hr.un
   show (A.deeper _).units+2<=(A.deeper _).units+16*8+200
   omega
  refine ⟨_,pss_cons (ps_if (pt_cmpR op_lt (pv 1) pe_int (nomark _)) (pss_one (ps_raise takesE T.xWrongArguments rfl rfl)) pss_nil)
   (pss_cons (ps_set (i:=3) scTableAnswer.nd rfl (Or.inl rfl) (pe_call GG hr rfl T.gGroupWithPlaces.mg T.gGroupWithPlaces.fn.kp T.gGroupWithPlaces.bd .nil passE (pa_cons (pv 0) (pa_cons (pv 2) (pa_nil)))))
   (pss_cons (ps_set (i:=4) scTableAnswer.nd rfl (Or.inl rfl) (pe_callB (cr_sortedLL hu2) (by rfl) T.b_sorted bootSorted' (pa_cons (pe_lc (own:=[("moves",5)]) rfl scTableAnswer.nd
     (pi_list (pe_call GO hr rfl T.gOfPlaces.mg T.gOfPlaces.fn.kp T.gOfPlaces.bd .nil passE (pa_cons (pe_call GM hr rfl T.gWholeMoves.mg T.gWholeMoves.fn.kp T.gWholeMoves.bd .nil passE (pa_cons (pv 3) (pa_cons (pv 0) pa_nil))) (pa_cons (pv 0) pa_nil))))
     (blkOk_by (by kernel_rfl)) (fun s H C cl fp=>pg_name (i:=5) scTableAnswer.nd rfl (Or.inl rfl) (.inr rfl)) (fun s H C cl fp=>pts_nil)
     (fun s H C cl fp=>pe_call GT hr rfl T.gTableNumbers.mg T.gTableNumbers.fn.kp T.gTableNumbers.bd .nil passF (pa_cons (pv 5) pa_nil))) pa_nil)))
   (pss_cons (ps_if (pt_cmpR op_ge (pv 1) (pe_callB call_len_seq (by rfl) T.b_len PySem.boot_len (pa_cons (pv 4) pa_nil)) (nomark _)) (pss_one (ps_raise takesE T.xNoSuch rfl rfl)) pss_nil)
   (pss_one (ps_ret (pe_op op_cat (pe_lst (pa_cons pe_int pa_nil)) (pe_ix ix_list (pv 4) (pv 1) (fun _ _=>rfl)))))))),?_⟩
  have cA:CodeOf a (.ref a.cWrongArguments) (-2):=.inr (.inl ⟨rfl,rfl⟩)
  have cT:CodeOf a (.ref a.cWrongText) (-3):=.inr (.inr (.inl ⟨rfl,rfl⟩))
  have cN:CodeOf a (.ref a.cNoSuch) (-5):=.inr (.inr (.inr (.inr (.inl ⟨rfl,rfl⟩))))
  have cL:CodeOf a (.ref a.cTooLong) (-6):=.inr (.inr (.inr (.inr (.inr ⟨rfl,rfl⟩))))
  refine ⟨_,rfl,_,_,rfl,rfl,_,rfl,?_⟩
  refine ite2 (fun h=>?_) (fun h=>?_)
  ·exact kE _ _ _ _ cA (by unfold tableAns;rw [if_pos (.inl (of_decide_eq_true h))])
  have hj:¬ j<0:=fun z=>h (decide_eq_true z)
  refine ⟨_,rfl,_,rfl,n,t,b,rfl,ht,hb,fun z H'=>kE _ _ _ H' cA (by unfold tableAns;rw [if_pos (.inr z)]),fun h1 h8=>?_⟩
  have hin:¬ (j<0\/¬ (1<=n/\n<=8)):=fun z=>z.elim hj fun y=>y ⟨h1,h8⟩
  unfold tableAns at kE kQ
  rw [if_neg hin] at kE kQ
  have hfac:=hfac h1 h8
  cases eg:Sa54.groupOf b with
  | error f=>
   rw [eg] at kE
   cases f with
   | wrong=>exact fun H'=>kE _ _ _ H' cT rfl
   | full=>exact fun H'=>kE _ _ _ H' cL rfl
  | ok g=>
   rw [eg] at kE kQ
   simp only at kE kQ
   have hfac:=hfac g eg
   refine ⟨fun hm H'=>kE _ _ _ H' cA (by rw [if_pos hm]),fun hm H1 p sg GA GO k1=>?_⟩
   rw [if_neg (by omega)] at kE kQ
   obtain ⟨m,hmn⟩:∃ m:Nat,n=(m:Int):=⟨n.toNat,by omega⟩
   subst hmn
   rw [Int.toNat_natCast] at kE kQ hfac
   refine ⟨_,rfl,_,rfl,p,g,sg,m,rfl,GA,GO,by omega,by omega,hfac,fun H2 f fs Fs ts hf hms hsi hts k2=>?_⟩
   have hMok:∀ M∈Fs,∃ u q,Sol ts g.letters.length m u q/\M=fullM u q:=hsi.fnd
   have hFl:Fs.length<sizeLine:=by
    have hfl:=hsi.bound GO.pos
    have hfl3:m*fac m ^ g.letters.length<=8*20000:=Nat.mul_le_mul (by omega) hfac
    exact Nat.lt_of_lt_of_le (by omega:Fs.length<160001) (by decide)
   refine ⟨_,rfl,f,fs,Fs,m,g.letters.length,rfl,hf,hms,GO.pos,fun M hM=>by obtain ⟨u,q,S,rfl⟩:=hMok M hM;exact ⟨q,fullM_ok S.tb⟩,hFl,fun H3 l ds hl hds k3=>?_⟩
   refine ⟨l,rfl,⟨_,SqL.of hl⟩,fun D hD=>?_⟩
   have hM2:∀ M∈ofN m Fs,∃ u,Sa54.isTable g.letters.length m u=true/\M=fullM u m:=fun M hM=>by
    obtain ⟨z1,z2⟩:=List.mem_filter.mp hM
    obtain ⟨u,q,S,rfl⟩:=hMok M z1
    have z3:pl (fullM u q)=m:=of_decide_eq_true z2
    rw [(fullM_ok S.tb).pl GO.pos] at z3
    subst z3
    exact ⟨u,S.tb,rfl⟩
   have hNl:(ofN m Fs).length<sizeLine:=Nat.lt_of_le_of_lt (List.length_filter_le _ _) hFl
   refine lc_list (K:=K) (a:=l) (xs:=ds.map V.ref) (fun i H'=>∃ rs:List Addr,Same H3 H'/\H' D=some (.lst (rs.map V.ref))/\NumsL H' rs g.letters.length ((ofN m Fs).take i)/\∀ r∈rs,r≠D)
    ⟨[],fun b o e=>by rw [upd_ne (ne_of_none e hD)];exact e,upd_same,⟨rfl,fun i r M e=>by simp at e⟩,fun r z=>absurd z (by simp)⟩
    (fun i H' _ ⟨rs,z,_⟩=>SqL.of (z _ _ hl)) (fun i x H' hx ⟨rs,s4,hD4,hrs,hne⟩=>?_) (fun H' ⟨rs,s4,hD4,hrs,hne⟩=>?_)
   ·obtain ⟨c,hc,rfl⟩:∃ c:Addr,ds[i]?=some c/\x=V.ref c:=by
     rw [List.getElem?_map] at hx
     cases e:ds[i]? with
     | none=>rw [e] at hx;cases hx
     | some c=>rw [e] at hx;exact ⟨c,rfl,(Option.some.inj hx).symm⟩
    have hil:=(List.getElem?_eq_some_iff.mp hc).1
    rw [hds.len] at hil
    have hM:=List.getElem?_eq_getElem hil
    have hMv:=hds.at_ i c _ hc hM
    obtain ⟨u,hu,eM⟩:=hM2 _ (List.getElem_mem hil)
    have hrl:rs.length=i:=by rw [hrs.len,List.length_take];omega
    refine ⟨rfl,_,rfl,c,_,g.letters.length,m,rfl,hMv.same s4,by rw [eM];exact fullM_ok hu,GO.le,by omega,fun H5 r hr0 hr5 k5=>?_⟩
    have s5:Same H' H5:=k5.same
    have nrD:r≠D:=fun z=>by rw [z,hD4] at hr0;cases hr0
    refine ⟨_,s5 _ _ hD4,by rw [List.length_map,hrl];omega,rs++[r],fun b o z=>?_,by rw [upd_same,List.map_append];rfl,?_,fun q hq=>?_⟩
    ·rw [upd_ne (ne_of_none z hD)]
     exact s5 _ _ (s4 _ _ z)
    ·rw [List.take_add_one,hM]
     refine NumsL.snoc (hrs.keep fun q hq o z=>?_) ?_
     ·rw [upd_ne (hne q hq)]
      exact s5 _ _ z
     ·rw [upd_ne nrD]
      exact hr5
    ·rcases List.mem_append.mp hq with z | z
     ·exact hne q z
     ·rw [List.mem_singleton.mp z]
      exact nrD
   ·rw [List.length_map,hds.len,List.take_length] at hrs
    have hz:∀ (i:Nat) (r:Addr) (M:Rows),rs[i]?=some r->(ofN m Fs)[i]?=some M->H' r=some (.lst ((asInts (tbl M g.letters.length).flatten).map V.int)):=fun i r M e1 e2=>by
     obtain ⟨u,hu,eM⟩:=hM2 _ (List.mem_of_getElem? e2)
     rw [hrs.at_ i r M e1 e2,eM,numV_full hu _ (Nat.le_refl _),tbl_full hu,List.take_of_length_le (by rw [(isTable_row hu).1];exact Nat.le_refl _)]
    have hzz:∀ (i:Nat) (r:Addr) (M:Rows),rs[i]?=some r->(ofN m Fs)[i]?=some M->listZ H' r=asInts (tbl M g.letters.length).flatten:=fun i r M e1 e2=>by
     unfold listZ
     rw [hz i r M e1 e2]
     exact zOf_map _
    have hmap:rs.map (listZ H')=(ofN m Fs).map fun M=>nums (tbl M g.letters.length):=by
     refine List.ext_getElem? fun i=>?_
     rw [List.getElem?_map,List.getElem?_map]
     by_cases hi:i<rs.length
     ·have hi2:i<(ofN m Fs).length:=by rw [<-hrs.len];exact hi
      rw [List.getElem?_eq_getElem hi,List.getElem?_eq_getElem hi2,Option.map_some,Option.map_some,hzz i _ _ (List.getElem?_eq_getElem hi) (List.getElem?_eq_getElem hi2)]
      rfl
     ·rw [List.getElem?_eq_none (by omega),List.getElem?_eq_none (by rw [<-hrs.len];omega)]
      rfl
    have hzr:∀ r∈rs,H' r=some (.lst ((listZ H' r).map V.int)):=fun r hr=>by
     obtain ⟨i,hi⟩:=List.getElem?_of_mem hr
     have hil:=(List.getElem?_eq_some_iff.mp hi).1
     rw [hrs.len] at hil
     rw [hzz i r _ hi (List.getElem?_eq_getElem hil)]
     exact hz i r _ hi (List.getElem?_eq_getElem hil)
    refine ⟨D,rs,listZ H',rfl,SqL.of hD4,hzr,fun rs' q hp hs hq=>?_⟩
    have due:=table_due (out:=rs'.map (listZ H')) GO.pos (by omega:1<=m) hts hsi (by have e:=hp.map (listZ H');rw [hmap] at e;exact e) (List.pairwise_map.mpr hs)
    have s6:Same H' (upd H' q (.lst (rs'.map V.ref))):=(Keep.new hq).same
    have hq6:(upd H' q (.lst (rs'.map V.ref))) q=some (.lst (rs'.map V.ref)):=upd_same
    generalize upd H' q (.lst (rs'.map V.ref))=H6 at s6 hq6
    have hlen:rs'.length=(Sa54.all g m).length:=by
     have:=congrArg List.length due
     rwa [List.length_map,List.length_map] at this
    obtain ⟨jn,hjn⟩:∃ jn:Nat,j=(jn:Int):=⟨j.toNat,by omega⟩
    subst hjn
    unfold tableDue at kE kQ
    rw [Int.toNat_natCast] at kE kQ
    refine ⟨_,rfl,_,rfl,q,_,rfl,.inl (SqL.of hq6),_,_,rfl,rfl,_,rfl,?_⟩
    rw [List.length_map]
    refine ite2 (fun h=>?_) (fun h=>?_)
    ·have h:=of_decide_eq_true h
     rw [List.getElem?_eq_none (by omega)] at kE
     exact kE _ _ _ _ cN rfl
    ·have h:jn<rs'.length:=by
      have z:¬ ((rs'.length:Int)<=(jn:Int)):=fun z=>h (decide_eq_true z)
      omega
     have h2:jn<(Sa54.all g m).length:=by rw [<-hlen];exact h
     rw [List.getElem?_eq_getElem h2] at kQ
     have ez:listZ H' rs'[jn]=asInts ((Sa54.all g m)[jn]).flatten:=by
      have e:=congrArg (fun l=>l[jn]?) due
      simp only [List.getElem?_map,List.getElem?_eq_getElem h,List.getElem?_eq_getElem h2,Option.map_some] at e
      exact Option.some.inj e
     have hr6:=s6 _ _ (hzr _ (hp.mem_iff.mp (List.getElem_mem h)))
     rw [ez] at hr6
     refine ⟨(by show 1<=sizeLine;decide),fun l0 h0=>?_⟩
     have s7:Same H6 (upd H6 l0 (.lst [V.int 0])):=(Keep.new h0).same
     have hl0:(upd H6 l0 (.lst [V.int 0])) l0=some (.lst [V.int 0]):=upd_same
     generalize upd H6 l0 (.lst [V.int 0])=H7 at s7 hl0
     refine ⟨_,rfl,_,rfl,q,_,(jn:Int),V.ref rs'[jn],rfl,rfl,SqL.of (s7 _ _ hq6),atI_nat (by rw [List.getElem?_map,List.getElem?_eq_getElem h];rfl),?_⟩
     refine ⟨l0,rs'[jn],_,_,rfl,rfl,hl0,s7 _ _ hr6,?_,fun l9 h9=>kQ _ l9 ?_⟩
     ·have hu:Sa54.isTable g.letters.length m (Sa54.all g m)[jn]=true:=(mem_tables m _ _).mp (List.mem_filter.mp ((List.mergeSort_perm _ _).mem_iff.mp (List.getElem_mem h2))).1
      have z1:=flat_len hu
      have z2:g.letters.length*m<=8*8:=Nat.mul_le_mul GO.le (by omega)
      show 1+((List.map Int.ofNat _).map V.int).length<=sizeLine
      rw [List.length_map,List.length_map,z1]
      exact lt_line (by omega)
     ·rw [upd_same]
      rfl
def spTable (K:PySem.W.Frag) (P0:Addr):Sp:=fun vs H Q _=>∃ (n j:Int) (t:Addr) (b:List Nat),vs=[.int n,.int j,.ref t]/\SqL K H t (nv b)/\b.length<=4096 /\
 (1<=n->n<=8->∀ g,Sa54.groupOf b=.ok g->fac n.toNat ^ g.letters.length<=20000)/\H P0=some (.tbl #[])/\∀ (H':Hp) (l:Addr),H' l=some (.lst ((tableAns n j b).map V.int))->Q (.ref l) H'
theorem scTable:FnScope ["n","j","text"] ["n","j","text"] (defScope sGwTable):=⟨rfl,rfl,rfl,by decide +kernel,rfl,by decide +kernel,by decide +kernel⟩
theorem okTable (T:Tx K mg a) {c0 P0:Addr} (MI:MakerIn base mg c0 P0) (hc:a.dGwTable.code=.ref c0):FnOk P w K mg base (CXE P w) 12 a.fGwTable a.dGwTable ["n","j","text"] (spTable K P0):=by
 refine okMk T.gGwTable.fn hc scTable (fun vs H Q E h=>?_) (fun A outer s H vs Q E hr h=>?_)
 ·obtain ⟨n,j,t,b,rfl,_⟩:=h
  rfl
 ·obtain ⟨n,j,t,b,rfl,ht,hb,hfac,hP,k⟩:=h
  refine ⟨_,pss_one (ps_ret (pe_lamcall (p0:="find_answer") (c0:=c0) (P0:=P0) ⟨rfl,rfl,rfl⟩ ⟨rfl,MI.hd,MI.bm⟩ ⟨rfl,rfl,rfl,by decide +kernel,by kernel_rfl⟩ rfl T.gAnswerOrRefusal.mg T.gAnswerOrRefusal.fn.kp passE (by kernel_rfl) (by kernel_rfl) rfl rfl)),?_⟩
  refine ⟨[.int n,.int j,.ref t],rfl,hP,fun base1 f c ctv pm cl more KX NX LA=>?_⟩
  have GA:FnOk P w K mg base1 (CXE P w) 9 a.fTableAnswer a.dTableAnswer ["n","j","text"] (spTableAnswer K a):=okTableAnswer T
  have GF:=lam_ok (CX:=CXE P w) (P:=P) (w:=w) (K:=K) (mg:=mg) (k:=9) (sp:=fun H Q E=>spTableAnswer K a [.int n,.int j,.ref t] H Q E) LA ⟨rfl,rfl,rfl,by decide +kernel,by kernel_rfl⟩ (fun A outer s H Q E hr h=>⟨_,pe_call GA hr rfl T.gTableAnswer.mg T.gTableAnswer.fn.kp T.gTableAnswer.bd .nil takes_lam.pass (pa_cons (pv 0) (pa_cons (pv 1) (pa_cons (pv 2) pa_nil))),_,rfl,_,rfl,_,rfl,h⟩)
  refine ⟨11,_,_,okAnswer T GF LA.ob rfl (fun s=>BindsTo.of_eq rfl),hr,T.gAnswerOrRefusal.bd,rfl,fun E' hE=>⟨rfl,n,j,t,b,rfl,SqL.tbl ht hP,hb,hfac,fun c q' code H' hco e=>hE _ _ _ ⟨code,hco,fun l hl=>k _ l (by rw [upd_same,e];rfl)⟩,k⟩⟩
end
end Gw
set_option Elab.async false
set_option linter.all false
set_option maxRecDepth 100000
set_option maxHeartbeats 8000000
namespace Gw
open PySem PySem.Spec PyProof.Rows L2
theorem within18 (n:Int):(Sa54.within n 1 8=false)↔¬ (1<=n/\n<=8):=by
 unfold Sa54.within
 by_cases h1:1<=n<;>by_cases h2:n<=8<;>simp [h1,h2]
theorem within4096 (k:Nat) (h:k<=4096):Sa54.within (k:Int) 0 4096=true:=by unfold Sa54.within;simp;omega
def flat (a:Sa54.Ans):List Int:=a.v :: a.l.map fun (y:Nat)=>(y:Int)
theorem does_table (b:List Nat) (k:Nat) (n j:Int) (hk:k<=4096):flat (Sx32.does (.table b (k:Int) n j))=tableAns n j b:=by
 have hg:Sa54.good (.table b (k:Int) n j)=decide (0<=j):=by
  show (Sa54.within (k:Int) 0 4096&&decide (0<=j))=_
  rw [within4096 k hk]
  rfl
 by_cases hn:j<0\/¬ (1<=n/\n<=8)
 ·have e:Sx32.does (.table b (k:Int) n j)=Sa54.ok (-2):=by
   unfold Sx32.does
   refine if_pos (hn.imp (fun z=>?_) fun z=>(within18 n).mpr z)
   rw [hg,decide_eq_false_iff_not]
   omega
  rw [e]
  unfold tableAns
  rw [if_pos hn]
  rfl
 ·have h0:¬ (Sa54.good (.table b (k:Int) n j)=false\/Sa54.within (Sa54.placesOf (.table b (k:Int) n j)) 1 8=false):=by
   rintro (z | z)
   ·rw [hg,decide_eq_false_iff_not] at z
    exact hn (.inl (by omega))
   ·exact hn (.inr ((within18 n).mp z))
  have e:Sx32.does (.table b (k:Int) n j)=match Sa54.groupOf b with
    | .error e=>Sa54.ok (Sa54.codeOf e (-3))
    | .ok g=>if Sa54.most g.letters.length<n then Sa54.ok (-2) else match (Sa54.all g n.toNat)[j.toNat]? with
     | some t=>⟨0,t.flatten⟩
     | none=>Sa54.ok (-5):=by
   unfold Sx32.does
   rw [if_neg h0]
   rfl
  rw [e]
  unfold tableAns
  rw [if_neg hn]
  cases eg:Sa54.groupOf b with
  | error f=>rfl
  | ok g=>
   simp only
   by_cases hm2:Sa54.most g.letters.length<n
   ·rw [if_pos hm2,if_pos hm2]
    rfl
   ·rw [if_neg hm2,if_neg hm2]
    unfold tableDue
    cases ew:(Sa54.all g n.toNat)[j.toNat]? with
    | none=>rfl
    | some x=>rfl
theorem nats_eq (l:List Int):Sx32Neutral.nats l=l.map Int.toNat:=rfl
theorem nv_of (ns:List Int) (h:∀ x∈ns,0<=x):ns.map V.int=nv (ns.map Int.toNat):=by
 unfold nv
 rw [List.map_map]
 refine List.map_congr_left fun x hx=>?_
 have:=h x hx
 show V.int x=V.int ((x.toNat:Nat):Int)
 congr 1
 omega
theorem in_list {lo hi:Int} {a b:Nat} {ns:List Int} (h:(PySem.W.Codec.inLen a b ns&&ns.all (PySem.W.Codec.inInt lo hi))=true):ns.length<=b/\∀ x∈ns,lo<=x/\x<=hi:=by
 simp only [Bool.and_eq_true] at h
 refine ⟨?_,fun x hx=>?_⟩
 ·have z:=h.1
  unfold PySem.W.Codec.inLen PySem.W.Codec.inNat at z
  simp at z
  omega
 ·have z:=List.all_eq_true.mp h.2 x hx
  unfold PySem.W.Codec.inInt at z
  simpa using z
theorem app_eq (f:PySem.W.Codec.fn Bool PySem.Challenge.rw_tablegroups_s04_gw_table.args) (n j:Int) (ts:List Int) (un:PySem.W.Codec.denoteAll []):PySem.W.Codec.app PySem.Challenge.rw_tablegroups_s04_gw_table.args f (n,j,ts,un)=(show Int->Int->List Int->Bool from f) n j ts:=rfl
theorem asked_is:(show Int->Int->List Int->Bool from PySem.Challenge.rw_tablegroups_s04_gw_table.asked)=PySx32.gw_table_asked:=by kernel_rfl
theorem asked_of {n j:Int} {ts:List Int} {un:PySem.W.Codec.denoteAll []} (h:PySem.W.Codec.app PySem.Challenge.rw_tablegroups_s04_gw_table.args PySem.Challenge.rw_tablegroups_s04_gw_table.asked (n,j,ts,un)=true):PySx32.gw_table_asked n j ts=true:=by
 rw [app_eq] at h
 have e:=congrFun (congrFun (congrFun asked_is n) j) ts
 exact e.symm.trans h
theorem fac_is:∀ n,Sx32Neutral.factorial n=fac n
 | 0=>rfl
 | n+1=>by
  show (n+1)*Sx32Neutral.factorial n=(n+1)*fac n
  rw [fac_is n]
theorem small_of {n:Int} {b:List Int} (z2:Sx32Neutral.small n b=true):1<=n->n<=8->∀ g,Sa54.groupOf (b.map Int.toNat)=.ok g->fac n.toNat ^ g.letters.length<=20000:=fun h1 h8 g eg=>by
 unfold Sx32Neutral.small at z2
 rw [nats_eq,eg] at z2
 simp only [Bool.or_eq_true,decide_eq_true_eq] at z2
 rw [<-fac_is]
 rcases z2 with y | y | y
 ·omega
 ·omega
 ·exact y
theorem few_of {n j:Int} {ts:List Int} (h:PySx32.gw_table_asked n j ts=true):1<=n->n<=8->∀ g,Sa54.groupOf (ts.map Int.toNat)=.ok g->fac n.toNat ^ g.letters.length<=20000:=by
 unfold PySx32.gw_table_asked Sx32Neutral.asked Sx32Neutral.asked1 at h
 simp only [Bool.and_eq_true] at h
 exact small_of h.2.2
theorem said:PySem.Challenge.rw_tablegroups_s04_gw_table.wellSaid=true:=by decide +kernel
theorem args_of {K:Params->PySem.W.Frag} (P:Params) (h:Heap) (args:List PySem.W.WData) (vals:List Value) (hpre:PySem.Challenge.rw_tablegroups_s04_gw_table.pre args=true) (hw:PySem.W.WellAll P h vals args) :
   ∃ (as:List LArg) (vs:List V) (out:List Int),(∀ x∈as,x.Ok h)/\Vals vs vals/\vals.length=3/\PySem.Challenge.rw_tablegroups_s04_gw_table.post args (.list (out.map PySem.W.WData.int))=true /\
    ∀ (w:World) (H:Hp) (P0:Addr),H P0=some (.tbl #[])->(∀ x∈as,SqL (K w.params) H x.a (x.ns.map V.int))->spTable (K w.params) P0 vs H (fun v H'=>∃ l,v=.ref l/\H' l=some (.lst (out.map V.int))) fun _ _ _=>False:=by
 obtain ⟨av,hwi,hask,rfl⟩:=PySem.W.os_pre said hpre
 obtain ⟨n,j,ts,un⟩:=av
 have h1:(PySem.W.Codec.inInt (-2147483648) 2147483647 n&&(PySem.W.Codec.inInt (-9223372036854775808) 9223372036854775807 j&&((PySem.W.Codec.inLen 0 4096 ts&&ts.all (PySem.W.Codec.inInt 0 255))&&true)))=true:=hwi
 simp only [Bool.and_eq_true,Bool.and_true] at h1
 obtain ⟨hn,hj,ht⟩:=h1
 obtain ⟨t1,t2⟩:=in_list (Bool.and_eq_true_iff.mpr ht)
 have hfew:=few_of (asked_of hask)
 have hw:PySem.W.WellAll P h vals [.int n,.int j,.list (ts.map PySem.W.WData.int)]:=hw
 cases hw with
 | cons u1 hw=>
 cases hw with
 | cons u2 hw=>
 cases hw with
 | cons u3 hw=>
 cases hw
 cases u1 with
 | int i tk=>
 cases u2 with
 | int i2 tk2=>
 cases u3 with
 | list ho3 hall3=>
 rename_i a3 vs3
 have hi3:=Att.ints_of_wellAll ts _ hall3
 refine ⟨[⟨a3,vs3,ts⟩],[.int n,.int j,.ref a3],tableAns n j (ts.map Int.toNat),fun x hx=>?_,.cons ⟨_,rfl⟩ (.cons ⟨_,rfl⟩ (.cons rfl .nil)),rfl,?_,fun w H P0 hP hS=>?_⟩
 ·rw [List.mem_singleton.mp hx]
  exact ⟨ho3,hi3,Nat.le_trans t1 (by decide)⟩
 ·refine PySem.W.os_shut said hwi ?_
  show _=PySem.W.WData.list ((PySx32.gw_table n j ts).map PySem.W.WData.int)
  have e:PySx32.gw_table n j ts=flat (Sx32.does (.table (ts.map Int.toNat) (ts.length:Int) n j)):=rfl
  rw [e,does_table _ _ _ _ t1]
 ·have S3:=hS ⟨a3,vs3,ts⟩ (by simp)
  rw [nv_of _ fun x hx=>(t2 x hx).1] at S3
  exact ⟨n,j,a3,_,rfl,S3,by rw [List.length_map];exact t1,hfew,hP,fun H' l hl=>⟨l,rfl,hl⟩⟩
theorem walk {q:Program} {loose:List Str} {XP:(Str->Option Value)->Heap->Prop} {YP:World->Heap->Prop} {d:DefRec} {K:Params->PySem.W.Frag} (hdf:d.params.defaults=[]) (hrec:(recsOf q).find? (fun e=>e.name==d.name)=some d) (hnt:∀ p:Params,PySem.W.noTabs (K p)=true)
  (hY:∀ (w:World) (h:Heap),YP w h->(K w.params).In h)
  (F:∀ (w:World) (mg:Str->Option Value) (fa:Addr) (h:Heap),(K w.params).In h->h.Ns mainGlobals mg->mg d.name=some (.ref fa)->∃ a,Tx (K w.params) mg a/\fa=a.fGwTable) :
  PySem.W.WalkOS q loose XP YP PySem.Challenge.rw_tablegroups_s04_gw_table d [] (fun f vs=>PySem.call f vs):=by
 refine L2.walk_os (k:=12) (ps:=["n","j","text"]) (CX:=fun w=>CXE PySem.Challenge.rw_tablegroups_s04_gw_table.prog w) (sp:=fun w P0=>spTable (K w.params) P0) hdf ⟨rfl,by decide,by decide⟩ hrec hnt hY (fun w mg fa h KX G hmg=>?_) (fun P h args vals=>args_of P h args vals) (fun w H s e s'=>cxe_none _ w H s e s')
 obtain ⟨a,T,rfl⟩:=F w mg fa h KX G hmg
 obtain ⟨oc,od,kV,doc,pm,an,cdv,ct,osl,_,lk,_⟩:=T.gGwTable.fn.ex
 exact ⟨a.dGwTable,⟨oc,od,osl,lk⟩,fun s us hk hl=>by
  have z:=T.gGwTable.bd s us hk (by rw [List.append_nil];exact hl)
  rw [List.append_nil] at z
  exact z,fun base c0 P0 _ _ MI hc=>okTable T MI hc⟩
end Gw
open PySem PySem.W PyProof.Rows PySem.Calls
set_option Elab.async false
def Gw.without:List Nat->Nat->List PySem.Stmt->List PySem.Stmt
 | _,_,[]=>[]
 | [],_,s :: l=>s :: l
 | c :: cs,n,s :: l=>match Nat.beq c n with
  | true=>Gw.without cs (n+1) l
  | false=>s :: Gw.without (c :: cs) (n+1) l
def Gw.view:PySem.Program:={PySem.Challenge.pw_tablegroups_s04_gw_table with main:={PySem.Challenge.pw_tablegroups_s04_gw_table.main with body:=Gw.without [0,44,61] 0 PySem.Challenge.pw_tablegroups_s04_gw_table.main.body}}
theorem Gw.lookA (w:World) (os:OsState):(L2.topT PySem.Challenge.pw_tablegroups_s04_gw_table 4207 w os).map (fun s=>((L2.looks PySem.Challenge.pw_tablegroups_s04_gw_table Gw.view s).1,(L2.looks PySem.Challenge.pw_tablegroups_s04_gw_table Gw.view s).2.1,(L2.looks PySem.Challenge.pw_tablegroups_s04_gw_table Gw.view s).2.2.2.1,(L2.looks PySem.Challenge.pw_tablegroups_s04_gw_table Gw.view s).2.2.2.2.1))=some (expectedOf Gw.view,bltViewBooted,true,pinGoodD (drecsOf Gw.view)):=by kernel_rfl
theorem Gw.lookB (w:World) (os:OsState):(L2.topT PySem.Challenge.pw_tablegroups_s04_gw_table 4207 w os).map (fun s=>(L2.looks PySem.Challenge.pw_tablegroups_s04_gw_table Gw.view s).2.2.1)=some true:=by kernel_rfl
theorem Gw.lookC (w:World) (os:OsState):(L2.topT PySem.Challenge.pw_tablegroups_s04_gw_table 4207 w os).map (fun s=>((L2.looks PySem.Challenge.pw_tablegroups_s04_gw_table Gw.view s).2.2.2.2.2.1,(L2.looks PySem.Challenge.pw_tablegroups_s04_gw_table Gw.view s).2.2.2.2.2.2.1))=some (plainGoodE Gw.view (looseW Gw.view []),plainGoodD Gw.view []):=by kernel_rfl
theorem Gw.lookD (w:World) (os:OsState):(L2.topT PySem.Challenge.pw_tablegroups_s04_gw_table 4207 w os).map (fun s=>((L2.looks PySem.Challenge.pw_tablegroups_s04_gw_table Gw.view s).2.2.2.2.2.2.2.1,(L2.looks PySem.Challenge.pw_tablegroups_s04_gw_table Gw.view s).2.2.2.2.2.2.2.2,staticsOk (Fast.tw5923862056798008813 PySem.Challenge.pw_tablegroups_s04_gw_table.main.body) (boot_heap w.params) s.abs.heap&&namesBound PySem.Challenge.pw_tablegroups_s04_gw_table s.abs.heap&&gensDone s.abs&&laidKept (boot_heap w.params) s.abs.heap))=some (wideGood Gw.view,clsGoodW Gw.view [],true):=by kernel_rfl
open PySem PySem.W PyProof.Rows
set_option Elab.async false
local macro_rules | `(tactic| o_headS $H) => `(tactic| (
 refine' holds_os (q:=Gw.view) (loose:=[]) (Xt:=fun s=>xlAt Gw.view [] s&&recOk [] s) (XP:=XL Gw.view []) (Yf:=Hook.obs $H) (Ya:=Hook.val $H) (YP:=Hook.says $H) (N:=6914) (L2.left_parts (M:=4207) rfl rfl rfl (fun _=>rfl) Gw.lookA Gw.lookB Gw.lookC Gw.lookD ?_) (Hook.of $H) (Hook.keeps $H) (fun s e=>xl_of s (Bool.and_eq_true_iff.mp e).1) XL.keeps (by rfl) (by rfl) (by rfl) (fun s e=>recFacts_of (Bool.and_eq_true_iff.mp e).2) os_shapes (by decide +kernel) (by decide +kernel) ⟨rfl,rfl,rfl,rfl,rfl,by decide +kernel⟩ ?_ ?_
 ·intro w os;kernel_rfl
 ·exact ⟨[.int 1,.int 0,.list []],by decide +kernel,by decide +kernel⟩))
set_option maxRecDepth 100000 in
set_option maxHeartbeats 0 in
theorem PySem.Challenge.cw_tablegroups_s04_gw_table_holds : PySem.Challenge.rw_tablegroups_s04_gw_table.Holds := by
 w_on;k_headS
 k_fillS
 refine Gw.walk rfl ?hrec ?hnt (fun w h Y=>PySem.W.kIn_of Y) ?F
 case hrec=>kernel_rfl
 case hnt=>intro p;kernel_rfl
 case F=>
  intro w mg fa h KX G hmg
  have T:∃ a,Gw.Tx (L2.KOf KX) mg a/\mg "gw_table" = some (.ref a.fGwTable):=by
   dsimp only [L2.KOf]
   refine' Gw.txt_mk KX G ?a_45 ?e_45 ?a_35 ?e_35 ?a_2 ?e_2 ?a_3 ?e_3 ?a_25 ?e_25 ?a_26 ?e_26 ?a_44 ?e_44 ?m_2_2 ?m_3_2 ?m_3_3 ?m_25_2 ?m_25_3 ?m_25_25 ?m_26_2 ?m_26_3 ?m_26_25 ?m_26_26 ?m_44_2 ?m_44_3 ?m_44_25 ?m_44_26 ?m_44_44 ?m_35_2 ?m_35_3 ?m_35_25 ?m_35_26 ?m_35_44 ?m_35_35 ?m_45_45 ?m_35_45 ?a_46 ?fi_46 ?if_46 ?l_46 ?cd__46 ?k_46 ?pg_46 ?hd_46 ?po_46 ?sa_46 ?mk_46 ?kc_46 ?na_46_letters ?na_46_signs ?na_46_words ?a_47 ?fi_47 ?if_47 ?l_47 ?cd__47 ?k_47 ?pg_47 ?hd_47 ?po_47 ?sa_47 ?mk_47 ?kc_47 ?na_47_bracket ?na_47_ended ?na_47_written ?na_47_has_part ?a_31 ?l_31 ?cd__31 ?k_31 ?a_6 ?l_6 ?cd__6 ?k_6 ?a_13 ?l_13 ?cd__13 ?k_13 ?a_4 ?l_4 ?cd__4 ?k_4 ?a_7 ?l_7 ?cd__7 ?k_7 ?a_27 ?l_27 ?cd__27 ?k_27 ?a_5 ?l_5 ?cd__5 ?k_5 ?a_28 ?l_28 ?cd__28 ?k_28 ?a_36 ?l_36 ?cd__36 ?k_36 ?a_8 ?l_8 ?cd__8 ?k_8 ?a_37 ?l_37 ?cd__37 ?k_37 ?a_17 ?l_17 ?cd__17 ?k_17 ?a_18 ?l_18 ?cd__18 ?k_18 ?a_38 ?l_38 ?cd__38 ?k_38 ?a_19 ?l_19 ?cd__19 ?k_19 ?a_14 ?l_14 ?cd__14 ?k_14 ?a_20 ?l_20 ?cd__20 ?k_20 ?a_39 ?l_39 ?cd__39 ?k_39 ?a_21 ?l_21 ?cd__21 ?k_21 ?a_22 ?l_22 ?cd__22 ?k_22 ?a_9 ?l_9 ?cd__9 ?k_9 ?a_29 ?l_29 ?cd__29 ?k_29 ?a_23 ?l_23 ?cd__23 ?k_23 ?a_32 ?l_32 ?cd__32 ?k_32 ?a_10 ?l_10 ?cd__10 ?k_10 ?a_40 ?l_40 ?cd__40 ?k_40 ?a_33 ?l_33 ?cd__33 ?k_33 ?a_30 ?l_30 ?cd__30 ?k_30 ?a_11 ?l_11 ?cd__11 ?k_11 ?a_41 ?l_41 ?cd__41 ?k_41 ?a_12 ?l_12 ?cd__12 ?k_12 ?a_42 ?l_42 ?cd__42 ?k_42 ?a_0 ?l_0 ?cd__0 ?k_0 ?a_15 ?l_15 ?cd__15 ?k_15 ?a_34 ?l_34 ?cd__34 ?k_34 ?a_16 ?l_16 ?cd__16 ?k_16 ?a_24 ?l_24 ?cd__24 ?k_24 ?a_1 ?l_1 ?cd__1 ?k_1 ?a_43 ?l_43 ?cd__43 ?k_43 ?v_MOST_LETTERS ?v_MOST_WORDS ?v_MOST_BRACKETS ?v_MOST_WRITTEN ?v_MOST_DIGITS ?v_BLANK ?v_ROUND ?v_ROUND_END ?v_COMMA ?v_MINUS ?v_ZERO ?v_NINE ?v_SQUARE ?v_SQUARE_END ?v_SMALL_A ?v_SMALL_Z ?v_BAR ?v_WORDS_OF_TEXT ?v_WORD_ALONE ?v_GREAT_TO_SMALL ?v_NO_ORDER ?v_NOWHERE ?v_LONGEST ?v_MOST_PLACES_AT_ALL ?v_MOST_REFUSED ?v_ARGUMENTS_REFUSED ?v_TEXT_REFUSED ?v_WORD_REFUSED ?v_NO_SUCH_REFUSED ?v_TOO_LONG_REFUSED ?a_MOST_PLACES ?l_MOST_PLACES ?a_ORDERS ?l_ORDERS ?b_abs ?b_enumerate ?b_len ?b_list ?b_range ?b_reversed ?b_set ?b_sorted ?b_tuple
   (case a_45=>k_is)
   (case e_45=>first | k_exc | kernel_rfl)
   (case a_35=>k_is)
   (case e_35=>first | k_exc | kernel_rfl)
   (case a_2=>k_is)
   (case e_2=>first | k_exc | kernel_rfl)
   (case a_3=>k_is)
   (case e_3=>first | k_exc | kernel_rfl)
   (case a_25=>k_is)
   (case e_25=>first | k_exc | kernel_rfl)
   (case a_26=>k_is)
   (case e_26=>first | k_exc | kernel_rfl)
   (case a_44=>k_is)
   (case e_44=>first | k_exc | kernel_rfl)
   (case m_2_2=>kernel_rfl)
   (case m_3_2=>kernel_rfl)
   (case m_3_3=>kernel_rfl)
   (case m_25_2=>kernel_rfl)
   (case m_25_3=>kernel_rfl)
   (case m_25_25=>kernel_rfl)
   (case m_26_2=>kernel_rfl)
   (case m_26_3=>kernel_rfl)
   (case m_26_25=>kernel_rfl)
   (case m_26_26=>kernel_rfl)
   (case m_44_2=>kernel_rfl)
   (case m_44_3=>kernel_rfl)
   (case m_44_25=>kernel_rfl)
   (case m_44_26=>kernel_rfl)
   (case m_44_44=>kernel_rfl)
   (case m_35_2=>kernel_rfl)
   (case m_35_3=>kernel_rfl)
   (case m_35_25=>kernel_rfl)
   (case m_35_26=>kernel_rfl)
   (case m_35_44=>kernel_rfl)
   (case m_35_35=>kernel_rfl)
   (case m_45_45=>kernel_rfl)
   (case m_35_45=>kernel_rfl)
   (case a_46=>k_is)
   (case fi_46=>k_is)
   (case if_46=>k_is)
   (case l_46=>k_is)
   (case cd__46=>k_is)
   (case k_46=>k_is)
   (case pg_46=>k_is)
   (case hd_46=>k_is)
   (case po_46=>k_is)
   (case sa_46=>k_is)
   (case mk_46=>k_is)
   (case kc_46=>k_is)
   (case na_46_letters=>k_is)
   (case na_46_signs=>k_is)
   (case na_46_words=>k_is)
   (case a_47=>k_is)
   (case fi_47=>k_is)
   (case if_47=>k_is)
   (case l_47=>k_is)
   (case cd__47=>k_is)
   (case k_47=>k_is)
   (case pg_47=>k_is)
   (case hd_47=>k_is)
   (case po_47=>k_is)
   (case sa_47=>k_is)
   (case mk_47=>k_is)
   (case kc_47=>k_is)
   (case na_47_bracket=>k_is)
   (case na_47_ended=>k_is)
   (case na_47_written=>k_is)
   (case na_47_has_part=>k_is)
   (case a_31=>k_is)
   (case l_31=>k_is)
   (case cd__31=>k_is)
   (case k_31=>k_is)
   (case a_6=>k_is)
   (case l_6=>k_is)
   (case cd__6=>k_is)
   (case k_6=>k_is)
   (case a_13=>k_is)
   (case l_13=>k_is)
   (case cd__13=>k_is)
   (case k_13=>k_is)
   (case a_4=>k_is)
   (case l_4=>k_is)
   (case cd__4=>k_is)
   (case k_4=>k_is)
   (case a_7=>k_is)
   (case l_7=>k_is)
   (case cd__7=>k_is)
   (case k_7=>k_is)
   (case a_27=>k_is)
   (case l_27=>k_is)
   (case cd__27=>k_is)
   (case k_27=>k_is)
   (case a_5=>k_is)
   (case l_5=>k_is)
   (case cd__5=>k_is)
   (case k_5=>k_is)
   (case a_28=>k_is)
   (case l_28=>k_is)
   (case cd__28=>k_is)
   (case k_28=>k_is)
   (case a_36=>k_is)
   (case l_36=>k_is)
   (case cd__36=>k_is)
   (case k_36=>k_is)
   (case a_8=>k_is)
   (case l_8=>k_is)
   (case cd__8=>k_is)
   (case k_8=>k_is)
   (case a_37=>k_is)
   (case l_37=>k_is)
   (case cd__37=>k_is)
   (case k_37=>k_is)
   (case a_17=>k_is)
   (case l_17=>k_is)
   (case cd__17=>k_is)
   (case k_17=>k_is)
   (case a_18=>k_is)
   (case l_18=>k_is)
   (case cd__18=>k_is)
   (case k_18=>k_is)
   (case a_38=>k_is)
   (case l_38=>k_is)
   (case cd__38=>k_is)
   (case k_38=>k_is)
   (case a_19=>k_is)
   (case l_19=>k_is)
   (case cd__19=>k_is)
   (case k_19=>k_is)
   (case a_14=>k_is)
   (case l_14=>k_is)
   (case cd__14=>k_is)
   (case k_14=>k_is)
   (case a_20=>k_is)
   (case l_20=>k_is)
   (case cd__20=>k_is)
   (case k_20=>k_is)
   (case a_39=>k_is)
   (case l_39=>k_is)
   (case cd__39=>k_is)
   (case k_39=>k_is)
   (case a_21=>k_is)
   (case l_21=>k_is)
   (case cd__21=>k_is)
   (case k_21=>k_is)
   (case a_22=>k_is)
   (case l_22=>k_is)
   (case cd__22=>k_is)
   (case k_22=>k_is)
   (case a_9=>k_is)
   (case l_9=>k_is)
   (case cd__9=>k_is)
   (case k_9=>k_is)
   (case a_29=>k_is)
   (case l_29=>k_is)
   (case cd__29=>k_is)
   (case k_29=>k_is)
   (case a_23=>k_is)
   (case l_23=>k_is)
   (case cd__23=>k_is)
   (case k_23=>k_is)
   (case a_32=>k_is)
   (case l_32=>k_is)
   (case cd__32=>k_is)
   (case k_32=>k_is)
   (case a_10=>k_is)
   (case l_10=>k_is)
   (case cd__10=>k_is)
   (case k_10=>k_is)
   (case a_40=>k_is)
   (case l_40=>k_is)
   (case cd__40=>k_is)
   (case k_40=>k_is)
   (case a_33=>k_is)
   (case l_33=>k_is)
   (case cd__33=>k_is)
   (case k_33=>k_is)
   (case a_30=>k_is)
   (case l_30=>k_is)
   (case cd__30=>k_is)
   (case k_30=>k_is)
   (case a_11=>k_is)
   (case l_11=>k_is)
   (case cd__11=>k_is)
   (case k_11=>k_is)
   (case a_41=>k_is)
   (case l_41=>k_is)
   (case cd__41=>k_is)
   (case k_41=>k_is)
   (case a_12=>k_is)
   (case l_12=>k_is)
   (case cd__12=>k_is)
   (case k_12=>k_is)
   (case a_42=>k_is)
   (case l_42=>k_is)
   (case cd__42=>k_is)
   (case k_42=>k_is)
   (case a_0=>k_is)
   (case l_0=>k_is)
   (case cd__0=>k_is)
   (case k_0=>k_is)
   (case a_15=>k_is)
   (case l_15=>k_is)
   (case cd__15=>k_is)
   (case k_15=>k_is)
   (case a_34=>k_is)
   (case l_34=>k_is)
   (case cd__34=>k_is)
   (case k_34=>k_is)
   (case a_16=>k_is)
   (case l_16=>k_is)
   (case cd__16=>k_is)
   (case k_16=>k_is)
   (case a_24=>k_is)
   (case l_24=>k_is)
   (case cd__24=>k_is)
   (case k_24=>k_is)
   (case a_1=>k_is)
   (case l_1=>k_is)
   (case cd__1=>k_is)
   (case k_1=>k_is)
   (case a_43=>k_is)
   (case l_43=>k_is)
   (case cd__43=>k_is)
   (case k_43=>k_is)
   (case v_MOST_LETTERS=>k_is)
   (case v_MOST_WORDS=>k_is)
   (case v_MOST_BRACKETS=>k_is)
   (case v_MOST_WRITTEN=>k_is)
   (case v_MOST_DIGITS=>k_is)
   (case v_BLANK=>k_is)
   (case v_ROUND=>k_is)
   (case v_ROUND_END=>k_is)
   (case v_COMMA=>k_is)
   (case v_MINUS=>k_is)
   (case v_ZERO=>k_is)
   (case v_NINE=>k_is)
   (case v_SQUARE=>k_is)
   (case v_SQUARE_END=>k_is)
   (case v_SMALL_A=>k_is)
   (case v_SMALL_Z=>k_is)
   (case v_BAR=>k_is)
   (case v_WORDS_OF_TEXT=>k_is)
   (case v_WORD_ALONE=>k_is)
   (case v_GREAT_TO_SMALL=>k_is)
   (case v_NO_ORDER=>k_is)
   (case v_NOWHERE=>k_is)
   (case v_LONGEST=>k_is)
   (case v_MOST_PLACES_AT_ALL=>k_is)
   (case v_MOST_REFUSED=>k_is)
   (case v_ARGUMENTS_REFUSED=>k_is)
   (case v_TEXT_REFUSED=>k_is)
   (case v_WORD_REFUSED=>k_is)
   (case v_NO_SUCH_REFUSED=>k_is)
   (case v_TOO_LONG_REFUSED=>k_is)
   (case a_MOST_PLACES=>k_is)
   (case l_MOST_PLACES=>k_is)
   (case a_ORDERS=>k_is)
   (case l_ORDERS=>k_is)
   (case b_abs=>k_is)
   (case b_enumerate=>k_is)
   (case b_len=>k_is)
   (case b_list=>k_is)
   (case b_range=>k_is)
   (case b_reversed=>k_is)
   (case b_set=>k_is)
   (case b_sorted=>k_is)
   (case b_tuple=>k_is)
  obtain ⟨a,T,e⟩:=T
  refine ⟨a,T,?_⟩
  have e0:=hmg.symm.trans e
  injection e0 with e0
  injection e0
#print axioms PySem.Challenge.cw_tablegroups_s04_gw_table_holds

/- raftersame's Still at spots, bars, holds and loads. -/
import Derived.Test.YtldjeecnapgakaaGreatDoorV26RegI
import Derived.Test.YtldjeecnapgakaaGreatDoorV30FracD
namespace Go.Proofs.YtldjeecnapgakaaGreatDoor
open Go.RowKit
open Go.Proofs.Tryz
set_option linter.unusedSimpArgs false
set_option linter.unusedVariables false
set_option maxHeartbeats 8000000
set_option maxRecDepth 1000000
def FF(q:Rat)(k:Nat):Fact:=fun v w=>FracV w v q/\Fits q k/\0<k
theorem FF.stays(q:Rat)(k:Nat):Stays (FF q k):=fun _ _ _ hb h=>⟨h.1.below hb,h.2⟩
theorem FF.below{q:Rat}{k:Nat}{v:Value}{w w':World}(h:FF q k v w)(hb:Below w.heap.size w w'):FF q k v w':=FF.stays q k v w w' hb h
def Makes(w:World)(φ:Fact)(e:Ending)(w':World):Prop:=∃v,e=.returned v/\Below w.heap.size w w'/\φ v w'
theorem Makes.use{P:Program}{f:FuncId}{args:Array Value}{w:World}{φ:Fact}{R:Ending->World->Prop}(h:Calls P f args w (Makes w φ))(hR:∀v w',Below w.heap.size w w'->φ v w'->R (.returned v) w'):Calls P f args w R:=
 h.mono fun e w' ⟨v,he,hb,hv⟩=>by subst he;exact hR v w' hb hv
theorem FNew.makes{w w':World}{q:Rat}{k:Nat}{e:Ending}(h:FNew w q e w')(hf:Fits q k)(hk:0<k):Makes w (FF q k) e w':=by
 obtain⟨⟨v,rfl,hv⟩,hb⟩:=h;exact⟨v,rfl,hb,hv,hf,hk⟩
theorem FF.plus{u v:Value}{p q:Rat}{j k:Nat}{w:World}(h1:FF p j u w)(h2:FF q k v w)(hj:j+k<68719476000):Calls prog 72 #[u,v] w (Makes w (FF (p+q) (j+k+1))):=
 (Qn1 h1.1 h2.1 h1.2.1 h2.2.1 hj).mono fun e w' h=>h.makes (h1.2.1.add h2.2.1) (by omega)
theorem FF.minus{u v:Value}{p q:Rat}{j k:Nat}{w:World}(h1:FF p j u w)(h2:FF q k v w)(hj:j+k<68719476000):Calls prog 70 #[u,v] w (Makes w (FF (p - q) (j+k+1))):=
 (Qn6 h1.1 h2.1 h1.2.1 h2.2.1 hj).mono fun e w' h=>h.makes (h1.2.1.sub h2.2.1) (by omega)
theorem FF.times{u v:Value}{p q:Rat}{j k:Nat}{w:World}(h1:FF p j u w)(h2:FF q k v w)(hj:j+k<68719476000):Calls prog 71 #[u,v] w (Makes w (FF (p*q) (j+k))):=
 (Qn2 h1.1 h2.1 h1.2.1 h2.2.1 hj).mono fun e w' h=>h.makes (h1.2.1.mul h2.2.1 h1.2.2) (by have:=h1.2.2;omega)
theorem FF.over{u v:Value}{p q:Rat}{j k:Nat}{w:World}(h1:FF p j u w)(h2:FF q k v w)(hj:j+k<68719476000):Calls prog 83 #[u,v] w (Makes w (FF (p / q) (j+k))):=
 (Qn7 h1.1 h2.1 h1.2.1 h2.2.1 hj).mono fun e w' h=>h.makes (h1.2.1.div h2.2.1 h1.2.2 h2.2.2) (by have:=h1.2.2;omega)
theorem FF.compare{u v:Value}{p q:Rat}{j k:Nat}{w:World}(h1:FF p j u w)(h2:FF q k v w)(hj:j+k<68719476000):Calls prog 41 #[u,v] w (Makes w (Is (.int .i64 (cmpQ p q)))):=
 (Qoe h1.1 h2.1 h1.2.1 h2.2.1 hj).mono fun e w' h=>⟨_,h.1,h.2,rfl⟩
theorem FF.equal{u v:Value}{p q:Rat}{j k:Nat}{w:World}(h1:FF p j u w)(h2:FF q k v w):Calls prog 85 #[u,v] w (Makes w (Is (.bool (decide (p=q))))):=
 (Qol h1.1 h2.1).mono fun e w' h=>⟨_,h.1,h.2,rfl⟩
theorem FF.sign{u:Value}{p:Rat}{j:Nat}{w:World}(h1:FF p j u w):Calls prog 35 #[u] w (Makes w (Is (.int .i64 (sgn3 p.num)))):=
 (Qfo h1.1).mono fun e w' h=>⟨_,h.1,h.2,rfl⟩
theorem FF.isZero{u:Value}{p:Rat}{j:Nat}{w:World}(h1:FF p j u w):Calls prog 81 #[u] w (Makes w (Is (.bool (decide (p=0))))):=
 (Qhl h1.1).mono fun e w' h=>⟨_,h.1,h.2,rfl⟩
theorem FF.of{s:ByteArray}{q:Rat}{n K:Nat}{w:World}(hg:Glob w)(hq:QOf s.data.toList q)(hs:s.size<=n)(hn:n<=1073741824)(hK:4*n+1<=K):Calls prog 34 #[.string s] w (Makes w (FF q K)):=by
 refine((FBag.start hg).of s hs hn).mono ?_;rintro e w' ⟨q',hq',x,y,z,rfl,hb⟩;obtain rfl:=hq.inj hq';have:=hb.get List.mem_cons_self;exact⟨_,rfl,hb.base,this.1,this.2.1.mono hK,by omega⟩
theorem FF.ofFits{s:ByteArray}{q:Rat}{K:Nat}{w:World}(hg:Glob w)(hq:QOf s.data.toList q)(hs:s.size<=1073741824)(hf:Fits q K)(hK:0<K):Calls prog 34 #[.string s] w (Makes w (FF q K)):=
 (FF.of hg hq hs lZ lZ).mono fun e w' ⟨v,he,hb,hv⟩=>⟨v,he,hb,hv.1,hf,hK⟩
def TF(q:Rat):Fact:=fun v _=>∃s:ByteArray,v=.string s/\QText s.data.toList q
theorem TF.stays(q:Rat):Stays (TF q):=fun _ _ _ _ h=>h
theorem FF.text{u:Value}{p:Rat}{j:Nat}{w:World}(hg:Glob w)(h1:FF p j u w)(hj:j<=274877906944):Calls prog 33 #[u] w (Makes w (TF p)):=
 (Qoi hg.tab h1.1 h1.2.1 hj).mono fun e w' h=>by
   obtain⟨⟨s,rfl,hs⟩,hb⟩:=h;exact⟨_,rfl,hb,s,rfl,hs⟩
theorem FF.zero(w:World):FF 0 1 (.agg #[.bool false,.slice none 0 0,.slice none 0 0]) w:=⟨FracV.zero _,Fits.zero,by decide⟩
theorem FF.mono{q:Rat}{k k':Nat}{v:Value}{w:World}(h:FF q k v w)(hk:k<=k'):FF q k' v w:=⟨h.1,h.2.1.mono hk,Nat.lt_of_lt_of_le h.2.2 hk⟩
theorem FF.parts{q:Rat}{k:Nat}{v:Value}{w:World}(h:FF q k v w):∃x y z,v=.agg #[x,y,z]:=by
 obtain⟨⟨neg,a,n,c,b,m,d,rfl,_⟩,_⟩:=h;exact⟨_,_,_,rfl⟩
def FE.cs(t:FE):List Value:=[t.x,t.y,t.z]
def FE.nil:FE:=⟨.bool false,.slice none 0 0,.slice none 0 0,0,1⟩
def FE.ok(w:World)(t:FE):Prop:=FF t.q t.k (.agg #[t.x,t.y,t.z]) w
theorem FE.ok.below{w w':World}{t:FE}(h:FE.ok w t)(hb:Below w.heap.size w w'):FE.ok w' t:=FF.below h hb
structure TBlk (T:TypeId) (w:World) (g:Nat) (ts:List FE):Prop where
 blk:SB w g T (ts.flatMap FE.cs).toArray
 ok:∀t,t∈ ts->FE.ok w t
section
variable {T:TypeId} {w w':World} {g:Nat} {ts:List FE}
theorem TBlk.below(h:TBlk T w g ts)(hb:Below w.heap.size w w'):TBlk T w' g ts:=⟨h.blk.below hb h.blk.lt,fun t ht=>(h.ok t ht).below hb⟩
theorem TBlk.no64(h:TBlk T w g ts):NoU64 (ts.flatMap FE.cs).toArray:=by
 refine Qdm fun v hv n=>?_
 obtain⟨t,ht,hv⟩:=List.mem_flatMap.1 hv;obtain⟨h1,h2,h3⟩:=(h.ok t ht).1.no64 n;simp[FE.cs] at hv;rcases hv with rfl|rfl|rfl
 . exact h1
 . exact h2
 . exact h3
theorem TBlk.at(h:TBlk T w g ts){i:Nat}{e:FE}(hi:ts[i]?=some e):w.cell? ⟨g,i*3,none⟩=some e.x/\w.cell? ⟨g,i*3+1,none⟩=some e.y/\w.cell? ⟨g,i*3+2,none⟩=some e.z:=by
 have key:∀j u,(FE.cs e)[j]?=some u->w.cell? ⟨g,i*3+j,none⟩=some u:=fun j u hu=>by
  rw[h.blk.cell,List.getElem?_toArray];exact Qb4 (sz:=3) (fun _=>rfl) ts i e j u hi hu
 exact⟨key 0 _ rfl,key 1 _ rfl,key 2 _ rfl⟩
theorem TBlk.keep(h:TBlk T w g ts)(ho:Only g w w'){t:FE}(ht:FE.ok w t):FE.ok w' t:=⟨ht.1.only ho h.blk h.no64,ht.2⟩
theorem TBlk.apart{T':TypeId}{c:Nat}{us:List FE}(h:TBlk T w g ts)(hc:TBlk T' w c us)(ho:Only c w w')(hne:g≠c):TBlk T w' g ts:=⟨h.blk.only ho hne,fun t ht=>hc.keep ho (h.ok t ht)⟩
theorem Qjx:∀(ts:List FE) (k:Nat) (e:FE),k<ts.length->(ts.set k e).flatMap FE.cs=(((ts.flatMap FE.cs).set (k*3) e.x).set (k*3+1) e.y).set (k*3+2) e.z
 | [],k,e,h=>by simp at h
 |t :: l,0,e,_=>by simp[FE.cs]
 |t :: l,k+1,e,h=>by
  have ih:=Qjx l k e (by simpa using h);rw[List.set_cons_succ,List.flatMap_cons,ih,List.flatMap_cons];simp only[FE.cs,List.cons_append,List.nil_append];rw[show (k+1)*3=k*3+1+1+1 by omega];simp only[List.set_cons_succ,Nat.add_assoc]
theorem TBlk.set(h:TBlk T w g ts){k:Nat}{e:FE}(hk:k<ts.length)(he:FE.ok w e):
 TBlk T (((w.setCell ⟨g,k*3,none⟩ e.x).setCell ⟨g,k*3+1,none⟩ e.y).setCell ⟨g,k*3+2,none⟩ e.z) g (ts.set k e)/\Only g w (((w.setCell ⟨g,k*3,none⟩ e.x).setCell ⟨g,k*3+1,none⟩ e.y).setCell ⟨g,k*3+2,none⟩ e.z):=by
 have ho:Only g w (((w.setCell ⟨g,k*3,none⟩ e.x).setCell ⟨g,k*3+1,none⟩ e.y).setCell ⟨g,k*3+2,none⟩ e.z):=(((Only.refl g w).setCell _ _).setCell _ _).setCell _ _;have keep:∀t,FE.ok w t->FE.ok (((w.setCell ⟨g,k*3,none⟩ e.x).setCell ⟨g,k*3+1,none⟩ e.y).setCell ⟨g,k*3+2,none⟩ e.z) t:=fun t ht=>⟨ht.1.only ho h.blk h.no64,ht.2⟩
 refine⟨⟨?_,fun t ht=>?_⟩,ho⟩
 .
  have:=((h.blk.set (k*3) e.x).set (k*3+1) e.y).set (k*3+2) e.z;rw[Qjx ts k e hk]
  simpa using this
 .
  rcases List.mem_or_eq_of_mem_set ht with ht|rfl
  . exact keep t (h.ok t ht)
  . exact keep t he
theorem TBlk.stone(h:TBlk T w g ts){i:Nat}{a l u s:FE}(ha:ts[i*4]?=some a)(hl:ts[i*4+1]?=some l)(hu:ts[i*4+2]?=some u)(hs:ts[i*4+3]?=some s):
 w.cell? ⟨g,i*12,none⟩=some a.x/\w.cell? ⟨g,i*12+1,none⟩=some a.y/\w.cell? ⟨g,i*12+2,none⟩=some a.z/\w.cell? ⟨g,i*12+3,none⟩=some l.x/\w.cell? ⟨g,i*12+4,none⟩=some l.y/\w.cell? ⟨g,i*12+5,none⟩=some l.z/\w.cell? ⟨g,i*12+6,none⟩=some u.x/\w.cell? ⟨g,i*12+7,none⟩=some u.y/\w.cell? ⟨g,i*12+8,none⟩=some u.z/\w.cell? ⟨g,i*12+9,none⟩=some s.x/\w.cell? ⟨g,i*12+10,none⟩=some s.y/\w.cell? ⟨g,i*12+11,none⟩=some s.z:=by
 have h0:=h.at ha;have h1:=h.at hl;have h2:=h.at hu;have h3:=h.at hs;rw[show i*4*3=i*12 by omega] at h0;rw[show (i*4+1)*3=i*12+3 by omega] at h1;rw[show (i*4+2)*3=i*12+6 by omega] at h2;rw[show (i*4+3)*3=i*12+9 by omega] at h3;exact⟨h0.1,h0.2.1,h0.2.2,h1.1,h1.2.1,h1.2.2,h2.1,h2.2.1,h2.2.2,h3.1,h3.2.1,h3.2.2⟩
theorem TBlk.set4(h:TBlk T w g ts){i:Nat}{a l u s:FE}(hi:i*4+3<ts.length)(ha:FE.ok w a)(hl:FE.ok w l)(hu:FE.ok w u)(hs:FE.ok w s){w':World}
 (e:(((((((((((w.setCell ⟨g,i*12,none⟩ a.x).setCell ⟨g,i*12+1,none⟩ a.y).setCell ⟨g,i*12+2,none⟩ a.z).setCell ⟨g,i*12+3,none⟩ l.x).setCell ⟨g,i*12+4,none⟩ l.y).setCell ⟨g,i*12+5,none⟩ l.z).setCell ⟨g,i*12+6,none⟩ u.x).setCell ⟨g,i*12+7,none⟩ u.y).setCell ⟨g,i*12+8,none⟩ u.z).setCell ⟨g,i*12+9,none⟩ s.x).setCell ⟨g,i*12+10,none⟩ s.y).setCell ⟨g,i*12+11,none⟩ s.z=w'):
 TBlk T w' g ((((ts.set (i*4) a).set (i*4+1) l).set (i*4+2) u).set (i*4+3) s)/\Only g w w':=by
 obtain⟨h0,k0⟩:=h.set (k:=i*4) (e:=a) (by omega) ha;rw[show i*4*3=i*12 by omega] at h0 k0;obtain⟨h1,k1⟩:=h0.set (k:=i*4+1) (e:=l) (by simp;omega) (h.keep k0 hl);rw[show (i*4+1)*3=i*12+3 by omega] at h1 k1;obtain⟨h2,k2⟩:=h1.set (k:=i*4+2) (e:=u) (by simp;omega) (h.keep (k0.trans k1) hu);rw[show (i*4+2)*3=i*12+6 by omega] at h2 k2;obtain⟨h3,k3⟩:=h2.set (k:=i*4+3) (e:=s) (by simp;omega) (h.keep ((k0.trans k1).trans k2) hs);rw[show (i*4+3)*3=i*12+9 by omega] at h3 k3;subst e;exact⟨h3,((k0.trans k1).trans k2).trans k3⟩
theorem TBlk.setS(h:TBlk T w g ts){i:Nat}{s:FE}(hi:i*4+3<ts.length)(hs:FE.ok w s){w':World}
 (e:((w.setCell ⟨g,i*12+9,none⟩ s.x).setCell ⟨g,i*12+10,none⟩ s.y).setCell ⟨g,i*12+11,none⟩ s.z=w'):TBlk T w' g (ts.set (i*4+3) s)/\Only g w w':=by
 obtain⟨h3,k3⟩:=h.set (k:=i*4+3) (e:=s) hi hs;rw[show (i*4+3)*3=i*12+9 by omega] at h3 k3;subst e;exact⟨h3,k3⟩
end
theorem FE.ok.nil(w:World):FE.ok w FE.nil:=FF.zero w
theorem TBlk.new(T:TypeId)(w:World)(n:Nat):TBlk T (w.alloc (.cells ((List.replicate n FE.nil).flatMap FE.cs).toArray T)) w.heap.size (List.replicate n FE.nil):=
 ⟨SB.new _ _ _,fun t ht=>by obtain⟨_,rfl⟩:=List.mem_replicate.1 ht;exact FE.ok.nil _⟩
theorem Qsn(n m:Nat)(z:Array Value)(hz:z=((List.replicate m FE.nil).flatMap FE.cs).toArray)(hm:0<m):madeCells z (n*(m*3))=((List.replicate (n*m) FE.nil).flatMap FE.cs).toArray:=by
 have hlen:∀k,((List.replicate k FE.nil).flatMap FE.cs).length=k*3:=fun k=>by rw[Qdl (sz:=3) (fun _=>rfl)];simp
 have hat:∀k i,i<k*3->((List.replicate k FE.nil).flatMap FE.cs)[i]?=(FE.cs FE.nil)[i % 3]?:=fun k i hi=>by
  obtain⟨u,hu⟩:∃u,(FE.cs FE.nil)[i % 3]?=some u:=⟨_,gE (show i % 3<3 by omega)⟩;rw[hu];have:=Qb4 (c:=FE.cs) (sz:=3) (fun _=>rfl) (List.replicate k FE.nil) (i / 3) FE.nil (i % 3) u (by rw[List.getElem?_replicate,if_pos (by omega)]) hu;rw[show i / 3*3+i % 3=i by omega] at this;exact this
 have hzs:z.size=m*3:=by rw[hz,List.size_toArray,hlen]
 apply Array.ext';apply List.ext_getElem?;intro i;by_cases hi:i<n*(m*3)
 .
  have hmod:i % (m*3)<m*3:=Nat.mod_lt _ (by omega);have h1:(madeCells z (n*(m*3))).toList[i]?=some (z[i % (m*3)]!):=by
   simp[madeCells,hi,hzs]
  rw[h1];simp only[List.toList_toArray];rw[hat (n*m) i (by rw[Nat.mul_assoc];exact hi)];have h2:z[i % (m*3)]?=(FE.cs FE.nil)[i % (m*3) % 3]?:=by rw[hz,List.getElem?_toArray];exact hat m _ hmod
  rw[show i % (m*3) % 3=i % 3 from Nat.mod_mul_left_mod i m 3] at h2;rw[<-h2,getElem!_pos z _ (by rw[hzs];exact hmod),Array.getElem?_eq_getElem (by rw[hzs];exact hmod)]
 . rw[List.getElem?_eq_none (by rw[Array.length_toList,size_madeCells];omega),List.getElem?_eq_none (by simp only[List.toList_toArray];rw[hlen,Nat.mul_assoc];omega)]
theorem TBlk.box{w:World}{g:Nat}{x y z:Value}{q:Rat}{k:Nat}(hs:SB w g 63 #[x,y,z])(h:FF q k (.agg #[x,y,z]) w):TBlk 63 w g [⟨x,y,z,q,k⟩]:=⟨hs,fun t ht=>by rw[List.mem_singleton] at ht;subst ht;exact h⟩
theorem Qso{ts:List FE}{n k:Nat}(hl:ts.length=n*4)(hk:k<n):∃a l u s:FE,ts[k*4]?=some a/\ts[k*4+1]?=some l/\ts[k*4+2]?=some u/\ts[k*4+3]?=some s:=
 ⟨_,_,_,_,gE (by omega),gE (by omega),gE (by omega),gE (by omega)⟩
def S3(p q r:Rat)(k:Nat):Fact:=fun v w=>∃x1 x2 x3 x4 x5 x6 x7 x8 x9,v=.agg #[x1,x2,x3,x4,x5,x6,x7,x8,x9,.bool false,.slice none 0 0,.slice none 0 0]/\FF p k (.agg #[x1,x2,x3]) w/\FF q k (.agg #[x4,x5,x6]) w/\FF r k (.agg #[x7,x8,x9]) w
theorem S3.stays(p q r:Rat)(k:Nat):Stays (S3 p q r k):=fun _ _ _ hb ⟨x1,x2,x3,x4,x5,x6,x7,x8,x9,e,h1,h2,h3⟩=>⟨x1,x2,x3,x4,x5,x6,x7,x8,x9,e,h1.below hb,h2.below hb,h3.below hb⟩
theorem Qsp:(prog.info? 82).map (fun i=>(i.zero,i.size,i.bytes))=some (some (.agg #[.bool false,.slice none 0 0,.slice none 0 0,.bool false,.slice none 0 0,.slice none 0 0,.bool false,.slice none 0 0,.slice none 0 0,.bool false,.slice none 0 0,.slice none 0 0]),12,224):=by kernel_rfl
theorem Qsq(n:Nat)(hn:n<=1048576)(w:World):(Instr.makeSlice 68 (.int .i64 n) (.int .i64 n)).run prog w=.ok (.slice (some ⟨w.heap.size,0,none⟩) n n) (w.alloc (.cells ((List.replicate (n*4) FE.nil).flatMap FE.cs).toArray 82)):=by
 obtain⟨i,hi,h⟩:=Option.map_eq_some_iff.1 Qsp;simp only[Prod.mk.injEq] at h;obtain⟨hz,hs,hb⟩:=h;have:=run_make w 68 82 i _ underlying68 hi hz .i64 .i64 n n (by omega) (by omega) (by rw[hb];omega) (by omega);rw[Int.toNat_natCast,hs,Qsn n 4 _ (by kernel_rfl) (by decide)] at this;exact this
structure T4 where
 a:ByteArray
 w:ByteArray
 l:ByteArray
 h:ByteArray
def T4.cells(s:T4):List Value:=[.string s.a,.string s.w,.string s.l,.string s.h]
theorem ARow.stone{w:World}{a:Option Addr}{cap:Nat}{es:List T4}(h:ARow T4.cells w a cap es){i:Nat}{e:T4}(hi:es[i]?=some e):
 ∃b off,a=some ⟨b,off,none⟩/\b<w.heap.size/\w.cell? ⟨b,off+i*4,none⟩=some (.string e.a)/\w.cell? ⟨b,off+i*4+1,none⟩=some (.string e.w)/\w.cell? ⟨b,off+i*4+2,none⟩=some (.string e.l)/\w.cell? ⟨b,off+i*4+3,none⟩=some (.string e.h):=by
 obtain⟨b,off,h1,h2,h3⟩:=h.at (sz:=4) (fun _=>rfl) (by decide) hi;exact⟨b,off,h1,h2,h3 0 _ rfl,h3 1 _ rfl,h3 2 _ rfl,h3 3 _ rfl⟩
abbrev V4:=Rat × Rat × Rat × Rat
structure StoneV (s:T4) (v:V4):Prop where
 a:QOf s.a.data.toList v.1
 w:QOf s.w.data.toList v.2.1
 l:QOf s.l.data.toList v.2.2.1
 h:QOf s.h.data.toList v.2.2.2
 za:s.a.size<=1073741824/\Fits v.1 4194400
 zw:s.w.size<=1073741824/\Fits v.2.1 4194400
 zl:s.l.size<=1073741824/\Fits v.2.2.1 4194400
 zh:s.h.size<=1073741824/\Fits v.2.2.2 4194400
structure StonesV (ss:List T4) (vs:List V4):Prop where
 len:vs.length=ss.length
 each:∀(i:Nat) (s:T4) (v:V4),ss[i]?=some s->vs[i]?=some v->StoneV s v
def valC(v:V4):Int:=if v.2.1<0∨v.2.2.2<v.2.2.1 then 5 else 0
def stoneC(pr:Option Rat)(v:V4):Int:=match pr with
 |some a=>if v.1<=a then 6 else valC v
 |none=>valC v
def archFrom:Nat->Option Rat->List V4->Int × Int
 |_,_,[]=>(0,0)
 |i,pr,v :: r=>if stoneC pr v=0 then archFrom (i+1) (some v.1) r else (stoneC pr v,(i:Int))
def archF(vs:List V4):Int × Int:=if vs.length<2∨10<vs.length then (2,0) else archFrom 0 none vs
def ahead(vs:List V4):Nat->Option Rat
 |0=>none
 |k+1=>(vs[k]?).map (·.1)
theorem Qcw{vs:List V4}{k:Nat}{v:V4}(hv:vs[k]?=some v):archFrom k (ahead vs k) (vs.drop k)=if stoneC (ahead vs k) v=0 then archFrom (k+1) (ahead vs (k+1)) (vs.drop (k+1)) else (stoneC (ahead vs k) v,(k:Int)):=by
 obtain⟨hk,e⟩:=gZ hv;have e2:ahead vs (k+1)=some v.1:=by simp[ahead,hv]
 rw[List.drop_eq_getElem_cons hk,e,e2];rfl
theorem Qf2{vs:List V4}:archFrom vs.length (ahead vs vs.length) (vs.drop vs.length)=(0,0):=by
 rw[List.drop_length];rfl
theorem Qbn(p q:Rat):cmpQ p q<=0↔p<=q:=by
 have h1:=Qaz p q;have h2:¬q<p↔p<=q:=Rat.not_lt;rw[<-h2,<-h1];omega
theorem Qas(q:Rat):sgn3 q.num<0↔q<0:=by
 rw[<-Qao];unfold cmpQ;rw[show q.num*((0:Rat).den:Int)=q.num from by simp,show (0:Rat).num*(q.den:Int)=0 from by simp];exact Iff.rfl
theorem T4.one(s:T4):∀u∈ s.cells,u.oneCell'=true:=by simp[T4.cells,Value.oneCell']
theorem infoS:(prog.info? 28).map (fun i=>(i.zero,i.size,i.bytes))=some (some (.agg #[.string ⟨#[]⟩,.string ⟨#[]⟩,.string ⟨#[]⟩,.string ⟨#[]⟩]),4,64):=by kernel_rfl
theorem madeS(n:Nat)(hn:n<=1048576):∃MC:Array Value,MC.size=(n+3)*4/\∀w,(Instr.makeSlice 22 (.int .i64 0) (.int .i64 (IntKind.i64.wrap ((n:Int)+3)))).run prog w=.ok (.slice (some ⟨w.heap.size,0,none⟩) 0 (n+3)) (w.alloc (.cells MC 28)):=by
 obtain⟨i,hi,h⟩:=Option.map_eq_some_iff.1 infoS;simp only[Prod.mk.injEq] at h;obtain⟨hz,hs,hb⟩:=h;refine⟨madeCells (Value.cells (.agg #[.string ⟨#[]⟩,.string ⟨#[]⟩,.string ⟨#[]⟩,.string ⟨#[]⟩])) ((n+3)*4),size_madeCells _ _,fun w=>?_⟩;have:=run_make w 22 28 i _ underlying22 hi hz .i64 .i64 0 ((n:Int)+3) (by omega) (by omega) (by rw[hb];omega) (by omega);have e:((n:Int)+3).toNat=n+3:=by omega
 rw[e,hs] at this;rw[show IntKind.i64.wrap ((n:Int)+3)=(n:Int)+3 by rw[IntKind.wrap_i64];omega];exact this
theorem Qo8(a:Option Addr)(cap:Nat)(es:List T4)(m0:ByteArray)(m1:ByteArray)(m2:ByteArray)(m3:ByteArray)(w:World)(hf:ARow T4.cells w a cap es)(hn:es.length<=1048576):
 Calls prog 6 #[.slice a es.length cap,.agg #[.string m0,.string m1,.string m2,.string m3]] w fun e w'=>∃g,w.heap.size<=g/\e=.returned (.slice (some ⟨g,0,none⟩) es.length (es.length+3))/\ARow T4.cells w' (some ⟨g,0,none⟩) (es.length+3) (es++ [⟨m0,m1,m2,m3⟩,⟨m0,m1,m2,m3⟩,⟨m0,m1,m2,m3⟩])/\Below w.heap.size w w':=by
 have HC:=Hi hf.row;obtain⟨MC,hMC,hmk⟩:=madeS es.length hn;have HMC:=Hi hMC;obtain⟨i,hi,h⟩:=Option.map_eq_some_iff.1 infoS;simp only[Prod.mk.injEq] at h;obtain⟨hz,hs,hb⟩:=h;obtain⟨HI,HS,HXL,HX1⟩:=Ic hi hs (Qdl (c:=T4.cells) (sz:=4) (fun _=>rfl) es) (Qnn T4.one es);obtain⟨xs,hxs⟩:=nm (es.flatMap T4.cells);rw[hxs] at HC HXL HX1;have HXS:=Hi hxs;clear hz hb hi hs hMC hf hxs;go_enter func6,ntmps6;go_wp2_with fail;obtain⟨W,hW⟩:=nm (w.alloc (.cells #[.string m0,.string m1,.string m2,.string m3] 28));have HB0:=Ua hW;have hsb:SB W w.heap.size 28 #[.string m0,.string m1,.string m2,.string m3]:=by rw[<-hW];exact SB.new w _ _
 rw[hW];have hlt:=hsb.lt;obtain⟨c0,c1,c2,c3,-⟩:=zc hsb;have HSB:=Hi hsb;clear hsb hW;obtain⟨MK,hMK⟩:∃MK:List Value,MK= [.string m0,.string m1,.string m2,.string m3,.string m0,.string m1,.string m2,.string m3,.string m0,.string m1,.string m2,.string m3]:=⟨_,rfl⟩;have HMK:=Hi hMK;have hBC:∀(X:World) (j:Nat) (u:Value),MK[j]?=some u->(X.alloc (.cells #[.string m0,.string m1,.string m2,.string m3,.string m0,.string m1,.string m2,.string m3,.string m0,.string m1,.string m2,.string m3] 28)).cell? ⟨X.heap.size,j,none⟩=some u:=by
  intro X j u hj;rw[(SB.new X 28 #[.string m0,.string m1,.string m2,.string m3,.string m0,.string m1,.string m2,.string m3,.string m0,.string m1,.string m2,.string m3]).cell j];rw[hMK] at hj
  simpa using hj
 have HBC:=Hi hBC;have HML:O (MK.length=3*4):=Hi (by rw[hMK];rfl);have HM1:O (∀u∈ MK,u.oneCell'=true):=Hi (by rw[hMK];simp[Value.oneCell']);have HCW:=Hi (HC.o.below HB0.o);have hown:∀X:World,W.heap.size<=X.heap.size->(X.alloc (.cells MC 28)).ownsRow W.heap.size 28 4 (.slice (some ⟨X.heap.size,0,none⟩) 0 (es.length+3)) 0 []:=fun X hX=>World.ownsRow_made X MC (es.length+3) hX (by unfold maxLen;omega) HMC.o
 have HOW:=Hi hown;have HA:O (Below W.heap.size W (W.alloc (.cells MC 28)).drew):=Hi (bR.alloc lZ _).drew;have HAX:O (Below W.heap.size W ((W.alloc (.cells #[.string m0,.string m1,.string m2,.string m3,.string m0,.string m1,.string m2,.string m3,.string m0,.string m1,.string m2,.string m3] 28)).alloc (.cells MC 28)).drew):=Hi (((bR.alloc lZ _).alloc (by simp) _).drew);have HOX:O (((W.alloc (.cells #[.string m0,.string m1,.string m2,.string m3,.string m0,.string m1,.string m2,.string m3,.string m0,.string m1,.string m2,.string m3] 28)).alloc (.cells MC 28)).drew.ownsRow W.heap.size 28 4 (.slice (some ⟨W.heap.size+1,0,none⟩) 0 (es.length+3)) 0 []):=Hi (by
  have:=hown (W.alloc (.cells #[.string m0,.string m1,.string m2,.string m3,.string m0,.string m1,.string m2,.string m3,.string m0,.string m1,.string m2,.string m3] 28)) (by simp);simp only[World.size_alloc] at this
  exact this)
 have HCX:=Hi (HCW.o.below HAX.o);have HBX:O (∀(j:Nat) (u:Value),MK[j]?=some u->((W.alloc (.cells #[.string m0,.string m1,.string m2,.string m3,.string m0,.string m1,.string m2,.string m3,.string m0,.string m1,.string m2,.string m3] 28)).alloc (.cells MC 28)).drew.cell? ⟨W.heap.size,j,none⟩=some u):=Hi (fun j u hj=>by
  have h1:=hBC W j u hj;have h2:Below (W.alloc (.cells #[.string m0,.string m1,.string m2,.string m3,.string m0,.string m1,.string m2,.string m3,.string m0,.string m1,.string m2,.string m3] 28)).heap.size _ _:=(Below.refl _ (W.alloc (.cells #[.string m0,.string m1,.string m2,.string m3,.string m0,.string m1,.string m2,.string m3,.string m0,.string m1,.string m2,.string m3] 28))).alloc lZ (.cells MC 28)
  exact ce h2.drew (by simp) h1)
 clear hMK hBC hown;go_region_held3 (fun w'=>w'.cell? ⟨w.heap.size,0,none⟩=some (.string m0)/\w'.cell? ⟨w.heap.size,1,none⟩=some (.string m1)/\w'.cell? ⟨w.heap.size,2,none⟩=some (.string m2)/\w'.cell? ⟨w.heap.size,3,none⟩=some (.string m3)) ((first|(simp [*];done)|go_keep)) (first
  |(
   refine Qe5 underlying22 HI.o HS.o (by decide) rfl (.tmp 9) (.tmp 10) rfl W.heap.size (xs:=xs) rfl rfl (HOW.o W lZ) (HCW.o.below HA.o) HXL.o HX1.o (by omega) ?_;intro w1 hown1 hgr1;have HO1:=Hi hown1;have hs1:W.heap.size<w1.heap.size:=by have:=hgr1.size;simp at this;omega
   have HB1:O (Below W.heap.size W w1):=Hi (Below.ofGrown HA.o hgr1 HA.o.size lZ);obtain⟨c0,c1,c2,c3,-⟩:=zc (HSB.o.below HB1.o HSB.o.lt)
   clear hown1 hgr1)
  |(
   refine Qia underlying22 HI.o HS.o rfl (.tmp 11) (.tmp 15) rfl W.heap.size (xs:=xs) (news:=MK) (n:=es.length) (m:=3) rfl rfl (HO1.o.alloc _) HML.o (HBC.o w1) HM1.o lZ ?_;intro w2 hown2 hgr2;have HO2:=Hi hown2;have hs2:w1.heap.size<w2.heap.size:=by have:=hgr2.size;simp at this;omega
   have hbw:Below W.heap.size W w2:=Below.ofGrown (HB1.o.alloc HB1.o.size _) hgr2 (by have:=HB1.o.size;simp;omega) lZ;obtain⟨c0,c1,c2,c3,-⟩:=zc (HSB.o.below hbw HSB.o.lt);have HB2:O (Below w.heap.size w w2):=Hi (HB0.o.trans (hbw.mono HB0.o.size))
   clear hown2 hgr2 hbw)
  |(
   refine Qe5 underlying22 HI.o HS.o (by decide) rfl (.tmp 9) (.tmp 10) rfl W.heap.size (xs:=xs) rfl rfl ((HOW.o W lZ).alloc (.cells #[.string m0,.string m1,.string m2,.string m3,.string m0,.string m1,.string m2,.string m3,.string m0,.string m1,.string m2,.string m3] 28)) (HCW.o.below (HA.o.alloc HA.o.size _)) HXL.o HX1.o (by omega) ?_;intro w1 hown1 hgr1;have HO1:=Hi hown1;have hs1:W.heap.size<w1.heap.size:=by have:=hgr1.size;simp at this;omega
   have HB1:O (Below W.heap.size W w1):=Hi (Below.ofGrown (HA.o.alloc HA.o.size _) hgr1 (by simp<;>omega) lZ);obtain⟨c0,c1,c2,c3,-⟩:=zc (HSB.o.below HB1.o HSB.o.lt);have HBB:O (∀(j:Nat) (u:Value),MK[j]?=some u->w1.cell? ⟨W.heap.size+1,j,none⟩=some u):=Hi (fun j u hj=>(Qib hgr1 (p:=⟨W.heap.size+1,j,none⟩) (by simp<;>omega) (by simp<;>omega)).trans (by simpa using HBC.o (W.alloc (.cells MC 28)) j u hj))
   clear hown1 hgr1)
  |(
   refine Qe5 underlying22 HI.o HS.o (by decide) rfl (.tmp 9) (.tmp 10) rfl W.heap.size (xs:=xs) (g:=W.heap.size+1) rfl rfl (HOX.o) (HCX.o) HXL.o HX1.o (by omega) ?_;intro w1 hown1 hgr1;have HO1:=Hi hown1;have hs1:W.heap.size<w1.heap.size:=by have:=hgr1.size;simp at this;omega
   have HB1:O (Below W.heap.size W w1):=Hi (Below.ofGrown HAX.o hgr1 (by simp<;>omega) (by omega));obtain⟨c0,c1,c2,c3,-⟩:=zc (HSB.o.below HB1.o HSB.o.lt);have HBB:O (∀(j:Nat) (u:Value),MK[j]?=some u->w1.cell? ⟨W.heap.size,j,none⟩=some u):=Hi (fun j u hj=>(Qib hgr1 (p:=⟨W.heap.size,j,none⟩) (by simp<;>omega) (by simp<;>omega)).trans (HBX.o j u hj))
   clear hown1 hgr1)
  |(
   refine Qia underlying22 HI.o HS.o rfl (.tmp 11) (.tmp 15) rfl W.heap.size (xs:=xs) (news:=MK) (n:=es.length) (m:=3) rfl rfl HO1.o HML.o HBB.o HM1.o lZ ?_;intro w2 hown2 hgr2;have HO2:=Hi hown2;have hs2:w1.heap.size<=w2.heap.size:=hgr2.size;have hbw:Below W.heap.size W w2:=Below.ofGrown HB1.o hgr2 HB1.o.size (by omega);obtain⟨c0,c1,c2,c3,-⟩:=zc (HSB.o.below hbw HSB.o.lt);have HB2:O (Below w.heap.size w w2):=Hi (HB0.o.trans (hbw.mono HB0.o.size))
   clear hown2 hgr2 hbw)
  )
 all_goals
  go_wp2;go_ret;exact⟨_,by omega,rfl,⟨by simp,by rw[List.flatMap_append,HXS.o,show ([⟨m0,m1,m2,m3⟩,⟨m0,m1,m2,m3⟩,⟨m0,m1,m2,m3⟩]:List T4).flatMap T4.cells=MK from HMK.o.symm];exact Qic HO2.o⟩,HB2.o⟩
theorem Qsm(g:Nat)(a:Option Addr)(cap:Nat)(es:List T4)(m0:ByteArray)(m1:ByteArray)(m2:ByteArray)(m3:ByteArray)(w:World)(hl:ARow T4.cells w (some ⟨g,0,none⟩) (es.length+3) (es++ [⟨m0,m1,m2,m3⟩,⟨m0,m1,m2,m3⟩,⟨m0,m1,m2,m3⟩]))(hf:ARow T4.cells w a cap es)(hn:es.length<=1048576):
 Calls prog 13 #[.slice (some ⟨g,0,none⟩) es.length (es.length+3),.slice a es.length cap,.agg #[.string m0,.string m1,.string m2,.string m3]] w fun e w'=>e=.returned (.bool true)/\Below w.heap.size w w':=by
 obtain⟨HL,HF⟩:=Ia hl hf;clear hl hf;go_enter func13,ntmps13;go_wp2_with fail;obtain⟨W,hW⟩:=nm (w.alloc (.cells #[.string m0,.string m1,.string m2,.string m3] 28));have HB0:=Ua hW;have HSB:=Uc hW;have hlt:w.heap.size<W.heap.size:=HSB.o.lt;rw[hW];clear hW;go_loopw [17] (fun iv wr=>∃k:Nat,k<=es.length+3/\iv=.int .i64 k/\Below W.heap.size W wr) (fun iv _=>es.length+3 - (intOf iv).toNat)
 case atStart=>exact⟨0,by omega,rfl,Below.refl _ _⟩
 case round=>
  obtain⟨k,hk,rfl,hb⟩:=hrel;have HB:=Hi hb;have hsz:=hb.size;clear hb;by_cases hlt3:k<es.length+3
  .
   obtain⟨f,hfk⟩:∃f,(es++ [⟨m0,m1,m2,m3⟩,⟨m0,m1,m2,m3⟩,⟨m0,m1,m2,m3⟩])[k]?=some f:=⟨_,gE (by simpa using hlt3)⟩;obtain⟨fb,off,hfa,hfb,c0,c1,c2,c3⟩:=(HL.o.below (HB0.o.trans (HB.o.mono HB0.o.size))).stone hfk;simp only[Option.some.injEq,Addr.mk.injEq,and_true] at hfa;obtain⟨rfl,rfl⟩:=hfa;rw[Nat.zero_add] at c0 c1 c2 c3;by_cases hkn:k<es.length
   .
    have hfk':es[k]?=some f:=by rw[List.getElem?_append_left hkn] at hfk;exact hfk
    obtain⟨ab,aoff,rfl,hab,d0,d1,d2,d3⟩:=(HF.o.below (HB0.o.trans (HB.o.mono HB0.o.size))).stone hfk';have q1:((k:Int)<(es.length:Int)):=by omega
    have q2:decide (es.length<=k)=false:=by simpa using hkn
    clear hfk hfk';go_wp2_with fail;obtain⟨V,hV⟩:=nm (wr.alloc (.cells #[.string f.a,.string f.w,.string f.l,.string f.h] 28));obtain⟨vb,hvb⟩:=nm wr.heap.size;have hsV:SB V vb 28 #[.string f.a,.string f.w,.string f.l,.string f.h]:=by rw[<-hV,<-hvb];exact SB.new wr _ _
    have hbV:Below wr.heap.size wr V:=by rw[<-hV];exact(Below.refl _ _).alloc lZ _
    have HBV:O (Below W.heap.size W V):=Hi (HB.o.trans (hbV.mono HB.o.size));obtain⟨e0,e1,e2,e3,-⟩:=zc hsV;obtain⟨b0,b1,b2,b3,-⟩:=zc (HSB.o.below HBV.o HSB.o.lt);rw[hV,hvb];clear hV hsV hvb;have a0:V.cell? ⟨ab,aoff+k*4,none⟩=some (.string f.a):=ce hbV hab d0;have a1:V.cell? ⟨ab,aoff+k*4+1,none⟩=some (.string f.w):=ce hbV hab d1
    have a2:V.cell? ⟨ab,aoff+k*4+2,none⟩=some (.string f.l):=ce hbV hab d2;have a3:V.cell? ⟨ab,aoff+k*4+3,none⟩=some (.string f.h):=ce hbV hab d3;clear c0 c1 c2 c3 d0 d1 d2 d3 hbV;go_quiet (fail);go_wp2;go_roundw
    case rel=>exact⟨k+1,by omega,by go_num,⟨HBV.o.os,HBV.o.tape,HBV.o.output,HBV.o.size,HBV.o.block⟩⟩
    case measure=>simp[intOf];omega
   .
    have hm:f=⟨m0,m1,m2,m3⟩:=by
     rw[List.getElem?_append_right (by omega)] at hfk;have h3:k - es.length=0∨k - es.length=1∨k - es.length=2:=by omega
     rcases h3 with h|h|h<;>rw[h] at hfk<;>exact(Option.some.inj hfk).symm
    subst hm;have q1:¬((k:Int)<(es.length:Int)):=by omega
    have q2:decide ((k:Int)<(es.length:Int))=false:=by simpa using q1
    clear hfk;go_wp2_with fail;obtain⟨V,hV⟩:=nm (wr.alloc (.cells #[.string m0,.string m1,.string m2,.string m3] 28));obtain⟨vb,hvb⟩:=nm wr.heap.size;have hsV:SB V vb 28 #[.string m0,.string m1,.string m2,.string m3]:=by rw[<-hV,<-hvb];exact SB.new wr _ _
    have hbV:Below wr.heap.size wr V:=by rw[<-hV];exact(Below.refl _ _).alloc lZ _
    have HBV:O (Below W.heap.size W V):=Hi (HB.o.trans (hbV.mono HB.o.size));obtain⟨e0,e1,e2,e3,-⟩:=zc hsV;obtain⟨b0,b1,b2,b3,-⟩:=zc (HSB.o.below HBV.o HSB.o.lt);rw[hV,hvb];clear hV hsV hvb;clear c0 c1 c2 c3 hbV;go_quiet (fail);go_wp2;go_roundw
    case rel=>exact⟨k+1,by omega,by go_num,⟨HBV.o.os,HBV.o.tape,HBV.o.output,HBV.o.size,HBV.o.block⟩⟩
    case measure=>simp[intOf];omega
  .
   have hk':k=es.length+3:=by omega
   subst hk';go_wp2;go_ret;exact⟨rfl,HB0.o.trans (HB.o.mono HB0.o.size)⟩
end Go.Proofs.YtldjeecnapgakaaGreatDoor

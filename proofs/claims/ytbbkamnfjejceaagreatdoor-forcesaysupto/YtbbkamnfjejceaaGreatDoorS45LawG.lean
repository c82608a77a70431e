/- From what a call's arguments read as to where forces lie. -/
import Derived.Test.YtbbkamnfjejceaaGreatDoorS44LawA
import Derived.Test.YtbbkamnfjejceaaGreatDoorRows
import Derived.Deep.Slices
import Derived.KernelRfl
namespace Go.Proofs.YtbbkamnfjejceaaGreatDoor
open Go
set_option linter.unusedVariables false
theorem Qm3(ds:List Nat)(h:Small 10 ds):decVal (ds.reverse.map (fun d=>UInt8.ofNat (48+d)))=val 10 ds:=by
 induction ds with
 |nil=>rfl
 |cons d l ih=>
  have h1:=h d (List.mem_cons_self ..);have h2:=ih fun e he=>h e (List.mem_cons_of_mem _ he)
  have h3:(UInt8.ofNat (48+d)).toNat=48+d:=by
   rw[UInt8.toNat_ofNat'];omega
  rw[List.reverse_cons,List.map_append,List.map_cons,List.map_nil,Qci,h2,h3,Qa6];omega
theorem IsDec.dig{l:List UInt8}{n:Nat}(h:IsDec l n):IsDig l∧decVal l=n:=by
 rcases h with ⟨rfl,rfl⟩|⟨h0,ds,hd,rfl⟩
 · exact⟨⟨by decide,fun c hc=>by simp at hc;subst hc;decide⟩,by decide⟩
 ·
  refine⟨⟨?_,?_⟩,by rw[Qm3 ds hd.small];exact hd.eq⟩
  ·
   intro hn;have:ds= []:=by simpa using hn
   subst this;exact h0 (by rw[←hd.eq];rfl)
  ·
   intro c hc;obtain⟨d,hm,rfl⟩:=List.mem_map.1 hc;have h1:=hd.small d (by simpa using hm);rw[UInt8.toNat_ofNat'];omega
theorem Qm4{l:List UInt8}(h:AllDigits l):Lib.index l [47]= -1:=by
 induction l with
 |nil=>rfl
 |cons c l ih=>
  have h1:=h c (List.mem_cons_self ..);have h2:=ih fun d hd=>h d (List.mem_cons_of_mem _ hd)
  have h3:((47:UInt8) == c)=false:=by
   rw[beq_eq_false_iff_ne];rintro rfl;exact absurd h1.1 (by decide)
  unfold Lib.index;rw[h2];simp[List.isPrefixOf,h3]
theorem Qm5{l:List UInt8}(d:List UInt8)(h:AllDigits l):Lib.index (l++47 :: d) [47]=l.length:=by
 induction l with
 |nil=>simp[Lib.index,List.isPrefixOf]
 |cons c l ih=>
  have h1:=h c (List.mem_cons_self ..);have h2:=ih fun d hd=>h d (List.mem_cons_of_mem _ hd)
  have h3:((47:UInt8) == c)=false:=by
   rw[beq_eq_false_iff_ne];rintro rfl;exact absurd h1.1 (by decide)
  have h4:((l.length:Int) == -1)=false:=by
   rw[beq_eq_false_iff_ne];omega
  rw[List.cons_append];unfold Lib.index;rw[h2];simp[List.isPrefixOf,h3,h4]
theorem Qea{l:List UInt8}(h:AllDigits l):Lib.cut l [47]=(l,[],false):=by
 unfold Lib.cut;rw[Qm4 h];rfl
theorem Qeb{l:List UInt8}(d:List UInt8)(h:AllDigits l):Lib.cut (l++47 :: d) [47]=(l,d,true):=by
 unfold Lib.cut;rw[Qm5 d h,if_pos (by omega)];simp
theorem Qg5{l:List UInt8}(t:List UInt8)(h:IsDig l):Lib.hasPrefix (l++t) [45]=false:=by
 obtain⟨h0,h⟩:=h;cases l with
 |nil=>exact absurd rfl h0
 |cons c l=>
  have h1:=h c (List.mem_cons_self ..);have h3:((45:UInt8) == c)=false:=by
   rw[beq_eq_false_iff_ne];rintro rfl;exact absurd h1.1 (by decide)
  simp[Lib.hasPrefix,List.isPrefixOf,h3]
theorem Qm6{l:List UInt8}(t:List UInt8)(h:IsDig l):Lib.trimPrefix (l++t) [45]=l++t:=by
 unfold Lib.trimPrefix;rw[Qg5 t h];rfl
theorem Qg6(t:List UInt8):Lib.hasPrefix (45 :: t) [45]=true:=by
 simp[Lib.hasPrefix,List.isPrefixOf]
theorem Qm7(t:List UInt8):Lib.trimPrefix (45 :: t) [45]=t:=by
 unfold Lib.trimPrefix;rw[Qg6 t];rfl
theorem Qg7(X:Int):sgn (decide (X<0)) X.natAbs=X:=by
 unfold sgn;by_cases h:X<0
 · simp[h];omega
 · simp[h];omega
theorem QText.back{l:List UInt8}{q:Rat}(h:QText l q):QOf l q:=by
 obtain⟨m,⟨k,hk,rfl⟩,h⟩:=h;obtain⟨hd,hv⟩:=hk.dig;have e1:∀t,Lib.hasPrefix ((if q.num<0 then 45 :: k else k)++t) [45]=decide (q.num<0):=by
  intro t;by_cases h0:q.num<0
  · simp only[h0,if_true,decide_true,List.cons_append];exact Qg6 _
  · simp only[h0,if_false,decide_false];exact Qg5 t hd
 have e2:∀t,Lib.trimPrefix ((if q.num<0 then 45 :: k else k)++t) [45]=k++t:=by
  intro t;by_cases h0:q.num<0
  · simp only[h0,if_true,List.cons_append];exact Qm7 _
  · simp only[h0,if_false];exact Qm6 t hd
 rcases h with ⟨h1,rfl⟩|⟨h1,d,hdd,rfl⟩
 ·
  have e3:=e1 [];have e4:=e2 [];rw[List.append_nil] at e3 e4;rw[List.append_nil] at e4;have:=Qcx (c1:=k) (c2:=[]) (bar:=false) e4 e3 (by rw[Qea hd.2]) (by rw[Qea hd.2]) (by rw[Qea hd.2]) hd (fun h=>by cases h);rw[hv,Qg7] at this;have e5:mkRat q.num (if false=true then decVal [] else 1)=q:=by
   have:=Rat.mkRat_self q;rw[h1] at this;exact this
  rw[e5] at this;exact this
 ·
  obtain⟨gd,gv⟩:=hdd.dig;have:=Qcx (c1:=k) (c2:=d) (bar:=true) (e2 (47 :: d)) (e1 (47 :: d)) (by rw[Qeb d hd.2]) (by rw[Qeb d hd.2]) (by rw[Qeb d hd.2]) hd (fun _=>gd);rw[hv,Qg7,gv] at this;have e5:mkRat q.num (if true=true then q.den else 1)=q:=Rat.mkRat_self q;rw[e5] at this;exact this
theorem QText.one{l:List UInt8}{p q:Rat}(h:QText l p)(k:QText l q):p=q:=h.back.inj k.back
end Go.Proofs.YtbbkamnfjejceaaGreatDoor
namespace Go.Proofs.YtbbkamnfjejceaaGreatDoor
open Go.RowKit
set_option linter.unusedVariables false
set_option linter.unusedSimpArgs false
theorem sq_ne{x y:Rat}(h:¬(x=0∧y=0)):x*x+y*y≠0:=by
 intro h0;apply h;have hx:=Qc6 x;have hy:=Qc6 y;have e1:x*x=0:=by grind
 have e2:y*y=0:=by grind
 exact⟨by rcases Rat.mul_eq_zero.1 e1 with h|h<;>exact h,by rcases Rat.mul_eq_zero.1 e2 with h|h<;>exact h⟩
structure Sized (fs:List F4):Prop where
 len:fs.length≤60
 wt0:wt 0 fs≤20000000
 wtm:wt 1048576 fs≤600000000
 sz:∀f,f∈ fs→sz f≤1048576
def forceD{H:Type}(f:F4):DataW H:=.agg [.agg [.lit (.string f.ax.data.toList),.lit (.string f.ay.data.toList)],.agg [.lit (.string f.wx.data.toList),.lit (.string f.wy.data.toList)]]
theorem Qdz{H:Type}(f:F4):Rows.uptoBulk (forceD (H:=H) f)=sz f+7:=by
 have h1:f.ax.data.toList.length=f.ax.size:=by simp
 have h2:f.ay.data.toList.length=f.ay.size:=by simp
 have h3:f.wx.data.toList.length=f.wx.size:=by simp
 have h4:f.wy.data.toList.length=f.wy.size:=by simp
 simp only[forceD,Rows.uptoBulk,Rows.uptoBulkAll,h1,h2,h3,h4,sz];omega
theorem Qgc{H:Type}(m:Nat)(fs:List F4):wt m fs≤16*Rows.uptoBulkAll (fs.map (forceD (H:=H)))+fs.length*(8*m+20):=by
 induction fs with
 |nil=>simp[wt]
 |cons f l ih=>
  have:=Qdz (H:=H) f;simp only[wt,List.map_cons,Rows.uptoBulkAll,List.length_cons,Nat.add_mul,Nat.one_mul];omega
theorem Qgd{H:Type}(fs:List F4)(f:F4)(h:f∈ fs):sz f≤Rows.uptoBulkAll (fs.map (forceD (H:=H))):=by
 induction fs with
 |nil=>cases h
 |cons g l ih=>
  have:=Qdz (H:=H) g;simp only[List.map_cons,Rows.uptoBulkAll];rcases List.mem_cons.1 h with rfl|h
  · omega
  · have:=ih h;omega
theorem Sized.of_bulk{H:Type}{fs:List F4}(hb:Rows.uptoBulkAll (fs.map (forceD (H:=H)))≤1048576)(hl:fs.length≤60):Sized fs:=by
 have h0:=Qgc (H:=H) 0 fs;have h1:=Qgc (H:=H) 1048576 fs;refine⟨hl,by omega,by omega,fun f hf=>Nat.le_trans (Qgd (H:=H) fs f hf) hb⟩
theorem Qee:Tryz.prog.cellsOf 23=1:=by kernel_rfl
theorem Qef:Tryz.prog.cellsOf 25=2:=by kernel_rfl
section
variable {H:Type} {enc:TypeId × Value→H} {P:Program} {w:World} {base:Nat} {spare:Nat→Bool} {held:Bool} {fuel:Nat} {cs:List Value} {x:DataW H × List MemPlace} {tF tS tQ:TypeId} {f0 f1 g0 g1:Field}
theorem Qeg(uS:P.underlying tS=some (.struct #[f0,f1]))(uQ:P.underlying tQ=some .string)(cS:P.cellsOf tS=2)(cQ:P.cellsOf tQ=1)(t0:f0.type=tQ)(t1:f1.type=tQ)(o0:f0.offset=0)(o1:f1.offset=1)
 (h:DataW.trod enc P w base spare held fuel tS cs=some x):
 ∃s t:ByteArray,cs= [.string s,.string t]∧x.1=.agg [.lit (.string s.data.toList),.lit (.string t.data.toList)]∧x.2= []:=by
 obtain⟨xs,n,rfl,rfl,hl,hxl,hf⟩:=DataW.trod_struct uS h;rw[cS] at hl;clear h;have h0:=hf 0 f0 rfl;have h1:=hf 1 f1 rfl;rw[t0,o0,cQ] at h0;rw[t1,o1,cQ] at h1;clear hf
 match cs,hl,xs,hxl with
 | [v0,v1],_,[y0,y1],_=>
   simp only[List.drop_zero,List.drop_succ_cons,List.take_succ_cons,List.take_zero,List.getElem?_cons_zero,List.getElem?_cons_succ] at h0 h1;obtain⟨s,e0,rfl,_⟩:=DataW.trod_string uQ h0;obtain⟨t,e1,rfl,_⟩:=DataW.trod_string uQ h1;obtain rfl:v0=_:=by simpa using e0
   obtain rfl:v1=_:=by simpa using e1
   exact⟨s,t,rfl,rfl,rfl⟩
end
theorem Qge:Tryz.prog.cellsOf 29=4:=by kernel_rfl
section
variable {H:Type} {enc:TypeId × Value→H} {P:Program} {w:World} {base:Nat} {spare:Nat→Bool} {held:Bool} {fuel:Nat} {cs:List Value} {x:DataW H × List MemPlace} {tF tS tQ:TypeId} {f0 f1 g0 g1:Field}
theorem Qgf(uF:P.underlying tF=some (.struct #[g0,g1]))(uS:P.underlying tS=some (.struct #[f0,f1]))(uQ:P.underlying tQ=some .string)(cF:P.cellsOf tF=4)(cS:P.cellsOf tS=2)(cQ:P.cellsOf tQ=1)
 (t0:f0.type=tQ) (t1:f1.type=tQ) (o0:f0.offset=0) (o1:f1.offset=1) (k0:g0.type=tS) (k1:g1.type=tS) (p0:g0.offset=0) (p1:g1.offset=2)
 (h:DataW.trod enc P w base spare held fuel tF cs=some x):
 ∃f:F4,cs= [.string f.ax,.string f.ay,.string f.wx,.string f.wy]∧x.1=forceD f∧x.2= []:=by
 obtain⟨xs,n,rfl,rfl,hl,hxl,hf⟩:=DataW.trod_struct uF h;rw[cF] at hl;clear h;have h0:=hf 0 g0 rfl;have h1:=hf 1 g1 rfl;rw[k0,p0,cS] at h0;rw[k1,p1,cS] at h1;clear hf
 match cs,hl,xs,hxl with
 | [v0,v1,v2,v3],_,[y0,y1],_=>
   simp only[List.drop_zero,List.drop_succ_cons,List.take_succ_cons,List.take_zero,List.getElem?_cons_zero,List.getElem?_cons_succ] at h0 h1;obtain⟨s,t,e0,d0,q0⟩:=Qeg uS uQ cS cQ t0 t1 o0 o1 h0;obtain⟨s',t',e1,d1,q1⟩:=Qeg uS uQ cS cQ t0 t1 o0 o1 h1;obtain⟨rfl,rfl⟩:v0=_∧v1=_:=by simpa using e0
   obtain⟨rfl,rfl⟩:v2=_∧v3=_:=by simpa using e1
   exact⟨⟨s,t,s',t'⟩,rfl,by simp[forceD,d0,d1],by simp[q0,q1]⟩
theorem Qlb{t:TypeId}(ut:P.underlying t=some (.slice tF))(uF:P.underlying tF=some (.struct #[g0,g1]))(uS:P.underlying tS=some (.struct #[f0,f1]))(uQ:P.underlying tQ=some .string)(cF:P.cellsOf tF=4)(cS:P.cellsOf tS=2)(cQ:P.cellsOf tQ=1)
 (t0:f0.type=tQ) (t1:f1.type=tQ) (o0:f0.offset=0) (o1:f1.offset=1) (k0:g0.type=tS) (k1:g1.type=tS) (p0:g0.offset=0) (p1:g1.offset=2)
 (h:DataW.trod enc P w base spare held fuel t cs=some x):
 ∃(a:Option Addr) (cap:Nat) (fs:List F4),cs= [.slice a fs.length cap]∧FRow w a cap fs∧(∀l r,x.1=.slice l r→l=fs.map forceD)∧((fs= []∧x.1=.nil)∨∃l r,x.1=.slice l r):=by
 rcases Deep.open_slice ut h with ⟨rfl,rfl⟩|⟨a,len,cap,m,n,D,Pl,rfl,hb,hlc,hcm,hm,rfl,hD⟩
 · exact⟨none,0,[],rfl,⟨by simp,fun i f hi=>by simp at hi⟩,fun l r e=>by simp at e,.inl ⟨rfl,rfl⟩⟩
 have hlm:len≤m:=by rw[hm];split<;>omega
 have each:∀i,∃f:F4,i<len→w.cells? base (a.add (i*4)) 4=some [.string f.ax,.string f.ay,.string f.wx,.string f.wy]∧D i=forceD f:=by
  intro i;by_cases hi:i<len
  ·
   obtain⟨cs',h1,h2⟩:=hD i (by omega);obtain⟨f,rfl,hd,_⟩:=Qgf uF uS uQ cF cS cQ t0 t1 o0 o1 k0 k1 p0 p1 h2;rw[cF] at h1;exact⟨f,fun _=>⟨h1,hd⟩⟩
  · exact⟨⟨⟨#[]⟩,⟨#[]⟩,⟨#[]⟩,⟨#[]⟩⟩,fun h=>absurd h hi⟩
 obtain⟨F,hF⟩:=Classical.axiomOfChoice each;refine⟨some a,cap,(List.range len).map F,by simp,⟨by simpa using hlc,?_⟩,?_,.inr ⟨_,_,rfl⟩⟩
 ·
  intro i f hi;have hil:i<len:=by
   have:=List.getElem?_eq_some_iff.1 hi;obtain⟨h,_⟩:=this
   simpa using h
  obtain rfl:F i=f:=by simpa [hil] using hi
  obtain⟨hc,_⟩:=hF i hil;obtain⟨_,_,hcell⟩:=World.cells?_some hc;obtain⟨b,off,sp⟩:=a;have c0:=hcell 0 (by omega);have c1:=hcell 1 (by omega);have c2:=hcell 2 (by omega);have c3:=hcell 3 (by omega);have z:=(World.cells?_some (hF 0 (by omega)).1).2.2 0 (by omega);have hsp:sp=none:=by
   cases sp with
   |none=>rfl
   |some v=>
    exfalso
    simp only[Nat.zero_mul,Addr.add,if_true,World.cell?,List.getElem?_cons_zero] at z
    split at z<;>simp at z
  subst hsp;have ea:∀j k,(Addr.add ⟨b,off,none⟩ j).add k=⟨b,off+j+k,none⟩:=by
   intro j k;unfold Addr.add;by_cases hj:j=0<;>by_cases hk:k=0<;>simp[hj,hk]
  rw[ea] at c0 c1 c2 c3;simp only[List.getElem?_cons_zero,List.getElem?_cons_succ,Nat.add_zero] at c0 c1 c2 c3;exact⟨b,off,rfl,World.block_lt_of_cell? _ _ c0,c0,c1,c2,c3⟩
 ·
  intro l r e;have e1:(List.range len).map D=l:=by simpa using (DataW.slice.inj e).1
  rw[←e1,List.map_map];refine List.map_congr_left fun i hi=>?_
  exact(hF i (by simpa using hi)).2
end
end Go.Proofs.YtbbkamnfjejceaaGreatDoor

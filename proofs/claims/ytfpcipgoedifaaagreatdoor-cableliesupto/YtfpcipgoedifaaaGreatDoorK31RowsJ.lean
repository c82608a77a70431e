/- the library's Clone and Delete of rows. -/
import Derived.Test.YtfpcipgoedifaaaGreatDoorK29RowsG
import Derived.Test.YtfpcipgoedifaaaGreatDoorK30Lin
namespace Go.Proofs.YtfpcipgoedifaaaGreatDoor
namespace Sg
theorem Qk2:∀(M N:Nat) (f:Nat→Nat),M<N→(∀n,n<N→f n<M)→∃a b,a<b∧b<N∧f a=f b
 |0,N,f,h,hf=>absurd (hf 0 (by omega)) (by omega)
 |M+1,0,f,h,hf=>absurd h (by omega)
 |M+1,N+1,f,h,hf=>by
  by_cases hv:∃a,a<N∧f a=f N
  · obtain⟨a,ha,e⟩:=hv
    exact⟨a,N,ha,by omega,e⟩
  ·
   have hne:∀n,n<N→f n≠f N:=fun n hn e=>hv ⟨n,hn,e⟩
   obtain⟨a,b,hab,hb,e⟩:=Qk2 M N (fun n=>if f N<f n then f n - 1 else f n) (by omega) (fun n hn=>by
    have h1:=hf n (by omega);have h2:=hf N (by omega);have h3:=hne n hn
    show (if f N<f n then f n - 1 else f n)<M
    split<;>omega)
   refine⟨a,b,hab,by omega,?_⟩;have h1:=hne a (by omega);have h2:=hne b hb
   split at e<;>split at e<;>omega
def isum:Nat→(Nat→Int)→Int
 |0,_=>0
 |n+1,f=>isum n f+f n
theorem Qk3:∀(n:Nat) (f g:Nat→Int),isum n (fun j=>f j - g j)=isum n f - isum n g
 |0,_,_=>by simp[isum]
 |n+1,f,g=>by simp only[isum,Qk3 n f g];omega
theorem Qk4:∀(n:Nat) (f g:Nat→Int),(∀j,j<n→f j=g j)→isum n f=isum n g
 |0,_,_,_=>rfl
 |n+1,f,g,h=>by simp only[isum];rw[Qk4 n f g (fun j hj=>h j (by omega)),h n (by omega)]
theorem isum_le:∀(n:Nat) (f:Nat→Int) (l u:Int),(∀j,j<n→l≤f j∧f j≤u)→n*l≤isum n f∧isum n f≤n*u
 |0,_,_,_,_=>by simp[isum]
 |n+1,f,l,u,h=>by
  have h1:=isum_le n f l u (fun j hj=>h j (by omega));have h2:=h n (by omega);simp only[isum];have e1:((n+1:Nat):Int)*l=n*l+l:=by rw[Int.natCast_add,Int.add_mul];simp
  have e2:((n+1:Nat):Int)*u=n*u+u:=by rw[Int.natCast_add,Int.add_mul];simp
  rw[e1,e2];omega
def dig(B n j:Nat):Nat:=n / B ^ j % B
theorem Qgd{B:Nat}(hB:0<B)(n j:Nat):dig B n j<B:=Nat.mod_lt _ hB
theorem Qk5{B:Nat}(hB:0<B):∀(k m n:Nat),m<B ^ k→n<B ^ k→(∀j,j<k→dig B m j=dig B n j)→m=n
 |0,m,n,hm,hn,_=>by simp at hm hn;omega
 |k+1,m,n,hm,hn,h=>by
  have h0:m % B=n % B:=by have:=h 0 (by omega);simpa [dig] using this
  have h1:m / B=n / B:=Qk5 hB k (m / B) (n / B) (by rw[Nat.div_lt_iff_lt_mul hB];rwa [Nat.pow_succ] at hm) (by rw[Nat.div_lt_iff_lt_mul hB];rwa [Nat.pow_succ] at hn) (fun j hj=>by
   have:=h (j+1) (by omega);simp only[dig] at this ⊢;rw[Nat.div_div_eq_div_mul,Nat.div_div_eq_div_mul,←Nat.pow_succ']
   exact this)
  rw[←Nat.div_add_mod m B,←Nat.div_add_mod n B,h0,h1]
def code(D:Nat)(v:Nat→Nat):Nat→Nat
 |0=>0
 |k+1=>code D v k+v k*D ^ k
theorem Qem{D:Nat}{v:Nat→Nat}:∀(k:Nat),(∀i,i<k→v i<D)→code D v k<D ^ k
 |0,_=>by simp[code]
 |k+1,h=>by
  have h1:=Qem k (fun i hi=>h i (by omega));have h2:=h k (by omega);simp only[code,Nat.pow_succ];have h3:v k*D ^ k+D ^ k≤D ^ k*D:=by
   rw[Nat.mul_comm (D ^ k) D,←Nat.succ_mul];exact Nat.mul_le_mul_right _ h2
  omega
theorem Qk6{D:Nat}{v u:Nat→Nat}:∀(k:Nat),(∀i,i<k→v i<D)→(∀i,i<k→u i<D)→code D v k=code D u k→∀i,i<k→v i=u i
 |0,_,_,_,i,hi=>absurd hi (by omega)
 |k+1,hv,hu,e,i,hi=>by
  have h1:=Qem k (fun i hi=>hv i (by omega));have h2:=Qem k (fun i hi=>hu i (by omega));simp only[code] at e;have e1:v k=u k:=by
   have a1:(code D v k+v k*D ^ k) / D ^ k=v k:=by
    rw[Nat.add_mul_div_right _ _ (by omega),Nat.div_eq_of_lt h1,Nat.zero_add]
   have a2:(code D u k+u k*D ^ k) / D ^ k=u k:=by
    rw[Nat.add_mul_div_right _ _ (by omega),Nat.div_eq_of_lt h2,Nat.zero_add]
   rw[←a1,e,a2]
  rw[e1] at e;by_cases hik:i=k
  · rw[hik];exact e1
  · exact Qk6 k (fun i hi=>hv i (by omega)) (fun i hi=>hu i (by omega)) (by omega) i (by omega)
theorem Qut{a B:Nat}{z:Int}{x:Nat}(h: -(a:Int)≤z∧z≤a)(hx:x≤B): -((a*B:Nat):Int)≤z*x∧z*x≤((a*B:Nat):Int):=by
 have h1:z.natAbs≤a:=by omega
 have h2:(z*x).natAbs≤a*B:=by
  rw[Int.natAbs_mul,Int.natAbs_natCast];exact Nat.mul_le_mul h1 hx
 omega
theorem siegel(k a:Nat)(ha:0<a)(A:Nat→Nat→Int)(hA:∀i j,i<k→j<k+1→ -(a:Int)≤A i j∧A i j≤a):
 ∃y:Nat→Int,(∃j,j<k+1∧y j≠0)∧(∀i,i<k→isum (k+1) (fun j=>A i j*y j)=0)∧∀j,(y j).natAbs≤(2*((k+1)*a)) ^ k:=by
 obtain⟨E,hE⟩:∃E,2*((k+1)*a)=E:=⟨_,rfl⟩;have hE0:0<E:=by rw[←hE];exact Nat.mul_pos (by omega) (Nat.mul_pos (by omega) ha)
 rw[hE];obtain⟨B,hB⟩:∃B,E ^ k=B:=⟨_,rfl⟩;rw[hB];have hBp:0<B+1:=by omega
 obtain⟨H,hH⟩:∃H,(k+1)*(a*B)=H:=⟨_,rfl⟩;have hEH:E*B=2*H:=by rw[←hE,←hH,Nat.mul_assoc,Nat.mul_assoc]
 have hL:∀n i,i<k→ -(H:Int)≤isum (k+1) (fun j=>A i j*(dig (B+1) n j:Int))∧isum (k+1) (fun j=>A i j*(dig (B+1) n j:Int))≤H:=fun n i hi=>by
  have:=isum_le (k+1) (fun j=>A i j*(dig (B+1) n j:Int)) (-((a*B:Nat):Int)) ((a*B:Nat):Int) (fun j hj=>Qut (hA i j hi hj) (by have:=Qgd hBp n j;omega));rw[Int.mul_neg,←Int.natCast_mul,hH] at this;exact this
 have hv:∀n i,i<k→(isum (k+1) (fun j=>A i j*(dig (B+1) n j:Int))+H).toNat<E*B+1:=fun n i hi=>by
  have:=hL n i hi;omega
 obtain⟨m,n,hmn,hn,e⟩:=Qk2 ((E*B+1) ^ k) ((B+1) ^ (k+1)) (fun n=>code (E*B+1) (fun i=>(isum (k+1) (fun j=>A i j*(dig (B+1) n j:Int))+H).toNat) k)
  (by
    have h1:(E*B+1) ^ k≤(E*(B+1)) ^ k:=Nat.pow_le_pow_left (by rw[Nat.mul_add];omega) k;rw[Nat.mul_pow,hB] at h1;have h2:0<(B+1) ^ k:=Nat.pow_pos hBp;have h3:(B+1) ^ k*(B+1)=B*(B+1) ^ k+(B+1) ^ k:=by rw[Nat.mul_add,Nat.mul_one,Nat.mul_comm]
    rw[Nat.pow_succ,h3]
    omega)
  (fun n _=>Qem k (fun i hi=>hv n i hi))
 have he:=Qk6 k (fun i hi=>hv m i hi) (fun i hi=>hv n i hi) e;refine⟨fun j=>(dig (B+1) m j:Int) - (dig (B+1) n j:Int),?_,fun i hi=>?_,fun j=>?_⟩
 ·
  by_cases hx:∃j,j<k+1∧(dig (B+1) m j:Int) - (dig (B+1) n j:Int)≠0
  · exact hx
  ·
   exfalso
   have:=Qk5 hBp (k+1) m n (by omega) hn (fun j hj=>by
    by_cases hd:(dig (B+1) m j:Int) - (dig (B+1) n j:Int)=0
    · omega
    · exact absurd ⟨j,hj,hd⟩ hx)
   omega
 ·
  have h1:=he i hi;have h2:=hL m i hi;have h3:=hL n i hi;have h4:=Qk3 (k+1) (fun j=>A i j*(dig (B+1) m j:Int)) (fun j=>A i j*(dig (B+1) n j:Int));rw[Qk4 (k+1) _ (fun j=>A i j*(dig (B+1) m j:Int) - A i j*(dig (B+1) n j:Int)) (fun j _=>Int.mul_sub _ _ _),h4];omega
 ·
  have h1:=Qgd hBp m j;have h2:=Qgd hBp n j
  show ((dig (B+1) m j:Int) - (dig (B+1) n j:Int)).natAbs≤B
  omega
end Sg
open Go.RowKit
set_option linter.unusedVariables false
set_option linter.unusedSimpArgs false
structure Fr (w w':World):Prop where
 size:w.heap.size<=w'.heap.size
 keep:∀b i u,w.cell? ⟨b,i,none⟩=some u->((∃x,u=Value.bool x)∨∃n,u=Value.int .u64 n)->w'.heap[b]?=w.heap[b]?
theorem Fr.cell{w w':World}(h:Fr w w'){b i:Nat}{u:Value}(hu:w.cell? ⟨b,i,none⟩=some u)(hk:(∃x,u=Value.bool x)∨∃n,u=Value.int .u64 n)(j:Nat):w'.cell? ⟨b,j,none⟩=w.cell? ⟨b,j,none⟩:=
 World.cell?_of_block (w:=w) (h.keep b i u hu hk)
theorem Fr.trans{u v w:World}(h:Fr u v)(k:Fr v w):Fr u w:=
 ⟨Nat.le_trans h.size k.size,fun b i x hx hk=>(k.keep b i x ((h.cell hx hk i).trans hx) hk).trans (h.keep b i x hx hk)⟩
theorem Fr.of_below{w w':World}(h:Below w.heap.size w w'):Fr w w':=⟨h.size,fun b i u hu _=>h.block b (World.block_lt_of_cell? _ _ hu)⟩
def Plain(C:Array Value):Prop:=∀u,u∈ C.toList->(∀x,u≠Value.bool x)/\∀n,u≠Value.int .u64 n
theorem Fr.of_only{w w':World}{g:Nat}{t:TypeId}{C:Array Value}(ho:Only g w w')(hs:SB w g t C)(hC:Plain C):Fr w w':=by
 refine⟨ho.size,fun b i u hu hk=>ho.block b (World.block_lt_of_cell? _ _ hu) ?_⟩;rintro rfl;rw[hs.cell] at hu;obtain⟨h1,h2⟩:=hC u (mO (by rw[Array.getElem?_toList];exact hu));rcases hk with ⟨x,e⟩|⟨n,e⟩
 · exact h1 x e
 · exact h2 n e
theorem Row.fr{w w':World}{a:Option Addr}{cap:Nat}{l:List Nat}(h:Row .u64 w a cap l)(ho:Fr w w'):Row .u64 w' a cap l:=by
 refine⟨h.fit,?_,fun i hi=>?_⟩
 ·
  rcases h.shape with h1|⟨b',off,rfl,h2⟩
  · exact .inl h1
  · exact .inr ⟨b',off,rfl,by have:=ho.size;omega⟩
 · obtain⟨b',off,h1,h2,h3⟩:=h.cell i hi
   exact⟨b',off,h1,by have:=ho.size;omega,(ho.cell h3 (.inr ⟨_,rfl⟩) _).trans h3⟩
theorem NumV.fr{w w':World}{a:Option Addr}{n c x:Nat}(h:NumV w a n c x)(ho:Fr w w'):NumV w' a n c x:=by
 obtain⟨l,hl,h⟩:=h;exact⟨l,hl,h.row.fr ho,h.num,h.short⟩
theorem FracV.fr{w w':World}{v:Value}{q:Rat}(h:FracV w v q)(ho:Fr w w'):FracV w' v q:=by
 obtain⟨neg,a,n,c,b,m,d,e,h⟩:=h;refine⟨neg,a,n,c,b,m,d,e,h.neg,h.top.fr ho,?_⟩;rcases h.low with h1|⟨h1,h2⟩
 · exact .inl h1
 · exact .inr ⟨h1,h2.fr ho⟩
theorem QRow.fr{w w':World}{a:Option Addr}{cap:Nat}{ts:List FE}(h:QRow w a cap ts)(ho:Fr w w'):QRow w' a cap ts:=by
 refine⟨⟨h.row.fit,⟨fun j u hj=>?_⟩⟩,fun t ht=>⟨(h.ts t ht).1.fr ho,(h.ts t ht).2⟩⟩;obtain⟨b,off,ha,hb,hc⟩:=h.row.row.cell j u hj;have hjl:j<(ts.flatMap FE.cells).length:=(gZ hj).1;rw[Qcg (sz:=3) (fun _=>rfl)] at hjl;obtain⟨e,he⟩:∃e,ts[j / 3]?=some e:=⟨ts[j / 3]'(by omega),gE (by omega)⟩;obtain⟨b',off',ha',_,h0,_⟩:=h.at he;rw[ha] at ha';cases ha';obtain⟨n,x,y,z,x',y',z',hv,_⟩:=(h.get he).1;simp at hv;rw[hv.1] at h0;refine⟨b,off,ha,Nat.lt_of_lt_of_le hb ho.size,?_⟩;rw[ho.cell h0 (.inl ⟨_,rfl⟩)];exact hc
structure Grow (w:World) (B:Nat) (e:TypeId) (sz:Nat) (K:Value->Prop) (v:Value) (n:Nat) (xs:List Value):Prop where
 own:w.ownsRow B e sz v n xs
 all:∀g,v.ownBlock=some g->∃C,w.heap[g]?=some (.cells C e (0,0))/\∀u,u∈ C.toList->K u
theorem Grow.nil(w:World)(B:Nat)(e:TypeId)(sz:Nat)(K:Value->Prop):Grow w B e sz K (.slice none 0 0) 0 []:=⟨World.ownsRow_nil w B e sz,fun g hg=>by simp[Value.ownBlock] at hg⟩
theorem Grow.keep{w w':World}{B:Nat}{e:TypeId}{sz:Nat}{K:Value->Prop}{v:Value}{n:Nat}{xs:List Value}(h:Grow w B e sz K v n xs)(hk:∀g,v.ownBlock=some g->w'.heap[g]?=w.heap[g]?):Grow w' B e sz K v n xs:=by
 refine⟨⟨h.own.1,?_⟩,fun g hg=>?_⟩
 ·
  rcases h.own.2 with h1|⟨g,cap,cur,rfl,hb,hg,h2⟩
  · exact .inl h1
  · exact .inr ⟨g,cap,cur,rfl,hb,by rw[hk g rfl];exact hg,h2⟩
 · obtain⟨C,h1,h2⟩:=h.all g hg
   exact⟨C,by rw[hk g hg];exact h1,h2⟩
theorem Qky{z:Array Value}{n:Nat}{u:Value}(hu:u∈ (Builtin.zeroCells z n).toList):u∈ z.toList:=by
 simp[Builtin.zeroCells] at hu;obtain⟨j,hj,e⟩:=hu;have h0:0<z.size:=by
  rcases Nat.eq_zero_or_pos z.size with h|h
  · rw[h] at hj;omega
  · exact h
 rw[getElem!_pos z (j % z.size) (Nat.mod_lt _ h0)] at e;rw[<-e];exact Array.getElem_mem_toList _
theorem Grow.app{P:Program}{w:World}{B:Nat}{t ty e:TypeId}{i:TypeInfo}{z:Value}{sz bytes:Nat}{K:Value->Prop}{v:Value}{n:Nat}{xs:List Value}(h:Grow w B e sz K v n xs)
 (ht:P.underlying t=some (.slice e)) (hi:P.info? e=some i) (hz:i.zero=some z) (hsize:i.size=sz) (hby:i.bytes=bytes) (hzs:z.cells.size=sz) (hsz:0<sz) (hKz:∀u,u∈ z.cells.toList->K u)
 (a:Addr) (m c:Nat) (news:List Value) (hl:news.length=m*sz) (hnews:∀j u,news[j]?=some u->w.cell? (a.add j)=some u) (h1:∀u,u∈ news->u.oneCell'=true) (hK:∀u,u∈ news->K u)
 (hnm:n+m<=1048576) (hb64:bytes<=1000) (hbase:B<=w.heap.size):
 ∃v' w',(Builtin.append_ #[t,t] ty #[v,.slice (some a) m c]).run P w=.ok v' w'/\Grow w' B e sz K v' (n+m) (xs++news)/\w.grownBy w' v.ownBlock/\(v'.ownBlock=v.ownBlock∨v'.ownBlock=some w.heap.size):=by
 have hbm:(n+m)*bytes<=1048576*1000:=Nat.mul_le_mul hnm hb64;obtain⟨v',w',hr,hown,hgrow,hnil,hat⟩:=run_append_own_at (P:=P) w B t ty e i z sz bytes ht hi hz hsize hby hzs hsz v n xs h.own a m c news hl hnews h1 (by unfold maxLen;omega) (by omega) hbase;refine⟨v',w',hr,⟨hown,?_⟩,hgrow,hat⟩;have hl':news.length=m*i.size:=by rw[hsize];exact hl
 have hxl:xs.length=n*i.size:=by rw[hsize];exact h.own.1
 have hgen:∀(C:Array Value) (w1:World) (n cap:Nat),(∀u,u∈ C.toList->K u)->∀g,(Value.slice (some ⟨w1.heap.size,0,none⟩) n cap).ownBlock=some g->∃D,(w1.drew.alloc (.cells C e)).heap[g]?=some (.cells D e (0,0))/\∀u,u∈ D.toList->K u:=fun C w1 n cap hC g hg=>by
  have e:w1.heap.size=g:=by simpa [Value.ownBlock] using hg
  subst e;exact⟨C,heap_alloc_new w1.drew _,hC⟩
 rcases h.own.2 with ⟨rfl,rfl⟩|⟨g,cap,cur,rfl,hbg,hg,hnc,hcm,hcs,htake⟩
 ·
  by_cases hm:m=0
  · rw[hnil.2 ⟨rfl,hm⟩]
    exact fun g hg=>by simp[Value.ownBlock] at hg
  rw[run_append_nil (P:=P) w t ty e i z ht hi hz a m c news hl' hnews (by omega) (by omega) (by rw[hby];simp only[Nat.zero_add] at hbm;omega)] at hr;injection hr with e1 e2
  subst e1;subst e2;refine hgen _ w _ _ fun u hu=>?_
  simp only[Array.toList_append,List.mem_append] at hu;rcases hu with hu|hu
  · exact hK u hu
  · exact hKz u (Qky hu)
 ·
  obtain⟨C,hC,hCK⟩:=h.all g rfl;rw[hg] at hC;injection hC with hC
  injection hC with hC _ _
  subst hC;by_cases hroom:n+m<=cap
  ·
   have hfit:n*i.size+news.length<=cur.size:=by rw[hl',hcs,hsize,<-Nat.add_mul];exact Nat.mul_le_mul_right _ hroom
   rw[run_append_room (P:=P) w t ty e i ht hi g n cap cur hg a m c news hl' hnews h1 hroom hfit] at hr;injection hr with e1 e2
   subst e1;subst e2;intro g' hg';have e:g=g':=by simpa [Value.ownBlock] using hg'
   subst e;refine⟨_,setRow_heap w g cur _ e _ hg,fun u hu=>?_⟩;simp only[List.toList_toArray,List.mem_append] at hu;rcases hu with (hu|hu)|hu
   · exact hCK u (List.mem_of_mem_take hu)
   · exact hK u hu
   · exact hCK u (List.mem_of_mem_drop hu)
  ·
   have holds:∀j u,xs[j]?=some u->w.cell? ((⟨g,0,none⟩:Addr).add j)=some u:=h.own.cells (g:=g) rfl;rw[run_append_grow (P:=P) w t ty e i z ht hi hz ⟨g,0,none⟩ n cap xs hxl holds a m c news hl' hnews (by omega) (by omega) (by rw[hby];exact growslice_fits (by omega) (by omega))] at hr;injection hr with e1 e2
   subst e1;subst e2;refine hgen _ w _ _ fun u hu=>?_
   simp only[Array.toList_append,List.mem_append] at hu;rcases hu with (hu|hu)|hu
   · rw[<-htake] at hu
     exact hCK u (List.mem_of_mem_take hu)
   · exact hK u hu
   · exact hKz u (Qky hu)
def MR.val(r:MR):Value:=.slice r.a r.ts.length r.cap
theorem Qei(rs:List MR):rs.flatMap MR.cells=rs.map MR.val:=by
 induction rs with
 |nil=>rfl
 |cons r l ih=>rw[List.flatMap_cons,ih];rfl
def IsSl(u:Value):Prop:=∃a n c,u=Value.slice a n c
theorem Qt0(rs:List MR):∀u,u∈ rs.map MR.val->IsSl u:=fun u hu=>by
 obtain⟨r,_,rfl⟩:=List.mem_map.1 hu;exact⟨_,_,_,rfl⟩
theorem Qt1(rs:List MR):∀u,u∈ rs.map MR.val->u.oneCell'=true:=fun u hu=>by
 obtain⟨r,_,rfl⟩:=List.mem_map.1 hu;rfl
theorem IsSl.plain{C:Array Value}(h:∀u,u∈ C.toList->IsSl u):Plain C:=fun u hu=>by
 obtain⟨a,n,c,rfl⟩:=h u hu;exact⟨fun x=>by simp,fun n=>by simp⟩
def FE.re(K:Nat)(t:FE):FE:=⟨t.x,t.y,t.z,t.q,K⟩
theorem Qt2(K:Nat)(ts:List FE):(ts.map (FE.re K)).flatMap FE.cells=ts.flatMap FE.cells:=by
 induction ts with
 |nil=>rfl
 |cons t l ih=>rw[List.map_cons,List.flatMap_cons,ih,List.flatMap_cons];rfl
theorem QRow.re{w:World}{a:Option Addr}{cap K:Nat}{ts:List FE}(h:QRow w a cap ts)(hK:0<K)(hf:∀t,t∈ ts->Fits t.q K):QRow w a cap (ts.map (FE.re K)):=by
 refine⟨⟨by rw[List.length_map];exact h.row.fit,by rw[Qt2];exact h.row.row⟩,fun t ht=>?_⟩;obtain⟨u,hu,rfl⟩:=List.mem_map.1 ht;exact⟨(h.ts u hu).1,hf u hu,hK⟩
structure MOk (w:World) (W K:Nat) (r:MR):Prop where
 row:QRow w r.a r.cap r.ts
 len:r.ts.length=W
 sz:∀t,t∈ r.ts->t.k<=K
theorem MOk.fr{w w':World}{W K:Nat}{r:MR}(h:MOk w W K r)(ho:Fr w w'):MOk w' W K r:=⟨h.row.fr ho,h.len,h.sz⟩
def Oks(w:World)(W K:Nat)(rs:List MR):Prop:=∀r,r∈ rs->MOk w W K r
theorem Oks.fr{w w':World}{W K:Nat}{rs:List MR}(h:Oks w W K rs)(ho:Fr w w'):Oks w' W K rs:=fun r hr=>(h r hr).fr ho
theorem MR.q_beyond{r:MR}{i:Nat}(h:r.ts.length<=i):r.q i=0:=by
 unfold MR.q;rw[List.getD_eq_getElem?_getD,List.getElem?_eq_none (by simpa using h)];rfl
theorem qAt_q(r:MR):qAt r.ts=r.q:=rfl
theorem MOk.made{w:World}{g W K B:Nat}{us:List FE}{r:MR}{f:Nat->Rat->Rat}{v:Vec}(hb:QBlk w g us)(hr:r.ts.length=W)(hm:Made f B r.ts us r.ts.length)(hK:0<K)(hv:∀i,i<W->f i (r.q i)=v i)(hz:∀i,W<=i->v i=0)(hfit:∀i,i<W->Fits (v i) K):
 ∃r':MR,r'.val=.slice (some ⟨g,0,none⟩) W W/\MOk w W K r'/\r'.q=v:=by
 have hul:us.length=W:=by rw[hm.1];exact hr
 have hat:∀i u,us[i]?=some u->u.q=v i:=fun i u hu=>by
  have hi:i<W:=by rw[<-hul];exact(gZ hu).1
  obtain⟨e,he⟩:∃e,r.ts[i]?=some e:=⟨r.ts[i]'(by omega),gE (by omega)⟩;obtain⟨u',h1,h2,_⟩:=hm.2 i e (by omega) he;obtain rfl:=Option.some.inj (hu.symm.trans h1);rw[h2,<-MR.q_at he];exact hv i hi
 refine⟨⟨some ⟨g,0,none⟩,us.length,us.map (FE.re K)⟩,?_,⟨?_,by simp[hul],fun t ht=>?_⟩,?_⟩
 · simp[MR.val,hul]
 ·
  refine hb.row.re hK fun t ht=>?_
  obtain⟨i,hi⟩:=List.mem_iff_getElem?.1 ht;rw[hat i t hi];exact hfit i (by rw[<-hul];exact(gZ hi).1)
 · obtain⟨u,_,rfl⟩:=List.mem_map.1 ht
   exact Nat.le_refl _
 ·
  funext i;rcases Nat.lt_or_ge i W with h|h
  ·
   obtain⟨u,hu⟩:∃u,us[i]?=some u:=⟨us[i]'(by omega),gE (by omega)⟩;rw[MR.q_at (e:=FE.re K u) (by simp[hu])];exact hat i u hu
  · rw[MR.q_beyond (by simpa [hul] using h),hz i h]
theorem Qkz:∀u,u∈ (Value.slice none 0 0).cells.toList->IsSl u:=fun u hu=>by
 have e:(Value.slice none 0 0).cells=#[.slice none 0 0]:=by rfl
 rw[e] at hu;obtain rfl:u=_:=by simpa using hu
 exact⟨_,_,_,rfl⟩
theorem Grow.made(w:World)(e:TypeId)(sz:Nat)(K:Value->Prop):Grow (w.alloc (.cells #[] e)) w.heap.size e sz K (.slice (some ⟨w.heap.size,0,none⟩) 0 0) 0 []:=
 ⟨World.ownsRow_made w #[] 0 lZ (Nat.zero_le _) (by simp),fun g hg=>by
   have e:w.heap.size=g:=by simpa [Value.ownBlock] using hg
   subst e
   exact⟨#[],SB.new w _ _,fun u hu=>by simp at hu⟩⟩
set_option maxHeartbeats 1000000 in
theorem Qt3(a:Option Addr)(cap:Nat)(rs:List MR)(w:World)(h:ARow MR.cells w a cap rs)(hl:rs.length<=1000):
 Calls Tryz.prog 137 #[.slice a rs.length cap] w fun e w'=>(∃v,e=.returned v/\Grow w' w.heap.size 70 1 IsSl v rs.length (rs.map MR.val))/\Below w.heap.size w w':=by
 obtain⟨i0,hi,hz0,hz1,hz2⟩:=info_parts Qcy;have hq:∀(w:World) (a:Option Addr) (n c n' c':Nat),(binOp .eql 67 (.slice a n c) (.slice none n' c')).run Tryz.prog w=.ok (.bool a.isNone) w:=fun w a n c n' c'=>Lib.run_eql_slice_nil w _ _ a n c n' c' Tryz.underlying67
 have H:=Hi h;clear h;cases a with
 |none=>
  have hrs:rs= []:=by
   cases rs with
   |nil=>rfl
   |cons r l=>
    obtain⟨b,off,e,_⟩:=H.out.at (sz:=1) (fun _=>rfl) (by decide) (i:=0) (e:=r) rfl;cases e
  subst hrs;clear hi hz0 hz1 hz2;go_enter Tryz.func137,Tryz.ntmps137;go_wp2;go_ret;exact⟨⟨_,rfl,Grow.nil _ _ _ _ _⟩,Below.refl _ _⟩
 |some ad=>
  obtain⟨W,hW⟩:=nm (w.alloc (.cells #[] 70));have hbW:Below w.heap.size w W:=by rw[<-hW];exact(Below.refl _ _).alloc lZ _
  have hg0:Grow W w.heap.size 70 1 IsSl (.slice (some ⟨w.heap.size,0,none⟩) 0 0) 0 []:=by rw[<-hW];exact Grow.made w _ _ _
  obtain⟨v',w',hr,hgr,hgw,hat⟩:=hg0.app (P:=Tryz.prog) (ty:=67) Tryz.underlying67 hi hz0 hz1 hz2 rfl (by decide) Qkz ad rs.length cap (rs.map MR.val) (by simp) (fun j u hj=>by
   rw[<-Qei] at hj;obtain⟨b,off,e,hb,hc⟩:=H.out.row.cell j u hj;cases e;rw[Qay]
   exact ce hbW hb hc) (Qt1 rs) (Qt0 rs) (by omega) (by decide) hbW.size
  rw[<-hW] at hr;have HR:=Hi hr;have HG:=Hi hgr;have HB:=Hi (hbW.grown hgw hbW.size (fun k hk=>by simp[Value.ownBlock] at hk;omega));clear hr hgr hgw hat hg0 hbW hW hi hz0 hz1 hz2;go_enter Tryz.func137,Tryz.ntmps137;go_wp2_with (at_builtin;refine Qc1 _ rfl _ _ 67 67 rfl (.slice (some ⟨w.heap.size,0,none⟩) 0 0) (.slice (some ad) rs.length cap) _ _ rfl rfl HR.out ?_);go_wp2;go_ret;refine⟨⟨_,rfl,?_⟩,HB.out⟩;have:=HG.out;rw[Nat.zero_add,List.nil_append] at this;exact this
def layCells(C:Array Value):Nat->List Value->Array Value
 |_,[]=>C
 |o,v :: r=>layCells (C.setIfInBounds o v) (o+1) r
theorem Qcz:∀(vs:List Value) (o:Nat) (C:Array Value),(layCells C o vs).size=C.size
 | [],_,_=>rfl
 |v :: r,o,C=>by rw[layCells,Qcz r];simp
theorem Qgb:∀(vs:List Value) (o:Nat) (C:Array Value) (i:Nat),o+vs.length<=C.size->(layCells C o vs)[i]?=if o<=i/\i<o+vs.length then vs[i - o]? else C[i]?
 | [],o,C,i,_=>by rw[if_neg (by simp only[List.length_nil];omega)];rfl
 |v :: r,o,C,i,h=>by
  simp only[List.length_cons] at h;rw[layCells,Qgb r (o+1) _ i (by simp;omega),Array.getElem?_setIfInBounds];by_cases h1:i=o
  ·
   subst h1;rw[if_neg (by omega),if_pos rfl,if_pos (by omega),if_pos (by simp only[List.length_cons];omega)];simp
  ·
   by_cases h2:o+1<=i/\i<o+1+r.length
   · rw[if_pos h2,if_pos (by simp only[List.length_cons];omega),show i - o=(i - (o+1))+1 by omega]
     simp
   · rw[if_neg h2,if_neg (Ne.symm h1),if_neg (by simp only[List.length_cons];omega)]
theorem SB.cells{t:TypeId}{g:Nat}:∀(vs:List Value) (o:Nat) {w:World} {C:Array Value},SB w g t C->SB (w.setCells g o vs) g t (layCells C o vs)/\Only g w (w.setCells g o vs)
 | [],_,w,_,h=>⟨h,Only.refl _ _⟩
 |v :: r,o,w,C,h=>by
  obtain⟨h1,h2⟩:=SB.cells r (o+1) (h.set o v);exact⟨h1,((Only.refl g w).setCell o v).trans h2⟩
theorem Qt4:∀w,(zeroValue 70).run Tryz.prog w=.ok (.slice none 0 0) w:=by
 intro w;obtain⟨i,hi,h⟩:=Option.map_eq_some_iff.1 Qcy;simp only[Prod.mk.injEq] at h;simp[zeroValue,typeInfo,hi,h.1]
set_option maxHeartbeats 4000000 in
set_option maxRecDepth 1000000 in
theorem Qt5(g off cap i j n:Nat)(C:Array Value)(w:World)(hs:SB w g 70 C)(hoff:off=0)(hsl:∀u,u∈ C.toList->IsSl u)(hn:n<=cap)(hcs:C.size=cap)(hcm:cap<=maxLen)(hij:i<j)(hj:j<=n):
 Calls Tryz.prog 139 #[.slice (some ⟨g,off,none⟩) n cap,.int .i64 i,.int .i64 j] w fun e w'=>e=.returned (.slice (some ⟨g,off,none⟩) (i+(n - j)) cap)/\
  w'=(w.drew.setCells g (off+i*1) ((C.toList.take n).drop j)).setCells g (off+(i+(n - j))) (List.replicate (n - (i+(n - j))) (.slice none 0 0)):=by
 obtain⟨i0,hi0,hz0,hz1,hz2⟩:=info_parts Qcy;have hcm':cap<=9223372036854775807:=by simpa [maxLen] using hcm
 have hcell:∀k,w.cell? ⟨g,off+k,none⟩=C[k]?:=fun k=>by rw[hoff,Nat.zero_add];exact hs.cell k
 have hfree:∀k,w.frozen? ⟨g,off+k,none⟩=false:=fun k=>hs.free _
 obtain⟨news,hnews⟩:∃news,news=(C.toList.take n).drop j:=⟨_,rfl⟩;have hlen:news.length=n - j:=by rw[hnews];simp;omega
 have hget:∀t u,news[t]?=some u->C[j+t]?=some u:=fun t u hu=>by
  have ht:=(gZ hu).1;rw[hnews,List.getElem?_drop,List.getElem?_take_of_lt (by omega),Array.getElem?_toList] at hu;exact hu
 obtain⟨A,hA,hsrc⟩:∃A:Addr,(if cap=j then some (⟨g,off,none⟩:Addr) else some ⟨g,off+j,none⟩)=some A/\Hid (∀t u,news[t]?=some u->w.drew.cell? (A.add t)=some u):=by
  by_cases h:cap=j
  ·
   refine⟨⟨g,off,none⟩,by simp[h],Hi fun t u hu=>?_⟩;have:=(gZ hu).1;omega
  ·
   refine⟨⟨g,off+j,none⟩,by simp[h],Hi fun t u hu=>?_⟩;rw[Qay,Nat.add_assoc];exact(hcell (j+t)).trans (hget t u hu)
 have s1:Hid (news.length=(n - j)*1):=Hi (by rw[Nat.mul_one];exact hlen);have s2:Hid (∀u∈ news,u.oneCell'=true):=Hi fun u hu=>by
  rw[hnews] at hu;obtain⟨_,_,_,rfl⟩:=hsl u (List.mem_of_mem_take (List.mem_of_mem_drop hu));rfl
 have s3:Hid (∀t,t<news.length->(w.drew.cell? ⟨g,off+i*1+t,none⟩).isSome=true/\w.drew.frozen? ⟨g,off+i*1+t,none⟩=false):=Hi fun t ht=>by
  rw[Nat.mul_one,Nat.add_assoc];refine⟨?_,hfree _⟩
  show (w.cell? _).isSome=true
  rw[hcell,Array.getElem?_eq_getElem (by omega)];rfl
 obtain⟨W1,hW1⟩:∃W1,W1=w.drew.setCells g (off+i*1) news:=⟨_,rfl⟩;have hSB1:SB W1 g 70 (layCells C (off+i*1) news):=by rw[hW1];exact(SB.cells news _ hs.drew).1
 have hcl:∀ty,(Builtin.clear_ #[67] ty #[.slice (some ⟨g,off+(i+(n - j)),none⟩) (n - (i+(n - j))) (cap - (i+(n - j)))]).run Tryz.prog W1=.ok (.tuple #[]) (W1.setCells g (off+(i+(n - j))) (List.replicate (n - (i+(n - j))) (.slice none 0 0))):=
  fun ty=>Lib.run_clear_slice W1 _ _ ty _ Tryz.underlying67 Qt4 rfl rfl g (off+(i+(n - j))) _ _ (by omega) (fun t ht=>by
   rw[hSB1.cell,Array.getElem?_eq_getElem (by rw[Qcz];omega)]
   rfl) (fun t ht=>hSB1.free _)
 have hW:Hid (W1=w.drew.setCells g (off+i*1) news):=Hi hW1;have hN:Hid (news=(C.toList.take n).drop j):=Hi hnews;have hic:i<=cap:=by omega
 have hjc:j<=cap:=by omega
 clear hW1 hSB1 hs hget hnews hlen hcell hfree hsl hz0 hz2 hoff hcs hcm;go_enter Tryz.func139,Tryz.ntmps139;go_wp2_with fail;go_region_law (refine step_append_room rfl (.tmp 22) (.tmp 25) 67 rfl 70 i0 1 Tryz.underlying67 hi0 hz1 g off i cap (by simp[Act.eval,Act.put]) A (n - j) (cap - j) news (by simp[Act.eval,Act.put]) s1.out hsrc.out s2.out (by omega) s3.out ?_;rw[<-hW.out]);go_wp2;go_ret;exact⟨rfl,by rw[<-hN.out,<-hW.out]⟩
theorem Qt6(w:World)(B i j n:Nat)(v:Value)(xs:List Value)(h:Grow w B 70 1 IsSl v n xs)(hij:j=i+1)(hi:i<n):
 Calls Tryz.prog 139 #[v,.int .i64 i,.int .i64 j] w fun e w'=>∃g v',v.ownBlock=some g/\v'.ownBlock=some g/\e=.returned v'/\Grow w' B 70 1 IsSl v' (n - 1) (xs.eraseIdx i)/\Only g w w':=by
 obtain⟨hlen,hown⟩:=h.own;rcases hown with ⟨_,h0⟩|⟨g,cap,cur,rfl,hB,hg,hnc,hcm,hcs,htake⟩
 · omega
 obtain⟨C,hC,hall⟩:=h.all g rfl;rw[hg] at hC;injection hC with hC
 injection hC with hC _ _
 subst hC;rw[Nat.mul_one] at hcs htake hlen;refine(Qt5 g 0 cap i j n cur w hg rfl hall hnc hcs hcm (by omega) (by omega)).mono ?_;rintro e w' ⟨rfl,rfl⟩;have e1:i+(n - j)=n - 1:=by omega
 have e2:n - (n - 1)=1:=by omega
 simp only[Nat.zero_add,Nat.mul_one,e1,e2,htake];obtain⟨k1,k2⟩:=SB.cells (t:=70) (g:=g) (xs.drop j) i (w:=w.drew) (C:=cur) hg;obtain⟨k3,k4⟩:=SB.cells (List.replicate 1 (.slice none 0 0)) (n - 1) k1;have hxl:(xs.drop j).length=n - j:=by simp;omega
 have hsz:(layCells (layCells cur i (xs.drop j)) (n - 1) (List.replicate 1 (.slice none 0 0))).size=cap:=by rw[Qcz,Qcz];exact hcs
 have hat:∀k,(layCells (layCells cur i (xs.drop j)) (n - 1) (List.replicate 1 (.slice none 0 0)))[k]?=if n - 1<=k/\k<n - 1+1 then (List.replicate 1 (Value.slice none 0 0))[k - (n - 1)]? else if i<=k/\k<i+(n - j) then (xs.drop j)[k - i]? else cur[k]?:=fun k=>by
  rw[Qgb _ _ _ _ (by rw[Qcz];simp;omega),Qgb _ _ _ _ (by omega),hxl];simp
 have hcx:∀k,k<n->cur[k]?=xs[k]?:=fun k hk=>by rw[<-htake,List.getElem?_take_of_lt hk,Array.getElem?_toList]
 refine⟨g,_,rfl,rfl,rfl,⟨⟨?_,.inr ⟨g,cap,_,rfl,hB,k3,by omega,hcm,by rw[Nat.mul_one];exact hsz,?_⟩⟩,fun g' hg'=>?_⟩,?_⟩
 · rw[List.length_eraseIdx,if_pos (by omega),Nat.mul_one];omega
 ·
  rw[Nat.mul_one];apply List.ext_getElem?;intro k;by_cases hk:k<n - 1
  ·
   rw[List.getElem?_take_of_lt hk,Array.getElem?_toList,hat k,if_neg (by omega),List.getElem?_eraseIdx];by_cases h1:k<i
   · rw[if_neg (by omega),if_pos h1]
     exact hcx k (by omega)
   ·
    rw[if_pos (by omega),if_neg h1,List.getElem?_drop]
    congr 1
    omega
  · rw[List.getElem?_eq_none (by rw[List.length_take];omega),List.getElem?_eq_none (by rw[List.length_eraseIdx,if_pos (by omega)];omega)]
 ·
  have eg:g=g':=by simpa [Value.ownBlock] using hg'
  subst eg;refine⟨_,k3,fun u hu=>?_⟩;obtain⟨k,hk⟩:=List.mem_iff_getElem?.1 hu;rw[Array.getElem?_toList,hat k] at hk
  split at hk
  · obtain rfl:=List.eq_of_mem_replicate (mO hk)
    exact⟨_,_,_,rfl⟩
  ·
   split at hk
   ·
    have hm:=List.mem_of_mem_drop (mO hk);rw[<-htake] at hm;exact hall u (List.mem_of_mem_take hm)
   · exact hall u (mO (by rw[Array.getElem?_toList];exact hk))
 · have:=k2.trans k4
   exact⟨this.os,this.tape,this.output,this.size,this.block⟩
end Go.Proofs.YtfpcipgoedifaaaGreatDoor

/- rafterlaw: the closed fact rigged. -/
import Derived.Test.YtbbkamnfjejceaaGreatDoorP40BalX
import Derived.Test.YtbbkamnfjejceaaGreatDoorP47PebQ
import Derived.Test.YtbbkamnfjejceaaGreatDoorP39BalI
namespace Go.Proofs.YtbbkamnfjejceaaGreatDoor
set_option linter.unusedVariables false
set_option linter.unusedSimpArgs false
theorem Qf2(W:Nat)(x:Vec):∀(n:Nat) (g h:Nat→Rat) (M:Nat→Vec),dot W (fun c=>sumQ n (fun p=>g p*M (2*p) c+h p*M (2*p+1) c)) x=sumQ n (fun p=>g p*dot W (M (2*p)) x+h p*dot W (M (2*p+1)) x)
 |0,g,h,M=>Qat W _ x (fun c hc=>by show (0:Rat)*x c=0;grind)
 |n+1,g,h,M=>by
  have key:∀V:Nat,dot V (fun c=>sumQ (n+1) (fun p=>g p*M (2*p) c+h p*M (2*p+1) c)) x=dot V (fun c=>sumQ n (fun p=>g p*M (2*p) c+h p*M (2*p+1) c)) x+(g n*dot V (M (2*n)) x+h n*dot V (M (2*n+1)) x):=by
   intro V
   induction V with
   |zero=>simp only[dot];grind
   |succ V ih=>simp only[dot,sumQ] at ih ⊢;rw[ih];grind
  rw[key W,Qf2 W x n g h M];rfl
theorem Qf3{α:Type}(P:α→Bool):∀(l:List α) (Q:Nat→Bool),(∀i e,l[i]?=some e→Q i=P e)→(List.range l.length).countP Q=l.countP P
 | [],_,_=>rfl
 |e :: l,Q,h=>by
  rw[List.length_cons,List.range_succ_eq_map,List.countP_cons,List.countP_cons,List.countP_map,h 0 e rfl];rw[Qf3 P l (Q ∘ Nat.succ) (fun i f hi=>h (i+1) f (by simpa using hi))]
theorem Qf4(S:Peb.PSet):∀n:Nat,((List.range (2*n)).filter (fun r=>S (r / 2))).length=2*Peb.sz n S
 |0=>rfl
 |n+1=>by
  have e:2*(n+1)=2*n+1+1:=by omega
  have e1:2*n / 2=n:=by omega
  have e2:(2*n+1) / 2=n:=by omega
  rw[Peb.sz_succ,e,List.range_succ,List.range_succ,List.filter_append,List.filter_append,List.length_append,List.length_append,Qf4 S n];cases hS:S n<;>simp[e1,e2,hS]<;>omega
theorem Qks{n:Nat}{p:Nat × Nat × Rat × Rat}(g h:Nat→Rat)(h1:p.1<n)(h2:p.2.1<n)(h3:p.1≠p.2.1)(hg:g p.1*p.2.2.1+h p.1*p.2.2.2=g p.2.1*p.2.2.1+h p.2.1*p.2.2.2):
 sumQ n (fun q=>g q*barAt p (2*q)+h q*barAt p (2*q+1))=0:=by
 rw[Qd3 n _ p.1 p.2.1 h1 h2 h3 (fun q _ ha hb=>?_)]
 ·
  have a1:barAt p (2*p.1)=p.2.2.1:=if_pos rfl;have a2:barAt p (2*p.1+1)=p.2.2.2:=by unfold barAt;rw[if_neg (by omega),if_neg (by omega),if_pos rfl]
  have a3:barAt p (2*p.2.1)= -p.2.2.1:=by unfold barAt;rw[if_neg (by omega),if_pos rfl]
  have a4:barAt p (2*p.2.1+1)= -p.2.2.2:=by unfold barAt;rw[if_neg (by omega),if_neg (by omega),if_neg (by omega),if_pos rfl]
  rw[a1,a2,a3,a4];grind
 ·
  have a1:barAt p (2*q)=0:=by unfold barAt;rw[if_neg (by omega),if_neg (by omega),if_neg (by omega),if_neg (by omega)]
  have a2:barAt p (2*q+1)=0:=by unfold barAt;rw[if_neg (by omega),if_neg (by omega),if_neg (by omega),if_neg (by omega)]
  rw[a1,a2];grind
abbrev edgeOf(p:Nat × Nat × Rat × Rat):Peb.Edge:=(p.1,p.2.1)
structure BarsLie (n:Nat) (px py:Nat→Rat) (vb:List (Nat × Nat × Rat × Rat)):Prop where
 at_:∀(i:Nat) (p:Nat × Nat × Rat × Rat),vb[i]?=some p→p.1<n∧p.2.1<n∧p.1≠p.2.1∧p.2.2.1=px p.2.1 - px p.1∧p.2.2.2=py p.2.1 - py p.1∧¬(p.2.2.1=0∧p.2.2.2=0)
theorem BarsLie.sum{n:Nat}{px py:Nat→Rat}{vb:List (Nat × Nat × Rat × Rat)}(hv:BarsLie n px py vb)(x:Vec)(g h:Nat→Rat)
 (hg:∀(i:Nat) (p:Nat × Nat × Rat × Rat),vb[i]?=some p→g p.1*p.2.2.1+h p.1*p.2.2.2=g p.2.1*p.2.2.1+h p.2.1*p.2.2.2):
 sumQ n (fun q=>g q*dot vb.length (balM vb vb.length [] (2*q)) x+h q*dot vb.length (balM vb vb.length [] (2*q+1)) x)=0:=by
 rw[←Qf2 vb.length x n g h (balM vb vb.length [])];refine Qat _ _ _ fun c hc=>?_
 have hp:vb[c]?=some vb[c]:=List.getElem?_eq_getElem hc;obtain⟨h1,h2,h3,_⟩:=hv.at_ c _ hp;have e:(fun p=>g p*balM vb vb.length [] (2*p) c+h p*balM vb vb.length [] (2*p+1) c)=fun q=>g q*barAt vb[c] (2*q)+h q*barAt vb[c] (2*q+1):=by
  funext q;simp only[balM,hp]
 show sumQ n (fun p=>g p*balM vb vb.length [] (2*p) c+h p*balM vb vb.length [] (2*p+1) c)*x c=0
 rw[e,Qks g h h1 h2 h3 (hg c _ hp)];grind
theorem BarsLie.three{n:Nat}{px py:Nat→Rat}{vb:List (Nat × Nat × Rat × Rat)}(hv:BarsLie n px py vb)(x:Vec){a b d:Nat}(ha:a<n)(hb:b<n)(hab:a≠b)
 (hd:(px b - px a≠0∧d=2*b+1)∨(py b - py a≠0∧d=2*b))
 (h0:∀r,r<2*n→r≠2*a→r≠2*a+1→r≠d→dot vb.length (balM vb vb.length [] r) x=0):∀r,r<2*n→dot vb.length (balM vb vb.length [] r) x=0:=by
 obtain⟨F,hF⟩:∃F:Nat→Rat,F=fun r=>dot vb.length (balM vb vb.length [] r) x:=⟨_,rfl⟩
 have hF':∀r,dot vb.length (balM vb vb.length [] r) x=F r:=fun r=>by rw[hF]
 have hs:=hv.sum x;simp only[hF'] at hs h0 ⊢;clear hF hF';have m:=hs (fun p=>-(py p - py a)) (fun p=>px p - px a) (fun i p hp=>by
  obtain⟨_,_,_,e1,e2,_⟩:=hv.at_ i p hp;rw[e1,e2]
  grind)
 have s1:=hs (fun p=>1) (fun p=>0) (fun i p hp=>rfl);have s2:=hs (fun p=>0) (fun p=>1) (fun i p hp=>rfl);have z:∀q,q<n→q≠a→q≠b→F (2*q)=0∧F (2*q+1)=0:=fun q hq h1 h2=>by
  rcases hd with ⟨_,rfl⟩|⟨_,rfl⟩<;>exact⟨h0 _ (by omega) (by omega) (by omega) (by omega),h0 _ (by omega) (by omega) (by omega) (by omega)⟩
 have hsum:∀g h:Nat→Rat,sumQ n (fun q=>g q*F (2*q)+h q*F (2*q+1))=(g a*F (2*a)+h a*F (2*a+1))+(g b*F (2*b)+h b*F (2*b+1)):=fun g h=>
  Qd3 n _ a b ha hb hab (fun q hq h1 h2=>by obtain⟨z1,z2⟩:=z q hq h1 h2;rw[z1,z2];grind)
 rw[hsum] at m s1 s2;have fb:F (2*b)=0∧F (2*b+1)=0:=by
  rcases hd with ⟨hne,rfl⟩|⟨hne,rfl⟩
  ·
   have hz:F (2*b)=0:=h0 _ (by omega) (by omega) (by omega) (by omega);refine⟨hz,?_⟩;rw[hz] at m;have:(px b - px a)*F (2*b+1)=0:=by grind
   rcases Rat.mul_eq_zero.1 this with h|h
   · exact absurd h hne
   · exact h
  ·
   have hz:F (2*b+1)=0:=h0 _ (by omega) (by omega) (by omega) (by omega);refine⟨?_,hz⟩;rw[hz] at m;have:(py b - py a)*F (2*b)=0:=by grind
   rcases Rat.mul_eq_zero.1 this with h|h
   · exact absurd h hne
   · exact h
 have fa:F (2*a)=0∧F (2*a+1)=0:=by
  obtain⟨f1,f2⟩:=fb;rw[f1,f2] at s1 s2;exact⟨by grind,by grind⟩
 intro r hr;by_cases e1:r=2*a
 · rw[e1];exact fa.1
 by_cases e2:r=2*a+1
 · rw[e2];exact fa.2
 by_cases e3:r=d
 ·
  rcases hd with ⟨_,rfl⟩|⟨_,rfl⟩
  · rw[e3];exact fb.2
  · rw[e3];exact fb.1
 exact h0 r hr e1 e2 e3
theorem Qf5{α:Type}(P:α→Bool):∀l:List α,l.countP P+l.countP (fun e=>!P e)=l.length
 | []=>rfl
 |e :: l=>by
  have:=Qf5 P l;rw[List.countP_cons,List.countP_cons,List.length_cons];cases P e<;>simp<;>omega
theorem BarsLie.sparse{n:Nat}{px py:Nat→Rat}{vb:List (Nat × Nat × Rat × Rat)}(hv:BarsLie n px py vb)
 (hn:∀x,Null vb.length (balRows n vb vb.length []) x→∀c,c<vb.length→x c=0):Peb.Sparse n (vb.map edgeOf):=by
 intro S hS;apply Classical.byContradiction;intro hlt;have hcnt:(vb.countP (fun p=>Peb.inE S (edgeOf p)))=Peb.cntE S (vb.map edgeOf):=by unfold Peb.cntE;rw[List.countP_map];rfl
 obtain⟨C,hC⟩:∃C,Peb.cntE S (vb.map edgeOf)=C:=⟨_,rfl⟩;rw[hC] at hcnt hlt;obtain⟨p0,hp0,hin⟩:∃p,p∈ vb∧Peb.inE S (edgeOf p)=true:=List.countP_pos_iff.1 (by rw[hcnt];omega);obtain⟨i0,hi0,he0⟩:=List.getElem_of_mem hp0;obtain⟨h1,h2,h3,h4,h5,h6⟩:=hv.at_ i0 p0 (by rw[List.getElem?_eq_getElem hi0,he0]);obtain⟨a,ha⟩:∃a,p0.1=a:=⟨_,rfl⟩;obtain⟨b,hb⟩:∃b,p0.2.1=b:=⟨_,rfl⟩;rw[ha] at h1 h3 h4 h5;rw[hb] at h2 h3 h4 h5;have hSa:S a=true:=by rw[←ha];exact(Bool.and_eq_true_iff.1 hin).1
 have hSb:S b=true:=by rw[←hb];exact(Bool.and_eq_true_iff.1 hin).2
 obtain⟨d,hd⟩:∃d,(px b - px a≠0∧d=2*b+1)∨(py b - py a≠0∧d=2*b):=by
  by_cases hx:px b - px a=0
  · refine⟨2*b,.inr ⟨fun hy=>h6 ⟨by rw[h4];exact hx,by rw[h5];exact hy⟩,rfl⟩⟩
  · exact⟨2*b+1,.inl ⟨hx,rfl⟩⟩
 have hdb:d / 2=b∧d<2*n∧d≠2*a∧d≠2*a+1:=by rcases hd with ⟨_,rfl⟩|⟨_,rfl⟩<;>omega
 obtain⟨L,hL⟩:∃L,(List.range (2*n)).filter (fun r=>S (r / 2))=L:=⟨_,rfl⟩;have hLm:∀r,r∈ L↔r<2*n∧S (r / 2)=true:=fun r=>by rw[←hL,List.mem_filter,List.mem_range]
 have hLl:L.length=2*Peb.sz n S:=by rw[←hL];exact Qf4 S n
 have m1:2*a∈ L:=(hLm _).2 ⟨by omega,by rw[show 2*a / 2=a by omega];exact hSa⟩;have m2:2*a+1∈ L.erase (2*a):=(List.mem_erase_of_ne (by omega)).2 ((hLm _).2 ⟨by omega,by rw[show (2*a+1) / 2=a by omega];exact hSa⟩);have m3:d∈ (L.erase (2*a)).erase (2*a+1):=(List.mem_erase_of_ne hdb.2.2.2).2 ((List.mem_erase_of_ne hdb.2.2.1).2 ((hLm _).2 ⟨hdb.2.1,by rw[hdb.1];exact hSb⟩));obtain⟨L3,hL3⟩:∃L3,((L.erase (2*a)).erase (2*a+1)).erase d=L3:=⟨_,rfl⟩;have hl3:L3.length+3=2*Peb.sz n S:=by
  have q1:=List.length_erase_of_mem m1;have q2:=List.length_erase_of_mem m2;have q3:=List.length_erase_of_mem m3;rw[hL3] at q3;omega
 have hL3m:∀r,r<2*n→S (r / 2)=true→r≠2*a→r≠2*a+1→r≠d→r∈ L3:=fun r hr hSr e1 e2 e3=>by
  rw[←hL3];exact(List.mem_erase_of_ne e3).2 ((List.mem_erase_of_ne e2).2 ((List.mem_erase_of_ne e1).2 ((hLm r).2 ⟨hr,hSr⟩)))
 obtain⟨Q,hQ⟩:∃Q:Nat→Bool,∀i p,vb[i]?=some p→Q i= !Peb.inE S (edgeOf p):=⟨fun i=>match vb[i]? with|some p=>!Peb.inE S (edgeOf p)|none=>false,fun i p hp=>by simp only[hp]⟩;obtain⟨U,hU⟩:∃U,(List.range vb.length).filter Q=U:=⟨_,rfl⟩;have hUl:U.length+C=vb.length:=by
  have:=Qf5 (fun p=>Peb.inE S (edgeOf p)) vb;rw[←hU,←List.countP_eq_length_filter,Qf3 (fun p=>!Peb.inE S (edgeOf p)) vb Q hQ];omega
 obtain⟨x,hx,c,hc,hxc⟩:=Qmb (W:=vb.length) (M:=U.map unitV++L3.map (balM vb vb.length [])) (by rw[List.length_append,List.length_map,List.length_map];omega);obtain⟨hx1,hx2⟩:=Null.app.1 hx;have hout:∀i p,vb[i]?=some p→Peb.inE S (edgeOf p)=false→x i=0:=fun i p hp hf=>by
  have hil:=(List.getElem?_eq_some_iff.1 hp).1;have:=hx1 (unitV i) (List.mem_map.2 ⟨i,by rw[←hU,List.mem_filter,List.mem_range];exact⟨hil,by rw[hQ i p hp,hf];rfl⟩,rfl⟩);rw[Qma hil] at this;exact this
 have hrows:∀r,r<2*n→dot vb.length (balM vb vb.length [] r) x=0:=by
  refine hv.three x h1 h2 h3 hd fun r hr e1 e2 e3=>?_
  cases hSr:S (r / 2) with
  |true=>exact hx2 _ (List.mem_map.2 ⟨r,hL3m r hr hSr e1 e2 e3,rfl⟩)
  |false=>
   refine Qat _ _ _ fun i hi=>?_
   have hp:vb[i]?=some vb[i]:=List.getElem?_eq_getElem hi;cases hf:Peb.inE S (edgeOf vb[i]) with
   |false=>rw[hout i _ hp hf];grind
   |true=>
    obtain⟨f1,f2⟩:=Bool.and_eq_true_iff.1 hf;have n1:(vb[i]).1≠r / 2:=fun e=>by rw[←e] at hSr;rw[hSr] at f1;cases f1
    have n2:(vb[i]).2.1≠r / 2:=fun e=>by rw[←e] at hSr;rw[hSr] at f2;cases f2
    have:balM vb vb.length [] r i=0:=by
     simp only[balM,hp,barAt];rw[if_neg (by omega),if_neg (by omega),if_neg (by omega),if_neg (by omega)]
    rw[this];grind
 exact hxc (hn x (fun v hvm=>by
  obtain⟨r,hr,rfl⟩:=List.mem_map.1 hvm
  exact hrows r (List.mem_range.1 hr)) c hc)
open Go.RowKit
abbrev barE(b:B6):Int × Int:=(b.a,b.b)
theorem FrV.lies{n:Nat}{js:List S2}{bs:List B6}{hs:List H3}{vb:List (Nat × Nat × Rat × Rat)}{vh:List Nat}(hv:FrV n js bs hs vb vh)(hp:∀p,p∈ vb→p.1<js.length∧p.2.1<js.length∧¬(p.2.2.1=0∧p.2.2.2=0)):∃px py:Nat→Rat,BarsLie js.length px py vb:=by
 have ex:∀i:Nat,∃v:Rat × Rat,∀s,js[i]?=some s→QOf s.x.data.toList v.1∧QOf s.y.data.toList v.2:=fun i=>by
  rcases hi:js[i]? with _|s
  · exact⟨(0,0),fun b hb=>by cases hb⟩
  ·
   obtain⟨x,hx⟩:=QOf.ex s.x.data.toList;obtain⟨y,hy⟩:=QOf.ex s.y.data.toList;exact⟨(x,y),fun b e=>by cases e;exact⟨hx,hy⟩⟩
 obtain⟨f,hf⟩:=Classical.axiomOfChoice ex;refine⟨fun i=>(f i).1,fun i=>(f i).2,⟨fun i p hi=>?_⟩⟩;have hil:i<bs.length:=by have:=(List.getElem?_eq_some_iff.1 hi).1;have:=hv.lb;omega
 have hb:=hv.vb i bs[i] p (List.getElem?_eq_getElem hil) hi;obtain⟨s,t,x1,y1,x2,y2,e1,e2,_,_,_,_,u1,u2,u3,u4,e3,e4⟩:=hb.ex;obtain⟨h1,h2,h3⟩:=hp p (List.mem_of_getElem? hi);refine⟨h1,h2,hb.ne,?_,?_,h3⟩
 · rw[e3,(hf _ s e1).1.inj u1,(hf _ t e2).1.inj u3]
 · rw[e4,(hf _ s e1).2.inj u2,(hf _ t e2).2.inj u4]
theorem FrV.edges{n:Nat}{js:List S2}{bs:List B6}{hs:List H3}{vb:List (Nat × Nat × Rat × Rat)}{vh:List Nat}(hv:FrV n js bs hs vb vh):(bs.map barE).map Peb.toE=vb.map edgeOf:=by
 refine Qda (by rw[List.length_map,List.length_map,List.length_map,hv.lb]) fun i a b ha hb=>?_
 rw[List.getElem?_map] at ha hb;obtain⟨e,he,rfl⟩:=Option.map_eq_some_iff.1 ha;rw[List.getElem?_map] at he;obtain⟨b6,hb6,rfl⟩:=Option.map_eq_some_iff.1 he;obtain⟨p,hp,rfl⟩:=Option.map_eq_some_iff.1 hb;have k:=hv.vb i b6 p hb6 hp;simp only[Peb.toE,edgeOf,barE,k.a,k.b,Int.toNat_natCast]
theorem Qjx{α:Type}{P:α→Bool}{l:List α}{i j:Nat}{u v:α}(hij:j<i)(hj:l[j]?=some u)(hi:l[i]?=some v)(hu:P u=true)(hv:P v=true):2≤l.countP P:=by
 have e:l=l.take i++l.drop i:=(List.take_append_drop i l).symm;rw[e,List.countP_append];have h1:0<(l.take i).countP P:=List.countP_pos_iff.2 ⟨u,List.mem_of_getElem? (i:=j) (by rw[List.getElem?_take_of_lt hij];exact hj),hu⟩;have h2:0<(l.drop i).countP P:=List.countP_pos_iff.2 ⟨v,List.mem_of_getElem? (i:=0) (by rw[List.getElem?_drop];exact hi),hv⟩;omega
theorem Qjy{js:List S2}{bs:List B6}{hs:List H3}{vb:List (Nat × Nat × Rat × Rat)}{vh:List Nat}(hv:FrV 1048576 js bs hs vb vh)(hp:∀p,p∈ vb→p.1<js.length∧p.2.1<js.length∧¬(p.2.2.1=0∧p.2.2.2=0))(hj:1≤js.length)(hh:hs= [])
 (hn:∀x,Null (bs.length+hs.length) (balRows js.length vb bs.length vh) x→∀k,k<bs.length+hs.length→x k=0):
 (∀c at_,Peb.ChkSays (js.length:Nat) (bs.map barE) c at_→c=0∧at_=0)∧∀l:List Bool,Peb.RunR js.length ((bs.map barE).map Peb.toE).reverse l.reverse→l.countP id=bs.length∧l.length=bs.length:=by
 subst hh;obtain⟨px,py,hl⟩:=hv.lies hp;have hvh:vh= []:=List.length_eq_zero_iff.1 hv.lh;have hsp:Peb.Sparse js.length (vb.map edgeOf):=hl.sparse fun x hx k hk=>by
  rw[hvh,←hv.lb] at hn;exact hn x hx k hk
 have hed:=hv.edges;refine⟨fun c at_ hc=>Peb.Chk_zero hc (by omega) (by have:=hv.j;omega) (by rw[List.length_map];have:=hv.b;omega) fun i x hx=>?_,fun l hr=>?_⟩
 ·
  rw[List.getElem?_map] at hx;obtain⟨b6,hb6,rfl⟩:=Option.map_eq_some_iff.1 hx;have hil:=(List.getElem?_eq_some_iff.1 hb6).1;obtain⟨p,hpi⟩:∃p,vb[i]?=some p:=⟨vb[i]'(by rw[hv.lb];exact hil),List.getElem?_eq_getElem _⟩;have k:=hv.vb i b6 p hb6 hpi;obtain⟨h1,h2,_⟩:=hp p (List.mem_of_getElem? hpi);have hne:=k.ne;unfold Peb.edgeC;rw[if_pos (by simp only[barE,k.a,k.b];omega),if_neg];intro hm;obtain⟨y,hy,hly⟩:=List.mem_map.1 hm;obtain⟨j,hj1,hj2⟩:=List.getElem_of_mem hy;rw[List.length_take,List.length_map] at hj1;have hji:j<i:=by omega
  have hjs:(bs.map barE)[j]?=some y:=by
   rw[←hj2,List.getElem_take];exact List.getElem?_eq_getElem _
  rw[List.getElem?_map] at hjs;obtain⟨d6,hd6,rfl⟩:=Option.map_eq_some_iff.1 hjs;obtain⟨q,hqj⟩:∃q,vb[j]?=some q:=⟨vb[j]'(by rw[hv.lb];omega),List.getElem?_eq_getElem _⟩;have k2:=hv.vb j d6 q hd6 hqj;simp only[Peb.lesser,barE,k.a,k.b,k2.a,k2.b,Prod.mk.injEq] at hly;obtain⟨l1,l2⟩:=hly;have hor:(q.1=p.1∧q.2.1=p.2.1)∨(q.1=p.2.1∧q.2.1=p.1):=by omega
  have h3:=hsp (Peb.pair p.1 p.2.1) (Peb.two_le_sz h1 h2 hne (by simp[Peb.pair]) (by simp[Peb.pair]));have h4:=Peb.sz_pair js.length p.1 p.2.1 hne;have h5:2≤Peb.cntE (Peb.pair p.1 p.2.1) (vb.map edgeOf):=Qjx (i:=i) (j:=j) (u:=edgeOf q) (v:=edgeOf p) hji (by rw[List.getElem?_map,hqj];rfl) (by rw[List.getElem?_map,hpi];rfl)
   (by rcases hor with ⟨e1,e2⟩|⟨e1,e2⟩<;>simp[Peb.inE,Peb.pair,edgeOf,e1,e2]) (by simp[Peb.inE,Peb.pair,edgeOf])
  omega
 ·
  rw[hed] at hr;obtain⟨_,h2,h3⟩:=Peb.run_all hr (hsp.perm (List.reverse_perm _).symm);simp only[List.length_reverse,List.length_map,hv.lb,List.countP_reverse] at h2 h3;exact⟨h2,h3⟩
end Go.Proofs.YtbbkamnfjejceaaGreatDoor
namespace Go.Proofs.YtbbkamnfjejceaaGreatDoor
set_option linter.unusedVariables false
set_option linter.unusedSimpArgs false
structure FrP (P b:Nat) (vb:List (Nat × Nat × Rat × Rat)):Prop where
 pos:0<P
 le:P≤2 ^ b
 wh:∀p,p∈ vb→Wh P b p.2.2.1∧Wh P b p.2.2.2
theorem FrP.at{P b nb:Nat}{vb:List (Nat × Nat × Rat × Rat)}{vh:List Nat}(h:FrP P b vb)(r c:Nat):Wh P b (balM vb nb vh r c):=by
 unfold balM;cases hp:vb[c]? with
 |none=>
  simp only;cases vh[c - nb]? with
  |none=>exact Wh.zero _ _
  |some x=>
   simp only
   split
   · exact Wh.one h.le
   · exact Wh.zero _ _
 |some p=>
  obtain⟨w1,w2⟩:=h.wh p (List.mem_of_getElem? hp);simp only[barAt]
  split
  · exact w1
  ·
   split
   · exact w1.neg
   ·
    split
    · exact w2
    ·
     split
     · exact w2.neg
     · exact Wh.zero _ _
section
variable {n P b:Nat} {js:List S2} {bs:List B6} {hs:List H3} {vb:List (Nat × Nat × Rat × Rat)} {vh:List Nat}
theorem FrP.rows(h:FrP P b vb)(hv:FrV n js bs hs vb vh):
 Going (kE b) (MJ (bs.length+hs.length) 20 (kC b) (balRows js.length vb bs.length vh))∧MJ (bs.length+hs.length) 20 (kC b) (balRows js.length vb bs.length vh) 0 (balRows js.length vb bs.length vh) [] []∧
 ∀L S hh,MJ (bs.length+hs.length) 20 (kC b) (balRows js.length vb bs.length vh) (bs.length+hs.length) L S hh→(Ech 0 (bs.length+hs.length) S hh∧∀x,Null (bs.length+hs.length) (balRows js.length vb bs.length vh) x↔Null (bs.length+hs.length) S x)∧clnFits (kW b) S hh∧∀v,v∈ cln S hh→∀i,Fits (v i) (kC b):=by
 refine Qe8 h.pos h.le (fun r hr j=>?_) (fun r hr i hi=>?_) (.inl ?_)
 · obtain⟨k,_,rfl⟩:=List.mem_map.1 hr
   exact h.at k j
 · obtain⟨k,_,rfl⟩:=List.mem_map.1 hr
   exact Qbl hv.lb hv.lh k i hi
 ·
  have:=hv.j;simp only[balRows,List.length_map,List.length_range];omega
end
open Go.RowKit
theorem Wh.fits{P b:Nat}{q:Rat}(h:Wh P b q)(hP:0<P)(hPb:P≤2 ^ b):Fits q (b+1):=by
 obtain⟨z,e,hz⟩:=h;have h2:2 ^ b<2 ^ (b+1):=Nat.pow_lt_pow_right (by decide) (by omega);refine Qdu (Z:=z) (y:=1) (d:=P) (by decide) hP ?_ (by omega) (by simp;omega) (by omega);rw[←e]
 show q*(((1:Int):Rat)*(P:Rat))=q*(P:Rat)
 rw[show ((1:Int):Rat)=1 from rfl,Rat.one_mul]
structure FrLP (P b:Nat) (vb:List (Nat × Nat × Rat × Rat)) (vs:List (Nat × Rat × Rat)):Prop extends FrP P b vb where
 agn:∀k i,Wh P b (agn (vs.take k) i)
theorem Qdb{α β γ:Type}{f:α→β→γ}:∀{l:List α} {m:List β} {r:γ},r∈ List.zipWith f l m→∃a,a∈ l∧∃b,b∈ m∧r=f a b
 |a :: l,b :: m,r,h=>by
  rw[List.zipWith_cons_cons] at h;rcases List.mem_cons.1 h with rfl|h
  · exact⟨a,by simp,b,by simp,rfl⟩
  · obtain⟨a',ha,b',hb,e⟩:=Qdb h
    exact⟨a',by simp[ha],b',by simp[hb],e⟩
 | [],m,r,h=>by simp at h
 |a :: l,[],r,h=>by simp at h
theorem Qjg(a1 a2 a3 al:Option Addr)(c1 c2 c3 cl P b:Nat)(js:List S2)(bs:List B6)(hs:List H3)(vb:List (Nat × Nat × Rat × Rat))(vh:List Nat)(ls:List L3)(vs:List (Nat × Rat × Rat))(w:World)(hg:Glob w)(hf:FrRow w a1 a2 a3 c1 c2 c3 js bs hs)(hz:FrSized js bs hs)(hok:FrameFault js bs hs 0 0)(hv:FrV 1048576 js bs hs vb vh)
 (hl:ARow L3.cells w al cl ls) (hll:ls.length≤20) (hvl:vs.length=ls.length) (hlv:∀(i:Nat) (l:L3) (p:Nat × Rat × Rat),ls[i]?=some l→vs[i]?=some p→LoadV js.length l p) (hp:FrLP P b vb vs) (hb1:1000000≤b) (hb2:b≤16000000):
 Calls Tryz.prog 60 #[.agg #[.slice a1 js.length c1,.slice a2 bs.length c2,.slice a3 hs.length c3],.slice al ls.length cl] w (CarrySays bs.length hs.length (balRows js.length vb bs.length vh) ((List.range (2*js.length)).map (agn vs)) w):=by
 have hag:∀i,Wh P b (agn vs i):=fun i=>by
  have:=hp.agn vs.length i;rw[List.take_length] at this;exact this
 obtain⟨hgo,hst,hen⟩:=Qe8 (W:=bs.length+hs.length+1) (M:=List.zipWith (wider (bs.length+hs.length)) (balRows js.length vb bs.length vh) ((List.range (2*js.length)).map (agn vs))) hp.pos hp.le (fun r hr j=>by
  obtain⟨m,hm,v,hv',rfl⟩:=Qdb hr;obtain⟨k,_,rfl⟩:=List.mem_map.1 hm;obtain⟨i,_,rfl⟩:=List.mem_map.1 hv';unfold wider
  split
  · exact hag _
  · exact hp.at _ _) (fun r hr i hi=>by
  obtain⟨m,hm,v,hv',rfl⟩:=Qdb hr;obtain⟨k,_,rfl⟩:=List.mem_map.1 hm;unfold wider;rw[if_neg (by omega)]
  exact Qbl hv.lb hv.lh _ i (by omega)) (.inl (by
  have:=hv.j;simp only[List.length_zipWith,balRows,List.length_map,List.length_range]
  omega))
 refine Qiz a1 a2 a3 al c1 c2 c3 cl 1048576 (kW b) js bs hs vb vh ls vs w hg hf hz hok hv hl hll hvl hlv (fun k i=>((hp.agn k i).fits hp.pos hp.le).mono (by simp only[kW,kC];omega)) (by simp only[kW,kC];omega) (by simp only[kW,kC];omega) _ (hgo.mono (by simp only[kE,kW,kC];omega)) hst (fun L S hh hi=>?_);obtain⟨⟨e1,e2⟩,e3,_⟩:=hen L S hh hi;exact⟨e1,e2,e3⟩
theorem Qi4(g1 g2 g3:Nat)(w:World)(hg:Glob w)(hf:FrRow w (some ⟨g1,0,none⟩) (some ⟨g2,0,none⟩) (some ⟨g3,0,none⟩) 3 3 3 cornerJ cornerB cornerH):
 Calls Tryz.prog 24 #[.agg #[.slice (some ⟨g1,0,none⟩) 3 3,.slice (some ⟨g2,0,none⟩) 3 3,.slice (some ⟨g3,0,none⟩) 3 3]] w fun e w'=>e=.returned (.tuple #[.int .i64 0,.agg #[.int .i64 0,.int .i64 0]])∧Below w.heap.size w w':=by
 refine Calls.mono (Qn7 (some ⟨g1,0,none⟩) (some ⟨g2,0,none⟩) (some ⟨g3,0,none⟩) 3 3 3 cornerJ cornerB cornerH w hg hf Qc6) ?_;rintro e w' ⟨c,at_,k,rfl,hff,_,hk,hb⟩;obtain⟨rfl,rfl⟩:=hff.inj Qc8;obtain rfl:=hk rfl;exact⟨rfl,hb⟩
theorem Qb7{b:Nat}{q:Rat}(h:q=0∨q=1∨q= -1):Wh 1 b q:=by
 rcases h with rfl|rfl|rfl
 · exact Wh.zero _ _
 · exact Wh.one Nat.one_le_two_pow
 · exact(Wh.one Nat.one_le_two_pow).neg
theorem Qe2(b:Nat):FrLP 1 b cornerVB cornerVS:=by
 refine⟨⟨by decide,Nat.one_le_two_pow,fun p hp=>?_⟩,fun k i=>?_⟩
 · simp only[cornerVB,List.mem_cons,List.not_mem_nil,or_false] at hp
   rcases hp with rfl|rfl|rfl<;>exact⟨Qb7 (by decide +kernel),Qb7 (by decide +kernel)⟩
 ·
  match k with
  |0=>exact Wh.zero _ _
  |k+1=>
   have e:agn (cornerVS.take (k+1))=agnStep (fun _=>0) (2,1,0):=by simp[cornerVS];rfl
   rw[e];by_cases h4:i=4
   · subst h4
     exact Qb7 (by decide +kernel)
   ·
    by_cases h5:i=5
    · subst h5
      exact Qb7 (by decide +kernel)
    · rw[Qig (by simpa using h4) (by simpa using h5)]
      exact Wh.zero _ _
theorem Qi5(g1 g2 g3:Nat)(w:World)(hg:Glob w)(hf:FrRow w (some ⟨g1,0,none⟩) (some ⟨g2,0,none⟩) (some ⟨g3,0,none⟩) 3 3 3 cornerJ cornerB cornerH):
 Calls Tryz.prog 29 #[.agg #[.slice (some ⟨g1,0,none⟩) 3 3,.slice (some ⟨g2,0,none⟩) 3 3,.slice (some ⟨g3,0,none⟩) 3 3]] w fun e w'=>e=.returned (.tuple #[.int .i64 6,.int .i64 0,.int .i64 0,.agg #[.int .i64 0,.int .i64 0]])∧Below w.heap.size w w':=by
 obtain⟨hgo,hst,hen⟩:=(Qe2 1000000).toFrP.rows Qc7;refine Calls.mono (Qez (some ⟨g1,0,none⟩) (some ⟨g2,0,none⟩) (some ⟨g3,0,none⟩) 3 3 3 1048576 (kW 1000000) cornerJ cornerB cornerH cornerVB cornerVH w hg hf Qc6 Qc8 Qc7 (by simp only[kW,kC];omega) (by simp only[kW,kC];omega) _ (hgo.mono (by simp only[kE,kW,kC];omega)) hst) ?_;rintro e w' ⟨⟨L,S,hh,rfl,_,hI⟩,hb⟩;obtain⟨⟨h1,h2⟩,_⟩:=hen L S hh hI;have e1:balRows cornerJ.length cornerVB cornerB.length cornerVH=cornerM:=Qe0;rw[e1] at h2;have h6:S.length=6:=by
  rw[h1.len];exact h1.full (fun x hx c hc=>Qji x ((h2 x).2 hx) c hc)
 rw[h6];exact⟨rfl,hb⟩
theorem Qi6(g1 g2 g3 cl:Nat)(al:Option Addr)(w:World)(hg:Glob w)(hf:FrRow w (some ⟨g1,0,none⟩) (some ⟨g2,0,none⟩) (some ⟨g3,0,none⟩) 3 3 3 cornerJ cornerB cornerH)(hl:ARow L3.cells w al cl cornerL):
 Calls Tryz.prog 60 #[.agg #[.slice (some ⟨g1,0,none⟩) 3 3,.slice (some ⟨g2,0,none⟩) 3 3,.slice (some ⟨g3,0,none⟩) 3 3],.slice al 1 cl] w fun e w'=>∃g1 g2,e=.returned (.tuple #[.agg #[.slice (some ⟨g1,0,none⟩) 3 3,.slice (some ⟨g2,0,none⟩) 3 3],.agg #[.int .i64 0,.int .i64 0]])∧TLst w' (some ⟨g1,0,none⟩) [⟨#[49]⟩,⟨#[45,49]⟩,⟨#[49]⟩]∧TLst w' (some ⟨g2,0,none⟩) [⟨#[45,49]⟩,⟨#[45,49]⟩,⟨#[49]⟩]∧Below w.heap.size w w':=by
 have e1:balRows cornerJ.length cornerVB cornerB.length cornerVH=cornerM:=Qe0;have e2:(List.range (2*cornerJ.length)).map (agn cornerVS)= [0,0,0,0,-1,0]:=Qi1;have h:=Qjg (some ⟨g1,0,none⟩) (some ⟨g2,0,none⟩) (some ⟨g3,0,none⟩) al 3 3 3 cl 1 1000000 cornerJ cornerB cornerH cornerVB cornerVH cornerL cornerVS w hg hf Qc6 Qc8 Qc7 hl (by decide) rfl Qi0 (Qe2 _) (by decide) (by decide);rw[e1,e2] at h;exact h.mono fun e w' hc=>Qi3 hc
set_option maxRecDepth 100000 in
set_option maxHeartbeats 4000000 in
theorem Qi7(w:World)(hg:Glob w):Calls Tryz.prog 21 #[] w fun e w'=>e=.returned (.bool true)∧Below w.heap.size w w':=by
 have HG:=Hi hg;clear hg;go_enter Tryz.func21,Tryz.ntmps21;go_wp2_with fail;go_fit (Qde w);rintro e w1 ⟨g1,g2,g3,rfl,hf1,hb1⟩;have HC1:=Hi (Qi4 g1 g2 g3 w1 (HG.out.below hb1) hf1);have HB1:=Hi hb1;clear hf1 hb1;go_wp2_with fail;go_fit HC1.out;rintro e w2 ⟨rfl,hb2⟩;obtain⟨V2,hV2⟩:∃V2,w2.alloc (.cells #[.int .i64 0,.int .i64 0] 57)=V2:=⟨_,rfl⟩;obtain⟨p2,hp2⟩:∃p2,w2.heap.size=p2:=⟨_,rfl⟩;have HB2:Hid (Below w.heap.size w V2):=Hi ((HB1.out.trans (hb2.mono HB1.out.size)).trans ((show Below w2.heap.size w2 V2 by rw[←hV2];exact(Below.refl _ _).alloc (Nat.le_refl _) _).mono (HB1.out.trans (hb2.mono HB1.out.size)).size));have HS2:Hid (SB V2 p2 57 #[.int .i64 0,.int .i64 0]):=Hi (by rw[←hV2,←hp2];exact SB.new w2 _ _);have HV2:=Hi hV2;have HP2:=Hi hp2;clear hb2 hV2 hp2 HC1;go_wp2_with fail;rw[HV2.out,HP2.out];go_fit (Qde V2);rintro e w3 ⟨g4,g5,g6,rfl,hf3,hb3⟩
 have HB3:=Hi (HB2.out.trans (hb3.mono HB2.out.size));have HS3:=Hi (HS2.out.below hb3 HS2.out.lt);have HC3:=Hi (Qi5 g4 g5 g6 w3 (HG.out.below HB3.out) hf3);clear hf3 hb3 HS2;go_wp2_with fail;go_fit HC3.out;rintro e w4 ⟨rfl,hb4⟩;obtain⟨V4,hV4⟩:∃V4,w4.alloc (.cells #[.int .i64 0,.int .i64 0] 57)=V4:=⟨_,rfl⟩;obtain⟨p4,hp4⟩:∃p4,w4.heap.size=p4:=⟨_,rfl⟩;have hb4V:Below w3.heap.size w3 V4:=by rw[←hV4];exact hb4.alloc hb4.size _
 have HB4:Hid (Below w.heap.size w V4):=Hi (HB3.out.trans (hb4V.mono HB3.out.size));have HS4:Hid (SB V4 p4 57 #[.int .i64 0,.int .i64 0]):=Hi (by rw[←hV4,←hp4];exact SB.new w4 _ _);have HS3b:=Hi (HS3.out.below hb4V HS3.out.lt);have HV4:=Hi hV4;have HP4:=Hi hp4;clear hb4 hV4 hp4 hb4V HC3 HS3;go_wp2_with fail;rw[HV4.out,HP4.out];go_fit (Qde V4);rintro e w5 ⟨g7,g8,g9,rfl,hf5,hb5⟩;have HF5:=Hi hf5;have HB5:=Hi (HB4.out.trans (hb5.mono HB4.out.size));have HS4b:=Hi (HS4.out.below hb5 HS4.out.lt);have HS3c:=Hi (HS3b.out.below hb5 HS3b.out.lt);clear hf5 hb5 HS4 HS3b;go_wp2_with fail;go_fit (Qcz ⟨#[49]⟩ ⟨#[48]⟩ w5);rintro e w6 ⟨rfl,hb6⟩;obtain⟨V6,hV6⟩:∃V6,w6.alloc (.cells #[.int .i64 2,.string ⟨#[49]⟩,.string ⟨#[48]⟩] 115)=V6:=⟨_,rfl⟩;have hb6V:Below w5.heap.size w5 V6:=by rw[←hV6];exact hb6.alloc hb6.size _
 have HB6:=Hi (HB5.out.trans (hb6V.mono HB5.out.size));have HS4c:=Hi (HS4b.out.below hb6V HS4b.out.lt);have HS3d:=Hi (HS3c.out.below hb6V HS3c.out.lt);have hsl:SB V6 w6.heap.size 115 #[.int .i64 2,.string ⟨#[49]⟩,.string ⟨#[48]⟩]:=by rw[←hV6];exact SB.new w6 _ _
 have HCY:=Hi (Qi6 g7 g8 g9 1 (some ⟨w6.heap.size,0,none⟩) V6 (HG.out.below HB6.out) (HF5.out.below hb6V) (hsl.arow rfl (by decide)));have HV6:=Hi hV6;clear hb6 hV6 hb6V hsl HF5 HS4b HS3c;go_wp2_with fail;rw[HV6.out];go_fit HCY.out;rintro e w7 ⟨h1,h2,rfl,ht1,ht2,hb7⟩;obtain⟨V7,hV7⟩:∃V7,(w7.alloc (.cells #[.slice (some ⟨h1,0,none⟩) 3 3,.slice (some ⟨h2,0,none⟩) 3 3] 111)).alloc (.cells #[.int .i64 0,.int .i64 0] 57)=V7:=⟨_,rfl⟩;obtain⟨q7,hq7⟩:∃q7,w7.heap.size=q7:=⟨_,rfl⟩;have hb7V:Below w7.heap.size w7 V7:=by rw[←hV7];exact Below.new2 w7 _ _
 have hb67:Below V6.heap.size V6 V7:=hb7.trans (hb7V.mono hb7.size);have hss:SB V7 q7 111 #[.slice (some ⟨h1,0,none⟩) 3 3,.slice (some ⟨h2,0,none⟩) 3 3]:=by rw[←hV7,←hq7];exact(SB.new w7 _ _).alloc _
 have hsf:SB V7 (q7+1) 57 #[.int .i64 0,.int .i64 0]:=by rw[←hV7,←hq7];exact Qaq w7 _ _ _
 have s3:=HS3d.out.below hb67 HS3d.out.lt;have s4:=HS4c.out.below hb67 HS4c.out.lt;have k0:V7.cell? ⟨p2,0,none⟩=some (.int .i64 0):=s3.cell 0;have k1:V7.cell? ⟨p4,0,none⟩=some (.int .i64 0):=s4.cell 0;have k2:V7.cell? ⟨q7+1,0,none⟩=some (.int .i64 0):=hsf.cell 0;have k3:V7.cell? ⟨q7,0,none⟩=some (.slice (some ⟨h1,0,none⟩) 3 3):=hss.cell 0;have k4:V7.cell? ⟨q7,1,none⟩=some (.slice (some ⟨h2,0,none⟩) 3 3):=hss.cell 1;have HB7:=Hi (HB6.out.trans (hb67.mono HB6.out.size));obtain⟨V8,hV8⟩:∃V8,(V7.alloc (.cells #[.string ⟨#[49]⟩,.string ⟨#[45,49]⟩,.string ⟨#[49]⟩] 23)).alloc (.cells #[.string ⟨#[45,49]⟩,.string ⟨#[45,49]⟩,.string ⟨#[49]⟩] 23)=V8:=⟨_,rfl⟩;have hb78:Below V7.heap.size V7 V8:=by rw[←hV8];exact Below.new2 V7 _ _
 have t1:TLst V8 (some ⟨V7.heap.size,0,none⟩) [⟨#[49]⟩,⟨#[45,49]⟩,⟨#[49]⟩]:=by
  rw[←hV8];exact SB.texts (l:=[⟨#[49]⟩,⟨#[45,49]⟩,⟨#[49]⟩]) ((SB.new V7 23 _).alloc _)
 have t2:TLst V8 (some ⟨V7.heap.size+1,0,none⟩) [⟨#[45,49]⟩,⟨#[45,49]⟩,⟨#[49]⟩]:=by
  rw[←hV8];exact SB.texts (l:=[⟨#[45,49]⟩,⟨#[45,49]⟩,⟨#[49]⟩]) (Qaq V7 _ 23 _)
 have HST:=Hi (Qi2 (some ⟨h1,0,none⟩) (some ⟨h2,0,none⟩) (some ⟨V7.heap.size,0,none⟩) (some ⟨V7.heap.size+1,0,none⟩) 3 3 3 3 [⟨#[49]⟩,⟨#[45,49]⟩,⟨#[49]⟩] [⟨#[45,49]⟩,⟨#[45,49]⟩,⟨#[49]⟩] V8 ((ht1.below hb7V).below hb78) ((ht2.below hb7V).below hb78) t1 t2 (by decide) (by decide));have HB8:=Hi (HB7.out.trans (hb78.mono HB7.out.size));rw[←hV7] at k0 k1;rw[←hV7,←hq7] at k2 k3 k4;have hz7:V7.heap.size=w7.heap.size+1+1:=by rw[←hV7];simp
 rw[hz7] at HST;have HV7:=Hi hV7;have HQ7:=Hi hq7;have HV8:=Hi hV8;clear ht1 ht2 hb7 hb7V hb67 hss hsf s3 s4 hb78 t1 t2 hV7 hq7 hV8 HCY hz7;go_wp2_with fail;rw[HV7.out,HV8.out];go_fit HST.out;rintro e w9 ⟨rfl,hb9⟩;have HB9:=Hi (HB8.out.trans (hb9.mono HB8.out.size));clear hb9 k0 k1 k2 k3 k4;go_wp2;go_ret;exact⟨rfl,HB9.out⟩
end Go.Proofs.YtbbkamnfjejceaaGreatDoor

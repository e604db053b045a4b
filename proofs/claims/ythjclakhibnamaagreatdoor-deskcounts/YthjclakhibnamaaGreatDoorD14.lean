/- Proved here: plain facts and contracts. No condition but what each names. -/
import Derived.Test.YthjclakhibnamaaGreatDoorD12
import Derived.Test.YthjclakhibnamaaGreatDoorD13
import Derived.Shelf.SortM.Plain
import Derived.Shelf.SortM.SortNone
import Derived.Lib.SplitLaws
namespace Go.Proofs.YthjclakhibnamaaGreatDoor
open Go.RowKit Go.Maps Go.Sort Go.Shelf Go.Proofs.Tryz
open Go.RowKit
set_option maxRecDepth 100000
set_option maxHeartbeats 4000000
variable{u y a b room:Int}{P:List (Bh 13)}{l:List (aq×Int×Int×Tc)}{h z B g i j k m n q xc:Nat}{s:Sy}{t:Tc}{e:Type}{c:UInt8}{M:aU}{f W w:ah}{v nm wd x:aq}{xa:aw}{L:bj}{d:gW}{p:mL}{o:qt}{r:qt×List UInt8}
theorem Nm{f:e->Value}{w:World}{l:List (Int×e)}(n:xx f w h l)(r:∀p∈l,(Lit.int .i64 p.1).wf=true)(z:l.length<=maxLen):∃D:DataW Value,w.ownsMap Tryz.prog 3 sH h l.length D/\(intKeys D).Perm (l.map (·.1))/\Maps.size D=l.length:=by
 obtain⟨es,m,o,g,q⟩:=n;have k:∀a∈es.toList,∃b,a.key=.int .i64 b/\WideElems.rd Tryz.prog 3 sH a=some (.int .i64 b,.held a.val):=λa d=>by
  have u:(a.key,a.val)∈l.map λp=>(Value.int .i64 p.1,f p.2):=g▸b9.2 ⟨a,d,rfl⟩;obtain⟨p,s,c⟩:=b9.1 u;have i:a.key=.int .i64 p.1:=(congrArg Prod.fst c).symm;refine⟨p.1,i,?_⟩;unfold WideElems.rd;rw[i,keyOf_int_mk underlying3 (r p s)];rfl
 have t:es.size=l.length:=by
  have:=congrArg List.length g;simpa using this
 refine⟨_,⟨es,m,o,⟨by omega,q,λa d=>?_⟩,by omega,rfl⟩,?_,?_⟩
 ·obtain⟨b,_,c⟩:=k a d;exact⟨_,c⟩
 ·have c:es.toList.map (λa=>Go.intOf (WideElems.rg Tryz.prog 3 sH a).1)=l.map (·.1):=by
    have j:=congrArg (List.map λy:Value×Value=>match y.1 with| .int _ b=>b|_=>0) g;rw[jy,jy]at j;refine(lD λa d=>?_).trans (j.trans (lD λp _=>rfl));obtain⟨b,v,x⟩:=k a d;rw[WideElems.rg_of x];simp only[Function.comp,v,Go.intOf]
  rw[<-c];have:=(WideShapes.sorted_perm (es.toList.map (WideElems.rg Tryz.prog 3 sH))).map λp=>Go.intOf p.1;rw[jy]at this;exact this
 ·rw[<-t];simpa [Maps.size]using (WideShapes.sorted_perm (es.toList.map (WideElems.rg Tryz.prog 3 (sH)))).length_eq
theorem Pu(m:Nat):AnyZI.SortsIn Tryz.prog Tryz.sortedA_ren Fence.wide m:=
 ⟨λb off cap g a c d e=>callsIn_wide.2 (AnyM.slices_Sort_int Tryz.sortA b off cap g a c d e),λf cap a=>callsIn_wide.2 (AnyM.slices_Sort_int_none Tryz.sortA f cap a)⟩
theorem vt(g:Nat)(f:Option Nat)(w:World)(S:List Int->Prop)(N:Nat)(m:w.cell? ⟨g,3,none⟩=some (.map f))(o:N<=1000)(l:SeqGives Fence.wide 2 Tryz.prog 139 #[.pointer (some ⟨w.heap.size,0,none⟩)] encZ S N (w.alloc (.cells #[.map f] 131))):Calls Tryz.prog 64 #[.pointer (some ⟨g,0,none⟩)] w λe w'=>∃v c,e=.returned v/\S c/\iR w.heap.size v (c.mergeSort leI) w'/\Below w.heap.size w w':=by
 refine(callsIn_wide (n:=6)).1 ?_;have h:∀b a,CallsIn Fence.wide 5 Tryz.prog 98 #[.map b] a λe w'=>e=.returned (.func (.func 139) #[] #[.pointer (some ⟨a.heap.size,0,none⟩)])/\w'=a.alloc (.cells #[.map b] 131):=λb a=>AnyZI.keys_in Tryz.keysA Fence.wide 5 trivial rfl b a;have d:=AnyZI.sorted_in Tryz.sortedA Fence.wide 5 trivial trivial trivial trivial rfl (by omega) (Pu _) (enters_of func138 (by kernel_rfl) rfl) 139 #[.pointer (some ⟨w.heap.size,0,none⟩)] trivial (enters_of func139 (by kernel_rfl) rfl) _ _ (by unfold maxLen;omega) (by omega) _ l;change CallsIn _ _ Tryz.prog 97 _ _ _ at d;have p:Fence.wide.fn 98:=trivial;have q:Fence.wide.fn 97:=trivial;refine callsIn_of_wp func64 rfl trivial ?_ rfl;simp only[ntmps64,fL,bt,eU,Nat.reduceAdd,Nat.reduceSub,Array.replicate_succ,Array.replicate_zero,List.push_toArray,List.append_toArray,nJ,fJ]
 gi_wp2_with (first
  | (gi_at_call 98;refine(h _ _).mono ?_;rintro e w' ⟨rfl,rfl⟩)
  | (gi_at_call 97;refine d.mono ?_;rintro e w' ⟨v,c,rfl,i,k,r,j⟩))
 go_ret
 refine⟨v,c,rfl,i,?_,((aE _ w).alloc (ay _) _).trans (j.mono (by simp))⟩;have:=ownsRow_base_a k (by simp:w.heap.size<=_);unfold iR;rw[List.length_mergeSort];exact this
section
variable {p:mL} {s:Sy} {d:gW} {w:World}
theorem bD.aliveL(i:bD p s d w):Calls Tryz.prog 64 #[.pointer (some ⟨p.b,0,none⟩)] w λe w'=>∃v q,e=.returned v/\q.Perm (s.ps.map (·.1))/\q=(s.ps.map (·.1)).mergeSort leI/\iR w.heap.size v q w'/\Below w.heap.size w w':=by
 obtain⟨c,C,u,D,E,F⟩:=i.keys;have G:d.l.length=s.ps.length:=by
  have:=congrArg List.length c;simpa using this
 have g:=i.cells.2.2.2;have o:Below w.heap.size w (w.alloc (.cells #[.map d.po] 131)):=(aE _ w).alloc (ay _) _;rcases i.pm with⟨n,h⟩|⟨k,n,_,_,h⟩
 ·rw[n]at g o;refine(vt p.b none w (λa=>a=[]) 0 g (by omega) (AnyZI.keys_gives_nil (ρ:=Tryz.keysA_ren) {Tryz.keysA with} Fence.wide _ trivial rfl w.heap.size _ (by simp) (by simp))).mono ?_;rintro e w' ⟨v,a,rfl,rfl,f,j⟩;exact⟨v,[],rfl,by rw[<-c,h];exact List.Perm.refl _,by rw[<-c,h];simp,by simpa using f,j⟩
 ·rw[n]at g o;have j:=i.low k (by omega)
  obtain⟨m,z,A,H⟩:=Nm (h.kept (o.block k (by omega))) (λt y=>by
   have:t.1∈s.ps.map (·.1):=c▸b9.2 ⟨t,y,rfl⟩;obtain⟨B,f,e⟩:=b9.1 this;have:=u B f;simp[Lit.wf,IntKind.min,IntKind.max,IntKind.signed,IntKind.bits]
   omega) (by unfold maxLen;omega)
  refine(vt p.b (some k) w (λa=>a.Perm (intKeys m)) (Maps.size m) g (by omega) (AnyZI.keys_gives (ρ:=Tryz.keysA_ren) {Tryz.keysA with} Fence.wide _ trivial rfl (by omega) w.heap.size k _ m _ (by simp) (by simp) z)).mono ?_;rintro e w' ⟨v,a,rfl,x,f,j⟩;have r:=x.trans (A.trans (List.Perm.of_eq c));exact⟨v,_,rfl,(List.mergeSort_perm a leI).trans r,mergeSort_of_perm_i r,f,j⟩
end
theorem Dk(g:Nat)(j:da)(a:Int)(w:ah)(q:g<w.heap.size)(l:Hid (ai w g 3 (.map j)))(m:Hid (∀W,ap w W->(Instr.lookup 131 (.map j) (ae a) true).run Tryz.prog W=.ok (.tuple #[.pointer none,.bool false]) W)):au 61 #[aC g,ae a] w λe w'=>e=.returned (.tuple #[ag ⟨#[]⟩,.agg #[ae 0,ae 0,ag ⟨#[]⟩,af none 0 0],af none 0 0,ae 4])/\ap w w':=by
 go_enter func61,ntmps61;go_upto_region 1 with fail;generalize i:w.alloc _=c;have HB:Hid (ap w c):=by
  rw[<-i];exact aT _ _
 have d:c.heap[w.heap.size]?=some (.cells #[ae 0,ae 0,ag ⟨#[]⟩,af none 0 0] 54):=by
  rw[<-i];exact aI _ _
 clear i;have s:=m.out _ HB.out;have r:ai c g 3 (.map j):=(HB.out.cell (p:=⟨g,3,none⟩) q).trans l.out;clear m l;have k:Hid (ap w (dj c w.heap.size 0 (ae 0) (ae 0) (ag ⟨#[]⟩) (af none 0 0))):=(dU (o:=0) (v0:=ae 0) (v1:=ae 0) (v2:=ag ⟨#[]⟩) (v3:=af none 0 0) HB.out (ay _));have f:=av (tE d (ae 0) (ae 0) (ag ⟨#[]⟩) (af none 0 0));obtain⟨b,h⟩:∃b,b=w.heap.size:=⟨_,rfl⟩;rw[<-h]at d f k ⊢;have n:=av h;clear h HB;have t:ai c b 0 (ae 0):=aj d 0;have u:ai c b 1 (ae 0):=aj d 1;have x:ai c b 2 (ag ⟨#[]⟩):=aj d 2;have y:ai c b 3 (af none 0 0):=aj d 3;have f0:c.frozen? ⟨b,0,none⟩=false:=by simp[World.frozen?,d]
 have f1:c.frozen? ⟨b,1,none⟩=false:=by simp[World.frozen?,d]
 have f2:c.frozen? ⟨b,2,none⟩=false:=by simp[World.frozen?,d]
 have f3:c.frozen? ⟨b,3,none⟩=false:=by simp[World.frozen?,d]
 clear d;go_wp2_with fail;have d0:(dj c b 0 (ae 0) (ae 0) (ag ⟨#[]⟩) (af none 0 0)).cell? ⟨b,0,none⟩=some (ae 0):=aj f.out 0;have d1:(dj c b 0 (ae 0) (ae 0) (ag ⟨#[]⟩) (af none 0 0)).cell? ⟨b,1,none⟩=some (ae 0):=aj f.out 1;have d2:(dj c b 0 (ae 0) (ae 0) (ag ⟨#[]⟩) (af none 0 0)).cell? ⟨b,2,none⟩=some (ag ⟨#[]⟩):=aj f.out 2;have d3:(dj c b 0 (ae 0) (ae 0) (ag ⟨#[]⟩) (af none 0 0)).cell? ⟨b,3,none⟩=some (af none 0 0):=aj f.out 3;simp only[dj,cw]at d0 d1 d2 d3;exact aB (v:=.tuple #[ag ⟨#[]⟩,.agg #[ae 0,ae 0,ag ⟨#[]⟩,af none 0 0],af none 0 0,ae 4]) (by simp[results,results61,go_sem,d0,d1,d2,d3]) rfl ⟨rfl,n.out▸k.out⟩
theorem bD.procN(c:bD p s d w)(g:s.get a=none):au 61 #[aC p.b,ae a] w λe w'=>e=.returned (.tuple #[ag ⟨#[]⟩,.agg #[ae 0,ae 0,ag ⟨#[]⟩,af none 0 0],af none 0 0,ae 4])/\ap w w':=by
 refine Dk p.b d.po a w c.lo.2 c.cells.2.2.2 λi f=>?_;have h:dn d.l a=none:=by
  have:=c.alive a;rw[g]at this;simpa using this
 have:=(c.later f).look a true;rw[if_pos rfl,h]at this;exact this
theorem qP{f:FuncId}{a:Array ax}{c:Prop}(b:au f a w λ_ _=>c):c:=by
 obtain⟨_,_,_,b,_⟩:=b [];exact b
theorem wZ{x:Tm n}(a:bJ n x=0):(aF n x).length<=2097152/\wt n x<=2097152:=by
 have d:=xv n x λb c=>vY (mU n x a b c);have e:=jO a;omega
theorem A0{x:Tm n}{y:Tm m}(a:aH n x m y=true)(b:bJ m y=0):vi n x=vi m y:=by
 unfold vi;rw[if_pos b,if_pos ((bN a).trans b),ru _ _ _ _ a]
theorem bD.soundD(e:bD p s d w):∀a nm cs c,s.get a=some (nm,cs,c)->(bJ 13 cs=0/\aV 13 cs=true)/\∀t∈c,bJ 13 t=0/\aV 13 t=true:=λa nm cs c g=>by
 obtain⟨b,k⟩:∃b,dn d.l a=some b:=by
  have:=e.alive a;rw[g]at this;exact gi.1 this
 obtain⟨q,i,h,f,j,_⟩:=e.ps a b k;rw[g]at f;obtain⟨rfl,rfl,rfl⟩:nm=q/\cs=i/\c=h:=by simpa using f
 obtain⟨m,n,o,_⟩:=j.ok;exact⟨⟨m,n⟩,o⟩
theorem bD.evl(b:bD p s d w)(j:nQ s):∀e∈s.evs,(gH e).length<=70000000:=λe f=>by
 have c:=j.2 e f;rw[<-b.evt.1]at f;obtain⟨a,i,rfl⟩:=b9.1 f;obtain⟨⟨k,_⟩,h⟩:=b.evt.2 a i;refine aD (cQ (congrArg List.length (yn (e:=a) h))) (En k h c.1 c.2.1 ?_);rcases c.2.2 with g|g
 ·exact g
 ·have:=b.keys;have l:0<=a.2.2.1/\a.2.2.1<=s.last:=g;exact eg (by omega)
def P6(l:List (aq×Int×Int×Tc))(j:Nat):aq:=⟨((l[j]?.map gH).getD []).toArray⟩
theorem Ek{e:aq×Int×Int×Tc}(a:l[j]?=some e):P6 l j=⟨(gH e).toArray⟩:=by
 unfold P6;rw[a];rfl
theorem Gl(l:List (aq×Int×Int×Tc)):tu (P6 l) l.length=tn l:=by
 unfold tu tn;refine congrArg List.flatten (nF λb=>?_);by_cases a:b<l.length
 ·simp[a,P6]
 ·simp[a]
theorem El(b:∀e∈l,(gH e).length<=70000000):(tn l).length<=l.length*70000001:=by
 rw[<-Gl];refine Ck _ _ λc a=>?_;rw[Ek (aS a)];show (gH l[c]).toArray.size<=_;simpa using b _ (gg a)
theorem bD.evcell(e:bD p s d w):∃i j,ai w p.b 6 (af i s.evs.length j):=by
 have g:d.es.length=s.evs.length:=by rw[<-e.evt.1];simp
 have f:=aj e.box 6;rcases e.evr.1.2 with⟨a,h⟩|⟨l,c,k,a,_⟩
 ·exact⟨none,0,f.trans (congrArg some (a.trans (by rw[<-g,h])))⟩
 ·exact⟨_,c,f.trans (congrArg some (a.trans (by rw[<-g])))⟩
theorem ti(T:jK h q i (some (P,room,s)) M w)(bj:i<=200)(al:dm a)(am:dm b)(x:Tm (m+1))(t:Tc)(ax:In w.heap.size w (m+1) x/\cE (λb=>¬M b) (m+1) x)(aO:(aF (m+1) x).length<=2097152)(a2:s.do 12 P room u a b (m+1) x=s.do 12 P room u a b 13 t):au 38 #[aC q,.agg #[ae u,ae a,ae b,ae x.1.1,ae x.1.2.1,ag x.1.2.2,af x.2.1.1 x.2.2.length x.2.1.2]] w λe w'=>e=.returned (.tuple #[ag ⟨(oF P room s u a b t).2.2.toArray⟩,ae (oF P room s u a b t).2.1])/\Hid ((oF P room s u a b t).2.2.length<=20000000000/\jL h q i (oF P room s u a b t).1 M w w'):=by
 obtain⟨v,aH,aa,C,O,aA,a3,ab⟩:=T.2.2;have a1:q<w.heap.size:=(aN.1 aa).1;have aQ:ai w q 0 (aC v.b):=aj aa 0;have aq:=C.keys.2.2.2;have bl:aH.es.length=s.evs.length:=by rw[<-C.evt.1];simp
 obtain⟨c,Z⟩:∃c,s.do 12 P room u a b 13 t=c:=⟨_,rfl⟩;have Y:s.do v.n v.prog v.room u a b (m+1) x=c:=by
  rw[O.1,M4 O.2.1 C.pg.2.2.2.1 O.2.2 C.soundD ⟨aq.1,aq.2.1⟩,a2,Z]
 have a0:s.more c.1:=by rw[<-Z];exact Ny _ _ _ _ _ _ _ _ _
 obtain⟨f,L⟩:=a0;have an:c.1.evs.drop s.evs.length=f:=by rw[L,List.drop_left]
 have aw:∀d,ap w d->au 58 #[aC v.b,.agg #[ae u,ae a,ae b,ae x.1.1,ae x.1.2.1,ag x.1.2.2,af x.2.1.1 x.2.2.length x.2.1.2]] d λe w'=>e=.returned (ae c.2)/\Hid (bG (λb=>b<w.heap.size/\b≠q) d w'/\∃j,bD v c.1 j w'/\(j.es.length=s.evs.length+f.length/\f.length<=201)/\(∀e∈f,(gH e).length<=70000000)/\jL h q i (some (P,room,c.1)) M w w'):=λd k=>by
  have K:nQ c.1:=by rw[<-Y];exact aA.2.do (gO C.pg.2.2.2.1).1 u al am _ _
  have aP:pB c.1:=by rw[<-Y];exact aA.1.do u a b _ _
  refine((C.later k).do ⟨al,am⟩ x ⟨(ax.1.below k).mono k.size,ax.2.mono λb g aD=>g (ab b (by omega))⟩ aO (by omega) (by omega) (by omega) (by omega)).mono ?_;rintro e w' ⟨bp,rfl,y⟩;obtain⟨I,j,r,o⟩:=y.out;rw[Y]at I r;subst I;have aZ:j.es.length=s.evs.length+f.length:=by
   have:=congrArg List.length r.evt.1;rw[cD,L,bm]at this;exact this
  refine⟨rfl,o.1.mono λb _ g=>?_,j,r,⟨aZ,by have:=o.2.2.2.1;omega⟩,λe B=>r.evl K e (by rw[L];exact List.mem_append_right _ B),T.up k aa O a3 ab r o (ay _) (ay _) ⟨aP,K⟩⟩;have az:=T.2.1 b (ab b g);exact⟨az.2,by omega⟩
 obtain⟨bk,ar⟩:f.length<=201/\∀e∈f,(gH e).length<=70000000:=qP ((aw w (aE _ _)).mono λe w' g=>by
  obtain⟨_,_,j,_,aD,a7,_⟩:=g
  exact⟨aD.2,a7⟩)
 have bo:=El ar;have I:oF P room s u a b t=(some (P,room,c.1),c.2,if c.2=0 then tn f++N7 else []):=by
  unfold oF;simp only[Z,an]
 rw[I];refine(KR q v.b u a b x.1.1 x.1.2.1 x.1.2.2 x.2.1.1 x.2.2.length x.2.1.2 s.evs.length c.2 f.length (P6 f) w (λd=>∃j,bD v c.1 j d/\(j.es.length=s.evs.length+f.length/\f.length<=201)/\jL h q i (some (P,room,c.1)) M w d) (λG _ H d=>∃z Q,z.map Na=f/\Bi Q G z d/\(H<Q/\H<d.heap.size)/\(Cx h d/\h<=H)/\nQ c.1/\c.1.last<=90) a1 aQ (by omega) (λF W=>?_) (λd k=>?_) (λd k=>(aw d k).mono ?_) (λbh d ba U k av=>?_) λG ad F a8 H l bq d W aV aM=>?_).mono ?_
 ·rw[Ek (aS W)];show (gH f[F]).toArray.size<=_;simpa using ar _ (gg W)
 ·obtain⟨a5,a6,aG⟩:=(C.later k).evcell;refine(Am v.b a5 _ a6 d aG).mono ?_;rintro e w' ⟨rfl,rfl⟩;exact⟨rfl,aE _ _⟩
 ·rintro e w' ⟨rfl,y⟩;obtain⟨r,j,o,J,_,E⟩:=y.out;exact⟨rfl,r,j,o,J,E⟩
 ·obtain⟨j,o,⟨J,_⟩,a9,E,_⟩:=U;have K:nQ c.1:=by
   obtain⟨_,_,_,_,_,g,_⟩:=E.2.2;exact g.2
  refine((o.later k).eventsF (by omega) s.evs.length f.length J).mono ?_;rintro e w' ⟨G,ad,rfl,y⟩;obtain⟨R,_,z,bd,D,S⟩:=y.out;rw[an]at D;refine⟨G,ad,rfl,R,z,_,D,S,⟨av,aY av R.size⟩,⟨(E.1.1.on ((k.trans (R.mono k.size)).mono ?_)),?_⟩,K,o.keys.2.2.2.2.1⟩
  all_goals
   have:=E.1.2;omega
 ·obtain⟨z,Q,D,S,⟨be,bc⟩,⟨aJ,bf⟩,aL,bg⟩:=aV;obtain⟨_,_,V⟩:=aM;have ak:=S.kee V λb r o J=>by omega
  have bi:z.length=f.length:=by rw[<-D];simp
  obtain⟨p,B⟩:∃p,z[F]?=some p:=⟨_,aS (by omega)⟩;have ao:f[F]?=some (Na p):=by rw[<-D,df,B];rfl
  rcases ak.1 with g|⟨aI,rfl,_,_,aX⟩
  ·rw[g]at B;cases B
  have A:=aX F p B;obtain⟨⟨a4,_⟩,aB⟩:=ak.2 p (aR B);have X:=aL.2 (Na p) (by rw[L];exact List.mem_append_right _ (aR ao));have aT:Cx h d:=aJ.on (V.below (by omega) λb r o=>by omega);refine⟨aI,_,_,_,_,_,_,_,_,_,rfl,⟨A 0 _ rfl,A 1 _ rfl,A 2 _ rfl,A 3 _ rfl,A 4 _ rfl,A 5 _ rfl,A 6 _ rfl⟩,λbb N=>?_⟩;rw[Ek ao,yn aB];refine Em (e:=p) ((a4.below N).mono N.size) aB X.1 X.2.1 ?_ ?_
  ·rcases X.2.2 with g|g
   ·exact g
   ·have az:0<=p.2.2.1/\p.2.2.1<=c.1.last:=g;exact eg (by omega)
  ·have bn:=V.size;exact xz.mono (aT.on (N.mono (by omega))).1 (by have:=N.size;omega)
 ·rintro e w' ⟨rfl,y⟩;obtain⟨d,⟨_,_,_,U⟩,aW⟩:=y.out;rw[Gl];refine⟨rfl,?_,U.later aW⟩;show (if c.2=0 then tn f++N7 else []).length<=_;split
  ·rw[bm];show _+2<=_;omega
  ·exact aK _
def QU(o:Option (aq×Tc×List Tc)):Int:=if o.isSome then 0 else 4
def QQ(o:Option (aq×Tc×List Tc)):List UInt8:=match o with
 | none=> []
 | some (nm,cs,cms)=>wY nm cs cms
def Ow(l:List Tc)(j:Nat):aq:=⟨((l[j]?.map (vi 13)).getD []).toArray⟩
theorem Dd(nm:aq)(cs:Tc)(a:List Tc):Lib.join ((Be nm ⟨(vi 13 cs).toArray⟩ (Ow a) a.length).map (·.data.toList)) [32]=wY nm cs a:=by
 unfold Be wY;refine congrArg (λl=>Lib.join l [32]) ?_;simp only[bz,jy];refine congrArg (λl=>_::_::l) (nF λc=>?_);by_cases b:c<a.length
 ·simp[b,Ow]
 ·simp[b]
theorem yF(i:mg t B u y v xa h xc W)(c:bJ 13 t=0)(k:Cx z W)(j:z<=W.heap.size):(vi 13 t).length<=60000000/\∀a,ap W a->au 62 #[.agg #[ae u,ae y,ag v,af xa h xc]] a λe w'=>e=.returned (ag ⟨(vi 13 t).toArray⟩)/\ap a w':=by
 obtain⟨m,l,rfl,g,f,_,_⟩:=pW i c;have d:=wZ ((bN g).trans c);rw[<-A0 g c];exact⟨vj f d.2,λa b=>rD (n:=m+1) ((f.below b).mono b.size) (xz.mono (k.on (b.mono j)).1 (by have:=b.size;omega)) d.1 d.2⟩
theorem wH{i:List Tc}{ma:aw}(z:rP i B ma W)(D:Cx h W)(A:h<=W.heap.size):(∀t∈i,(vi 13 t).length<=60000000)/\∀j c,j<i.length->ap W c->∃g o y0 y1 y2 ya yl yc,ma=some ⟨g,o,none⟩/\(ai c g (o+j*4) (ae y0)/\ai c g (o+j*4+1) (ae y1)/\ai c g (o+j*4+2) (ag y2)/\ai c g (o+j*4+3) (af ya yl yc))/\∀l,ap c l->au 62 #[.agg #[ae y0,ae y1,ag y2,af ya yl yc]] l λe w'=>e=.returned (ag (Ow i j))/\ap l w':=by
 obtain⟨y,K,s,u,d,_⟩:=z;have f:∀a∈y,In W.heap.size W 13 a:=λa f=>by
  rcases s with r|⟨g,o,_,_,q⟩
  ·rw[r]at f;cases f
  ·obtain⟨j,v⟩:=List.mem_iff_getElem?.1 f;exact(q j a v).2
 refine⟨λt x=>?_,λj c v p=>?_⟩
 ·rw[<-u]at x;obtain⟨a,b,rfl⟩:=b9.1 x;rw[A0 (eF (d a b).1) (d a b).1];exact vj (f a b) (wZ (d a b).1).2
 ·obtain⟨a,k⟩:∃a,y[j]?=some a:=⟨_,aS (by omega)⟩;have b:=aR k;have C:Ow i j=⟨(vi 13 a).toArray⟩:=by
   unfold Ow;rw[<-u,df,k];simp only[lI,Option.getD_some];rw[A0 (eF (d a b).1) (d a b).1]
  rcases s with r|⟨g,o,rfl,F,q⟩
  ·rw[r]at k;cases k
  ·obtain⟨G,H,I,J⟩:=(q j a k).1.below p F;have w:=wZ (d a b).1;refine⟨g,o,_,_,_,_,_,_,rfl,⟨G,H,I,J⟩,λl E=>?_⟩;have m:=p.trans (E.mono p.size);rw[C];exact rD (n:=13) (((f a b).below m).mono m.size) (xz.mono (D.on (m.mono A)).1 (by have:=m.size;omega)) w.1 w.2
theorem Eh(v:jK h q i (some (P,room,s)) M w)(ak:i<=200)(a:Int):au 39 #[aC q,ae a] w λe w'=>e=.returned (.tuple #[ag ⟨(QQ (s.get a)).toArray⟩,ae (QU (s.get a))])/\Hid ((QQ (s.get a)).length<=20000000000/\jL h q i (some (P,room,s)) M w w'):=by
 obtain⟨C,R,L,r,an,Y,ao,ar⟩:=v.2.2;have al:q<w.heap.size:=(aN.1 L).1;have F:ai w q 0 (aC C.b):=aj L 0;obtain⟨⟨H,ad,am⟩,_⟩:=id v;cases hg:s.get a with
 | none=>
  refine(vQ q C.b a 4 ⟨#[]⟩ ⟨#[]⟩ 0 (λ_=>⟨#[]⟩) w (λ_ _ _ _ _ _ _=>False) (λ_ _=>False) F (by decide) (by decide) (by decide) (λj o=>absurd o (Nat.not_lt_zero j)) ((r.procN hg).mono ?_) (λ_ _ _ _ _ _ _ _ g=>g.elim) λ_ _ _ _ _ g=>g.elim).mono ?_
  ·rintro e w' ⟨rfl,d⟩;exact⟨0,0,⟨#[]⟩,none,0,0,none,0,rfl,d,λg=>by cases g⟩
  ·rintro e w' ⟨rfl,d⟩;exact⟨rfl,aK _,v.stay d⟩
 | some aa=>
  obtain⟨u,k,c⟩:=aa;have K:=r.soundD a u k c hg;have J:=Y.1.get hg;have ab:c.length<=20:=by
   obtain⟨b,d⟩:∃b,dn R.l a=some b:=by
    have:=r.alive a;rw[hg]at this;exact gi.1 this
   obtain⟨Z,Q,O,D,_,U⟩:=r.ps a b d;rw[hg]at D;obtain⟨_,_,rfl⟩:u=Z/\k=Q/\c=O:=by simpa using D
   exact U
  have E:=(r.procC hg (by omega) (by omega)).mono λe w' (g:∃y0 y1 y2 ya yl yc n x,e=.returned (.tuple #[ag u,.agg #[ae y0,ae y1,ag y2,af ya yl yc],af n c.length x,ae 0])/\Hid (((mg k w.heap.size y0 y1 y2 ya yl yc w'/\rP c w.heap.size n w')/\c.length<=x)/\ap w w'))=>g
  obtain⟨I,V⟩:(vi 13 k).length<=60000000/\∀t∈c,(vi 13 t).length<=60000000:=qP (E.mono λe w' g=>by
   obtain⟨_,_,_,_,_,_,_,_,_,y⟩:=g;have p:=H.on (y.out.2.mono (by omega:h<=w.heap.size));have X:=y.out.2.size
   exact⟨(yF y.out.1.1.1 K.1.1 p (by omega)).1,(wH y.out.1.1.2 p (by omega)).1⟩)
  have B:∀l:List UInt8,(⟨l.toArray⟩:aq).size=l.length:=λl=>by simp[ByteArray.size]
  have G:∀j,j<c.length->(Ow c j).size<=60000000:=λj o=>by
   unfold Ow;rw[aS o,B];exact V _ (gg o)
  have W:=zg (j:=c.length) J (by rw[B];exact I:(⟨(vi 13 k).toArray⟩:aq).size<=60000000) G;rw[Dd]at W;refine(vQ q C.b a 0 u ⟨(vi 13 k).toArray⟩ c.length (Ow c) w (λy0 y1 y2 ya yl yc f=>mg k w.heap.size y0 y1 y2 ya yl yc f/\Cx h f/\h<=f.heap.size) (λn f=>rP c w.heap.size n f/\Cx h f/\h<=f.heap.size) F (by omega) J (by rw[B];exact I) G (E.mono ?_) (λy0 y1 y2 ya yl yc f z m A=>(yF m.1 K.1.1 m.2.1 m.2.2).2 z A) λn j f z o m A=>(wH m.1 m.2.1 m.2.2).2 j z o A).mono ?_
  ·rintro e w' ⟨y0,y1,y2,ya,yl,yc,n,x,rfl,N⟩;obtain⟨⟨⟨S,T⟩,_⟩,d⟩:=N.out;have p:=H.on (d.mono (by omega:h<=w.heap.size));have X:=d.size;exact⟨y0,y1,y2,ya,yl,yc,n,x,rfl,d,λ_=>⟨⟨S,p,by omega⟩,T,p,by omega⟩⟩
  ·rintro e w' ⟨rfl,d⟩;rw[if_pos rfl,Dd];exact⟨rfl,by show (wY u k c).length<=_;omega,v.stay d⟩
theorem BW(j:jK h q i (some (P,room,s)) M w):au 40 #[aC q] w λe w'=>e=.returned (ag ⟨(qM ((s.ps.map (·.1)).mergeSort λx y:Int=>decide (x<=y))).toArray⟩)/\Hid ((qM ((s.ps.map (·.1)).mergeSort λx y:Int=>decide (x<=y))).length<=20000000000/\jL h q i (some (P,room,s)) M w w'):=by
 obtain⟨u,O,p,r,S,T,U,V⟩:=j.2.2;have H:q<w.heap.size:=(aN.1 p).1;have A:ai w q 0 (aC u.b):=aj p 0;obtain⟨⟨C,Q,R⟩,_⟩:=id j;have F:=r.keys;obtain⟨a,f⟩:∃a,(s.ps.map (·.1)).mergeSort (λx y:Int=>decide (x<=y))=a:=⟨_,rfl⟩;have l:a.length=s.ps.length:=by rw[<-f,List.length_mergeSort,cD]
 have n:∀k∈a,dm k:=λk d=>by
  rw[<-f]at d;obtain⟨y,J,rfl⟩:=b9.1 ((List.mergeSort_perm _ _).mem_iff.1 d);have:=F.2.2.1 y J;exact eg (by omega)
 rw[f];refine(BN q u.b a s.ps.length w H A l (by omega) n (xz.mono C.1 (by omega)) λL B _=>((r.later B).aliveL).mono ?_).mono ?_
 ·rintro e w' ⟨W,t,rfl,_,v,o,c⟩;obtain rfl:t=a:=v.trans f;have I:=o;rcases o.2 with⟨rfl,e⟩|⟨g,cap,N,rfl,D,E,_⟩
  ·have G:t=[]:=bZ e;subst G;refine⟨none,0,by rw[<-l];rfl,c,λi k K=>by cases K⟩
  ·refine⟨some ⟨g,0,none⟩,cap,by rw[<-l],c,λi k d=>⟨g,rfl,D,(aN.1 E).1,?_⟩⟩;have m:=I.cells (g:=g) rfl i (ae k) (by simp[jb,d]);rw[eR,cw]at m;exact m
 ·rintro e w' ⟨rfl,c⟩;refine⟨rfl,?_,j.stay c⟩;have z:=wg [32] 30 ((Bn a a.length).map (·.data.toList)) (xV n _);rw[FY rfl,cD,mq (ay _)]at z;omega
theorem N1(a:Nat)(W:ah):(binOp .eql 32 (aC a) (.pointer none)).run Tryz.prog W=.ok (.bool false) W:=by kernel_rfl
def qJ(q:Nat)(a b g h:Int)(i:aq)(xa:aw)(j xc:Nat)(R:aq)(f:Int)(w:ah)(Q:bE)(wd:aq):Prop:=
 if wd=jI then∀c,ap w c->au 37 #[aC q,.agg #[ae g,ae h,ag i,af xa j xc]] c λd e=>d=.returned (.tuple #[ag R,ae f])/\Hid (Q e)
 else if wd=sP then∀c,ap w c->au 38 #[aC q,.agg #[ae 1,ae a,ae 0,ae 0,ae 0,ag ⟨#[]⟩,af none 0 0]] c λd e=>d=.returned (.tuple #[ag R,ae f])/\Hid (Q e)
 else if wd=sO then∀c,ap w c->au 38 #[aC q,.agg #[ae 2,ae a,ae b,ae 0,ae 0,ag ⟨#[]⟩,af none 0 0]] c λd e=>d=.returned (.tuple #[ag R,ae f])/\Hid (Q e)
 else if wd=qG then∀c,ap w c->au 38 #[aC q,.agg #[ae 3,ae a,ae 0,ae g,ae h,ag i,af xa j xc]] c λd e=>d=.returned (.tuple #[ag R,ae f])/\Hid (Q e)
 else if wd=oy then∀c,ap w c->au 39 #[aC q,ae a] c λd e=>d=.returned (.tuple #[ag R,ae f])/\Hid (Q e)
 else f=0/\∀c,ap w c->au 40 #[aC q] c λd e=>d=.returned (ag R)/\Hid (Q e)
theorem BP(q:Nat)(wd:aq)(a b s t:Int)(u:aq)(xa:aw)(v xc:Nat)(n:da)(R:aq)(x:Int)(w:ah)(Q:bE)(L:q<w.heap.size)(K:Hid (ai w q 0 (.pointer (n.map λm=>⟨m,0,none⟩))))(D:wd=gz\/wd=jI\/wd=sP\/wd=oy\/wd=iH\/wd=qG\/wd=sO)(y:Hid (wd=iH->∀W,ap w W->au 36 #[aC q,ae a,.agg #[ae s,ae t,ag u,af xa v xc]] W λe w'=>e=.returned (.tuple #[ag R,ae x])/\Hid (Q w')))(A:Hid (wd≠iH->n=none->R=⟨#[]⟩/\x=4/\∀W,ap w W->Q W))(z:Hid (wd≠iH->n≠none->qJ q a b s t u xa v xc R x w Q wd)):au 25 #[aC q,.agg #[ag wd,ae a,ae b,ae s,ae t,ag u,af xa v xc]] w λe w'=>e=.returned (.tuple #[ag R,ae x])/\Hid (Q w'):=by
 have T:=N1;go_enter func25,ntmps25;go_upto_region 1 with fail;generalize C:World.alloc _ _=g;have B:Hid (ap w g):=by
  rw[<-C];exact aT _ _
 have G:Hid (g.heap[w.heap.size]?=some (s9 (ag wd) (ae a) (ae b) (ae s) (ae t) (ag u) (af xa v xc))):=by
  rw[<-C];exact aI _ _
 have r:ai g q 0 (.pointer (n.map λm=>⟨m,0,none⟩)):=(B.out.cell (p:=⟨q,0,none⟩) L).trans K;clear C;obtain⟨⟨d0,d1,d2,d3,d4,d5,d6⟩,_⟩:=fj G.out;have F:Hid (g.drew.cell? ⟨w.heap.size,1,none⟩=some (ae a)/\g.drew.cell? ⟨w.heap.size,2,none⟩=some (ae b)):=⟨d1,d2⟩;clear G;go_region_held3 (λW=>W.cell? ⟨w.heap.size,1,none⟩=some (ae a)/\W.cell? ⟨w.heap.size,2,none⟩=some (ae b)) (exact F) (fail);have i:Hid (ap w g.drew):=B.out.drew;have r:g.drew.cell? ⟨q,0,none⟩=some (.pointer (n.map λm=>⟨m,0,none⟩)):=r;have k:g.drew.cell? ⟨w.heap.size,0,none⟩=some (ag wd):=d0;have N:g.drew.cell? ⟨w.heap.size,3,none⟩=some (ae s):=d3;have O:g.drew.cell? ⟨w.heap.size,4,none⟩=some (ae t):=d4;have P:g.drew.cell? ⟨w.heap.size,5,none⟩=some (ag u):=d5;have S:g.drew.cell? ⟨w.heap.size,6,none⟩=some (af xa v xc):=d6;clear d0 d1 d2 d3 d4 d5 d6 F B;generalize g.drew=j at*;by_cases f:wd=iH
 ·have d:=av (y.out f j i);subst f;clear y A z D r;unfold iH at k ⊢;go_wp2_with fail;refine d.out.mono ?_;rintro e o ⟨rfl,c⟩;go_wp2_with fail
  go_ret2
  exact⟨rfl,c⟩
 ·have l:(wd.toList==[99,111,100,101])=false:=dK.2 λM=>f (kH M);cases n with
  | none=>
   obtain⟨rfl,rfl,I⟩:=A.out f rfl;have J:=av (I j i);clear y A z D I f;simp only[Option.map_none]at r;go_wp2_with fail
   go_ret2
   exact⟨rfl,J⟩
  | some m=>
   have h:=av (z.out f (by simp));clear y A z;simp only[lI]at r;rcases D with rfl|rfl|rfl|rfl|rfl|rfl|rfl
   ·have E:=av (h.out:_/\_);obtain⟨rfl,H⟩:=E.out;have d:=av (H j i);clear h E H f l;unfold gz at k ⊢;go_wp2_with fail;refine d.out.mono ?_;rintro e o ⟨rfl,c⟩;go_wp2_with fail
    go_ret2
    exact⟨rfl,c⟩
   ·have d:=av (h.out j i);clear h f l;unfold jI at k ⊢;go_wp2_with fail;refine d.out.mono ?_;rintro e o ⟨rfl,c⟩;go_wp2_with fail
    go_ret2
    exact⟨rfl,c⟩
   ·have d:=av (h.out j i);clear h f l;unfold sP at k ⊢;go_wp2_with fail;refine d.out.mono ?_;rintro e o ⟨rfl,c⟩;go_wp2_with fail
    go_ret2
    exact⟨rfl,c⟩
   ·have d:=av (h.out j i);clear h f l;unfold oy at k ⊢;go_wp2_with fail;refine d.out.mono ?_;rintro e o ⟨rfl,c⟩;go_wp2_with fail
    go_ret2
    exact⟨rfl,c⟩
   ·exact absurd rfl f
   ·have d:=av (h.out j i);clear h f l;unfold qG at k ⊢;go_wp2_with fail;refine d.out.mono ?_;rintro e o ⟨rfl,c⟩;go_wp2_with fail
    go_ret2
    exact⟨rfl,c⟩
   ·have d:=av (h.out j i);clear h f l;unfold sO at k ⊢;go_wp2_with fail;refine d.out.mono ?_;rintro e o ⟨rfl,c⟩;go_wp2_with fail
    go_ret2
    exact⟨rfl,c⟩
theorem Hh(q:Nat)(J:aq)(E i:Int)(R k:aq)(w:ah)(P:aq->Int->Int->Int->Int->aq->aw->Nat->Nat->bE)(Q m:bE)(F:Hid (au 24 #[ag J] w λe w'=>∃h a b c d f xa g xc,e=.returned (.tuple #[.agg #[ag h,ae a,ae b,ae c,ae d,ag f,af xa g xc],ae E])/\Hid (ap w w'/\(E=0->P h a b c d f xa g xc w'))))(u:Hid (E=0->∀h a b c d f xa g xc W H,P h a b c d f xa g xc W->ap W H->au 25 #[aC q,.agg #[ag h,ae a,ae b,ae c,ae d,ag f,af xa g xc]] H λe w'=>e=.returned (.tuple #[ag R,ae i])/\Hid (Q w')))(r:Hid (¬E=0->∀W,ap w W->au 10 #[ae E] W λe w'=>e=.returned (ag k)/\Hid (m w')))(s:Hid (E=0->¬i=0->∀W,Q W->au 10 #[ae i] W λe w'=>e=.returned (ag k)/\Hid (m w')))(t:Hid (E=0->i=0->k=R/\∀W,Q W->m W)):au 13 #[aC q,ag J] w λe w'=>e=.returned (ag k)/\Hid (m w'):=by
 go_enter func13,ntmps13;go_wp2_with fail;refine F.out.mono ?_;rintro e n ⟨h,a,b,c,d,f,xa,g,xc,rfl,j⟩;clear F;go_upto_region 2 with fail;generalize B:World.alloc _ _=o;have l:Hid (ap n o):=by
  rw[<-B];exact aT _ _
 have z:Hid (o.heap[n.heap.size]?=some (s9 (ag h) (ae a) (ae b) (ae c) (ae d) (ag f) (af xa g xc))):=by
  rw[<-B];exact aI _ _
 clear B;by_cases A:E=0;rotate_left
 ·have M:(E !=0)=true:=gT.2 A;have y:=av (r.out A o (j.out.1.trans (l.out.mono j.out.1.size)));clear u r s t z j l;go_wp2_with fail;refine y.out.mono ?_;rintro e C ⟨rfl,p⟩;go_wp2_with fail
  go_ret
  exact⟨rfl,p⟩
 subst A;have D:=av (u.out rfl _ _ _ _ _ _ _ _ _ n o (j.out.2 rfl) l);have v:=av (s.out rfl);have x:=av (t.out rfl);clear u r s t j l;generalize n.heap.size=O at*;obtain⟨⟨d0,d1,d2,d3,d4,d5,d6⟩,_⟩:=fj z.out;clear z;go_wp2_with fail;refine D.out.mono ?_;rintro e C ⟨rfl,G⟩;clear D;by_cases hF:i=0
 ·subst hF;obtain⟨L,I⟩:=x.out rfl;have K:=av (I C G);clear v x I d0 d1 d2 d3 d4 d5 d6;subst L;go_wp2_with fail
  go_ret
  exact⟨rfl,K⟩
 ·have N:(i !=0)=true:=gT.2 hF;have y:=av (v.out hF C G);clear v x d0 d1 d2 d3 d4 d5 d6;go_wp2_with fail;refine y.out.mono ?_;rintro e S ⟨rfl,p⟩;go_wp2_with fail
  go_ret
  exact⟨rfl,p⟩
theorem Af:(0:Int)<=0/\(0:Int)<=6:=by decide
theorem Ag:(0:Int)<=1/\(1:Int)<=6:=by decide
theorem xy:(0:Int)<=2/\(2:Int)<=6:=by decide
theorem Ah:(0:Int)<=3/\(3:Int)<=6:=by decide
theorem Ai:(0:Int)<=4/\(4:Int)<=6:=by decide
theorem Aj:(0:Int)<=5/\(5:Int)<=6:=by decide
theorem BC(b:Int):(l:List Nd)->(a:List Int)->(m:Int)->0<=uE b l a m/\uE b l a m<=6
 | [],a,m=>by
  unfold uE;split<;>omega
 | x::l,[],m=>by
  unfold uE;split<;>omega
 | x::l,d::a,m=>by
  unfold uE;have:=BC b l a (mG x d m);split<;>omega
theorem zO(n:Nat)(x:Tm n):0<=bJ n x/\bJ n x<=6:=BC _ _ _ _
theorem Lp{x:Tm n}:0<=fu n x room nm/\fu n x room nm<=6:=by
 have:=zO n x;unfold fu jl
 repeat' split
 all_goals omega
theorem Ei(c:oI 12 P=0){x:Tm k}:0<=(s.do 12 P room u a b k x).2/\(s.do 12 P room u a b k x).2<=6:=by
 have:=zO k x;unfold Sy.do;split
 ·unfold Sy.run;split
  ·first|exact Af|exact Ag|exact xy|exact Ah|exact Ai|exact Aj
  ·split
   ·split
    ·first|exact Af|exact Ag|exact xy|exact Ah|exact Ai|exact Aj
    ·first|exact Af|exact Ag|exact xy|exact Ah|exact Ai|exact Aj
   ·unfold rA;rw[if_neg λd=>d c]
    repeat' split
    all_goals first|exact Af|exact Ag|exact xy|exact Ah|exact Ai|exact Aj
 ·split
  ·unfold Sy.arrive;split
   ·first|exact Af|exact Ag|exact xy|exact Ah|exact Ai|exact Aj
   ·first|exact Af|exact Ag|exact xy|exact Ah|exact Ai|exact Aj
  ·split
   ·unfold Sy.inject
    repeat' split
    all_goals first|exact this |exact Af|exact Ag|exact xy|exact Ah|exact Ai|exact Aj
   ·first|exact Af|exact Ag|exact xy|exact Ah|exact Ai|exact Aj
theorem Jj{x:Tm k}:0<=(s.start 12 P room nm k x).2/\(s.start 12 P room nm k x).2<=6:=by
 unfold Sy.start
 repeat' split
 all_goals first|exact Lp |exact Af|exact Ag|exact xy|exact Ah|exact Ai|exact Aj
theorem NP(s:aq)(g:s.size<=maxLen)(w:ah):0<=(rdT s).1/\(rdT s).1<=6:=qP ((yN s w g).mono λe w' H=>by
 obtain⟨k,j,t,a,l,c,pos,i,rfl,H⟩:=H;obtain⟨f,_⟩:=H.out;rcases f with⟨b,_,_,rfl⟩|⟨p,b,d,_,_,rfl⟩|⟨b,d,n,x,h,_,_,_,rfl,_⟩
 ·rw[tI (ak ⟨b,rfl⟩)]
  first|exact Af|exact Ag|exact xy|exact Ah|exact Ai|exact Aj
 ·rw[tI (am (ak ⟨b,⟨p,d⟩,rfl⟩))]
  first|exact Af|exact Ag|exact xy|exact Ah|exact Ai|exact Aj
 ·rw[tI (am (am ⟨b,d,n,x,h,rfl⟩))]
  exact zO n x)
theorem Ee(a:aq)(d:a.size<=65536)(w:ah):0<=(dkRead a).1/\(dkRead a).1<=6:=by
 unfold dkRead;split
 ·first|exact Af|exact Ag|exact xy|exact Ah|exact Ai|exact Aj
 ·rename_i c b _;simp only;split
  ·split
   ·first|exact Af|exact Ag|exact xy|exact Ah|exact Ai|exact Aj
   ·exact NP _ (by have:=pi a d c b (1+c);unfold maxLen;omega) w
  ·first|exact Af|exact Ag|exact xy|exact Ah|exact Ai|exact Aj
theorem Eb:kR (some (P,room,s)) gz a b t=(some (P,room,s),0,qM ((s.ps.map (·.1)).mergeSort λx y:Int=>decide (x<=y))):=by
 unfold kR;rw[if_neg (by decide)];dsimp only;rw[if_neg (by decide),if_neg (by decide),if_neg (by decide),if_neg (by decide),if_neg (by decide)]
theorem Hm:kR (some (P,room,s)) oy a b t=(some (P,room,s),QU (s.get a),QQ (s.get a)):=by
 unfold kR;rw[if_neg (by decide)];dsimp only;rw[if_neg (by decide),if_neg (by decide),if_neg (by decide),if_neg (by decide),if_pos rfl];cases s.get a<;>rfl
theorem Ec:kR (some (P,room,s)) jI a b t=jG P room s t.2.2:=by
 unfold kR;rw[if_neg (by decide)];dsimp only;rw[if_pos rfl]
theorem Kx:kR (some (P,room,s)) sP a b t=oF P room s 1 a 0 tT:=by
 unfold kR;rw[if_neg (by decide)];dsimp only;rw[if_neg (by decide),if_pos rfl]
theorem Ku:kR (some (P,room,s)) sO a b t=oF P room s 2 a b tT:=by
 unfold kR;rw[if_neg (by decide)];dsimp only;rw[if_neg (by decide),if_neg (by decide),if_pos rfl]
theorem Kv:kR (some (P,room,s)) qG a b t=oF P room s 3 a 0 t:=by
 unfold kR;rw[if_neg (by decide)];dsimp only;rw[if_neg (by decide),if_neg (by decide),if_neg (by decide),if_pos rfl]
theorem BU{l:List (Tm 12)}(a:0<=s.last/\s.last<=90):(jG P room s l).2.2.length<=20000000000:=by
 have:=Lib.itoa_length_le (s.last+1) (by omega) (by omega);unfold jG;split
 ·split
  ·simp only;split
   ·omega
   ·exact aK _
  ·exact aK _
 ·exact aK _
theorem Ea:(mH o a t).2.2.length<=20000000000:=by
 unfold mH;split
 ·exact(by decide:2<=20000000000)
 ·exact aK _
theorem Kw(d:jK h q i o M w):0<=(kR o wd a b t).2.1/\(kR o wd a b t).2.1<=6:=by
 unfold kR;split
 ·unfold mH;split<;>(first|exact Af|exact Ag|exact xy|exact Ah|exact Ai|exact Aj)
 ·split
  ·first|exact Af|exact Ag|exact xy|exact Ah|exact Ai|exact Aj
  ·rename_i e room f;obtain⟨_,_,_,_,c,_⟩:=d.2.2;split
   ·unfold jG;split
    ·split
     ·exact Jj
     ·first|exact Af|exact Ag|exact xy|exact Ah|exact Ai|exact Aj
    ·first|exact Af|exact Ag|exact xy|exact Ah|exact Ai|exact Aj
   ·split
    ·exact Ei c.2.2
    ·split
     ·exact Ei c.2.2
     ·split
      ·exact Ei c.2.2
      ·repeat' split
       all_goals first|exact Af|exact Ag|exact xy|exact Ah|exact Ai|exact Aj
theorem tp{a b:Nat}(c:iC wd=some (a,b)):wd=gz\/wd=jI\/wd=sP\/wd=oy\/wd=iH\/wd=qG\/wd=sO:=by
 unfold iC at c
 repeat' split at c
 all_goals first|(cases c;done)|(subst_vars;simp)
def Ax:Tm 1:=((0,0,⟨#[]⟩),(none,0),[])
theorem NB(B:Nat)(w:ah):In B w 1 Ax:=⟨⟨by simp[Ax,dm],by simp[Ax,dm],aK _,by simp[Ax],by simp[Ax]⟩,ak rfl⟩
theorem Kz(k:jK h q i o M w)(C:i<=200){r:Int×aq×Int×Int×Tc}{p:aq}(aa:OP r B v a b u y p xa z xc w)(O:∀b,M b->b<B):au 25 #[aC q,.agg #[ag v,ae a,ae b,ae u,ae y,ag p,af xa z xc]] w λe w'=>e=.returned (.tuple #[ag ⟨(kR o r.2.1 r.2.2.1 r.2.2.2.1 r.2.2.2.2).2.2.toArray⟩,ae (kR o r.2.1 r.2.2.1 r.2.2.2.1 r.2.2.2.2).2.1])/\Hid ((kR o r.2.1 r.2.2.1 r.2.2.2.1 r.2.2.2.2).2.2.length<=20000000000/\jL h q i (kR o r.2.1 r.2.2.1 r.2.2.2.1 r.2.2.2.2).1 M w w'):=by
 obtain⟨az,aI,ar,av,t⟩:=r;obtain⟨⟨rfl,rfl,rfl⟩,A,Q,V,aG,an,n,U⟩:=aa;dsimp only at A Q V U ⊢;have J:∀c,ap w c->mg t B u y p xa z xc c:=λc d=>V.kee (aM d λ_=>False) λ_ _ _ v=>v;have D:∀{L:Int},0<=L/\L<=99->dm L:=λk=>eg (by omega);have H:an=1->bJ 13 t=0:=λe=>by
  rcases U with v|v
  ·omega
  ·exact v.2
 obtain⟨g,j⟩:∃g,kR o v a b t=g:=⟨_,rfl⟩;rw[j];obtain⟨aH,Z⟩:=k.box;have T:q<w.heap.size:=(aN.1 Z).1;have N:v=iH->∀c,ap w c->au 36 #[aC q,ae a,.agg #[ae u,ae y,ag p,af xa z xc]] c λe w'=>e=.returned (.tuple #[ag ⟨g.2.2.toArray⟩,ae g.2.1])/\Hid (g.2.2.length<=20000000000/\jL h q i g.1 M w w'):=by
  rintro rfl c d;have e:kR o iH a b t=mH o a t:=if_pos rfl;rw[<-j,e];refine(Eg (k.later d) A (J c d) (H ?_)).mono ?_
  ·have:iC iH=some (1,1):=by decide
   rw[this]at n;cases n;rfl
  ·rintro e w' ⟨rfl,x⟩;exact⟨rfl,Ea,x.out.from d⟩
 match o,k with
 | none,k=>
  have F:ai w q 0 (.pointer none):=aj (show w.heap[q]?=some (uc (.pointer none))from k.2.2) 0;refine BP q v a b u y p xa z xc none ⟨g.2.2.toArray⟩ g.2.1 w (λw'=>g.2.2.length<=20000000000/\jL h q i g.1 M w w') T F (tp n) N (λI _=>?_) λ_ e=>absurd rfl e;have e:g=(none,4,[]):=by
   rw[<-j];exact if_neg I
  rw[e];exact⟨rfl,rfl,λc d=>⟨aK _,k.stay d⟩⟩
 | some (P,room,s),k=>
  obtain⟨W,ay,ad,al,aB,aD,aE,aF⟩:=id k.2.2;have F:ai w q 0 (aC W.b):=aj ad 0;have R:=al.keys;have m:∀{c:ah},ap w c->∀{f:FuncId}{E:Array ax}{K:ax},(au f E c λe w'=>e=.returned K/\Hid (g.2.2.length<=20000000000/\jL h q i g.1 M c w'))->au f E c λe w'=>e=.returned K/\Hid (g.2.2.length<=20000000000/\jL h q i g.1 M w w'):=by
   intro c d f E K x;exact x.mono λe w' v=>⟨v.1,v.2.out.1,v.2.out.2.from d⟩
  have S:∀c,In c.heap.size c 1 Ax/\cE (λb=>¬M b) 1 Ax:=λc=>⟨NB _ _,ak rfl⟩;refine BP q v a b u y p xa z xc (some W.b) ⟨g.2.2.toArray⟩ g.2.1 w (λw'=>g.2.2.length<=20000000000/\jL h q i g.1 M w w') T F (tp n) N (λ_ e=>by cases e) λI _=>?_;rcases tp n with rfl|rfl|rfl|rfl|rfl|rfl|rfl
  ·rw[Eb]at j;subst j;unfold qJ;rw[if_neg (by decide),if_neg (by decide),if_neg (by decide),if_neg (by decide),if_neg (by decide)];exact⟨rfl,λc d=>m d (BW (k.later d))⟩
  ·rw[Ec]at j;unfold qJ;rw[if_pos rfl]
   have G:bJ 13 t=0:=H (by
    have:iC jI=some (0,1):=by decide
    rw[this]at n;cases n
    rfl)
   refine λc d=>m d ((BX (k.later d) C (J c d) G O).mono ?_);rintro e w' ⟨rfl,x⟩;rw[<-j];exact⟨rfl,BU ⟨R.2.2.2.1,R.2.2.2.2.1⟩,x⟩
  ·rw[Kx]at j;unfold qJ;rw[if_neg (by decide),if_pos rfl,<-j];rw[<-j]at m;exact λc d=>m d (ti (k.later d) C (D A) (eg (by decide)) Ax tT (S c) (by decide) (by simp[Sy.do]))
  ·rw[Hm]at j;unfold qJ;rw[if_neg (by decide),if_neg (by decide),if_neg (by decide),if_neg (by decide),if_pos rfl,<-j];rw[<-j]at m;exact λc d=>m d (Eh (k.later d) C a)
  ·exact absurd rfl I
  ·rw[Kv]at j;unfold qJ;rw[if_neg (by decide),if_neg (by decide),if_neg (by decide),if_pos rfl,<-j];rw[<-j]at m
   have G:bJ 13 t=0:=H (by
    have:iC qG=some (1,1):=by decide
    rw[this]at n;cases n
    rfl)
   intro c d;obtain⟨am,l,rfl,ab,X,Y,aA⟩:=pW (J c d) G;exact m d (ti (k.later d) C (D A) (eg (by decide)) (((u,y,p),(xa,xc),l):Tm (am+1)) t ⟨X,Y.mono λb v ao=>by have:=O b ao;omega⟩ (by omega) (KV ab s room a 0))
  ·rw[Ku]at j;unfold qJ;rw[if_neg (by decide),if_neg (by decide),if_pos rfl,<-j];rw[<-j]at m;exact λc d=>m d (ti (k.later d) C (D A) (D Q) Ax tT (S c) (by decide) (by simp[Sy.do]))
theorem Ak{e:Int}(a:0<=e/\e<=6):dm e:=eg (by omega)
theorem vR{e:Int}(a:0<=e/\e<=6):(iS e).length<=100:=by
 have:=Lib.itoa_length_le e (by omega) (by omega);unfold iS;simp only[bm,bt,eU];omega
theorem Ho(p:jK h q i o M w)(P:i<=200)(c:aq)(K:c.size<=65536):au 13 #[aC q,ag c] w λe w'=>e=.returned (ag ⟨(dkAns o c).2.toArray⟩)/\Hid ((dkAns o c).2.length<=20000000000/\jL h q i (dkAns o c).1 M w w'):=by
 obtain⟨⟨H,X,Y⟩,N,_⟩:=id p;obtain⟨r,I⟩:∃r,dkRead c=r:=⟨_,rfl⟩;have C:=Ee c K w;have J:=Hs c K H (by omega);rw[I]at C J;obtain⟨a,A⟩:∃a,kR o r.2.1 r.2.2.1 r.2.2.2.1 r.2.2.2.2=a:=⟨_,rfl⟩;have E:0<=a.2.1/\a.2.1<=6:=by rw[<-A];exact Kw p
 obtain⟨j,D⟩:∃j,dkAns o c=j:=⟨_,rfl⟩;have z:j=if r.1=0 then (a.1,if a.2.1=0 then a.2.2 else iS a.2.1)else (o,iS r.1):=by
  rw[<-D,<-A,<-I];rfl
 rw[D];refine Hh q c r.1 a.2.1 ⟨a.2.2.toArray⟩ ⟨j.2.toArray⟩ w (λf n b s t u v y x k=>OP r w.heap.size f n b s t u v y x k/\ap w k) (λw'=>a.2.2.length<=20000000000/\jL h q i a.1 M w w') (λw'=>j.2.length<=20000000000/\jL h q i j.1 M w w') (J.mono ?_) (λ_ f n b s t u v y x k W O l=>?_) (λm k l=>?_) (λm hF k F=>?_) λm hF=>?_
 ·rintro e w' ⟨f,n,b,s,t,u,v,y,x,rfl,g⟩;exact⟨f,n,b,s,t,u,v,y,x,rfl,g.1,λe=>⟨g.2 e,g.1⟩⟩
 ·obtain⟨⟨Q,R,S,T,U⟩,G⟩:=O;have d:=G.trans (l.mono G.size);refine(Kz (p.later d) P (r:=r) (B:=w.heap.size) ⟨Q,R,S,T.kee (aM l λ_=>False) λ_ _ _ f=>f,U⟩ λb d=>(N b d).2).mono ?_;rintro e w' ⟨rfl,g⟩;rw[A]at g ⊢;exact⟨rfl,g.out.1,g.out.2.from d⟩
 ·rw[z,if_neg m];refine(sf r.1 (Ak C) (H.on (l.mono (by omega:h<=w.heap.size)))).mono ?_;rintro e w' ⟨rfl,d⟩;exact⟨rfl,aD (vR C) (by decide),p.stay (l.trans (d.mono l.size))⟩
 ·rw[z,if_pos m];obtain⟨_,V,L,_⟩:=id F;simp only[hF,if_false];refine(sf a.2.1 (Ak E) L.1.1).mono ?_;rintro e w' ⟨rfl,d⟩;exact⟨rfl,aD (vR E) (by decide),F.2.later d⟩
 ·rw[z,if_pos m];simp only[hF,cB];exact⟨trivial,λk f=>f⟩
theorem Bu.kee{b:Nat}{l:List UInt8}{w':ah}(m:Bu B b l w){S:aU}(g:bG S w w')(p:¬S b)(u:∀r,JR b w r->¬S r):Bu B b l w':=by
 have key:∀e,Lib.BuilderAtF 38 5 B b e (Lib.byteCells l) w->Lib.BuilderAtF 38 5 B b e (Lib.byteCells l) w':=by
  rintro e ⟨o,i,d,t,s⟩;refine⟨o,i,(g.block b (lt_of_heap d) p).trans d,?_,s⟩;obtain⟨n,c⟩:=t;refine⟨n,?_⟩;rcases c with c|⟨a,cap,j,k,h,q,f,r⟩
  ·exact ak c
  ·exact am ⟨a,cap,j,k,h,q,(g.block a (lt_of_heap f) (u a ⟨i,aj d 1,by rw[h];rfl⟩)).trans f,r⟩
 exact m.imp (key _) (key _)
theorem Cx.mono{B a:Nat}{w:ah}(f:Cx B w)(b:B<=a):Cx a w:=by
 obtain⟨g,k,d,e,h,i⟩:=f;exact⟨xz.mono g b,k,d,e,h,λc j=>i c (j.mono b)⟩
def Mz(w:ah)(L:bj)(g q i:Nat)(a:qt)(l:List UInt8)(W:ah):Prop:=∃M,jK w.heap.size q i a M W/\(Bu (q+1) (q+1) l W/\∀r,JR (q+1) W r->q+1<r/\r<W.heap.size/\¬M r)/\(ap w W/\w.heap.size<=g/\g<q)/\∀(j:Nat) x,L[j]?=some x->W.cell? ⟨g,j,none⟩=some (ag x)
theorem Mz.up{p:qt}{l:List UInt8}(v:jK w.heap.size q i o M W)(d:Bu (q+1) (q+1) l W/\∀r,JR (q+1) W r->q+1<r/\r<W.heap.size/\¬M r)(e:ap w W/\w.heap.size<=g/\g<q)(y:∀(j:Nat) x,L[j]?=some x->ai W g j (ag x))(u:jL w.heap.size q i p M W f):Mz w L g q (i+1) p l f:=by
 obtain⟨s,D,c,E⟩:=u;obtain⟨⟨_,G,B⟩,z,_⟩:=v;have h:∀{b},M b->q+1<b:=λa=>(z _ a).1;have n:¬(q+1=q\/M (q+1)):=λa=>by
  rcases a with a|a
  ·omega
  ·exact absurd (h a) (by omega)
 have A:f.cell? ⟨q+1,1,none⟩=W.cell? ⟨q+1,1,none⟩:=c.cell 1 B n;refine⟨s,D,⟨d.1.kee c n λr k a=>?_,λr k=>?_⟩,⟨e.1.trans (c.below e.1.size λb H a=>?_),e.2⟩,λj x C=>(c.cell j (by omega) λa=>?_).trans (y j x C)⟩
 ·have:=d.2 r k;rcases a with a|a
  ·omega
  ·exact this.2.2 a
 ·obtain⟨F,m,t⟩:=k;rw[A]at m;have:=d.2 r ⟨F,m,t⟩;have I:=c.size;refine⟨this.1,by omega,λa=>?_⟩;rcases E r a with a|a
  ·exact this.2.2 a
  ·omega
 ·rcases a with a|a
  ·omega
  ·have:=h a;omega
 ·rcases a with a|a
  ·omega
  ·have:=h a;omega
theorem Mz.wrote{l B:List UInt8}(F:Mz w L g q i o l W)(d:dC (q+1) (q+1) B W f)(p:Oh (q+1) W f):Mz w L g q i o B f:=by
 obtain⟨n,y,⟨Y,z⟩,⟨A,K⟩,M⟩:=F;obtain⟨⟨_,U,V⟩,r,_⟩:=id y;have j:bG (λb=>b=q+1\/JR (q+1) W b) W f:=⟨d.2.1.os,d.2.1.tape,d.2.1.output,d.2.1.size,λb s u=>p.1 b s (λm=>u (ak m)) λm=>u (am m)⟩;have e:∀b,(b=q+1\/JR (q+1) W b)->q<b/\¬n b:=λb a=>by
  rcases a with a|a
  ·subst a;exact⟨by omega,λa=>absurd (r _ a).1 (by omega)⟩
  ·have:=z b a;exact⟨by omega,this.2.2⟩
 refine⟨n,y.kept j λb a=>⟨by have:=e b a;omega,by have:=e b a;omega,(e b a).2⟩,⟨d.1,λk v=>?_⟩,⟨A.trans (j.below A.size λb s a=>by have:=e b a;omega),K⟩,λx P J=>(j.cell x (by omega) λa=>by have:=e g a;omega).trans (M x P J)⟩;have t:k<f.heap.size:=by
  obtain⟨N,C,h⟩:=v;rcases d.1 with a|a
  all_goals
   obtain⟨_,O,G,⟨_,I⟩,_⟩:=a;have D:=C.symm.trans (aj G 1);have E:N=O:=aG D;subst E;rcases I with⟨a,_⟩|⟨T,c,R,S,a,_,H,_⟩
   ·rw[a]at h;cases h
   ·rw[a]at h;cases h;exact lt_of_heap H
 have X:=j.size;rcases p.2 k v with a|a
 ·have:=z k a;exact⟨this.1,t,this.2.2⟩
 ·exact⟨by omega,t,λQ=>by have:=(r k Q).2;omega⟩
theorem LK(t:Cx w.heap.size w)(f:ap w W)(m:w.heap.size<=g/\g<W.heap.size)(s:∀(j:Nat) x,L[j]?=some x->ai W g j (ag x)):Mz w L g W.heap.size 0 none [] ((W.alloc (.cells #[.pointer none] 34)).alloc (.cells #[.pointer none,af none 0 0] 38)):=by
 obtain⟨a,d⟩:∃a,W.alloc (.cells #[.pointer none] 34)=a:=⟨_,rfl⟩;have n:a.heap.size=W.heap.size+1:=by rw[<-d];simp
 have i:ap W a:=by rw[<-d];exact aT _ _
 have u:a.heap[W.heap.size]?=some (uc (.pointer none)):=by rw[<-d];exact aI _ _
 rw[d];obtain⟨b,c⟩:∃b,a.alloc (.cells #[.pointer none,af none 0 0] 38)=b:=⟨_,rfl⟩;have A:b.heap.size=W.heap.size+2:=by rw[<-c];simp[n]
 have k:ap a b:=by rw[<-c];exact aT _ _
 have q:Bu a.heap.size a.heap.size [] b:=by
  rw[<-c];exact Lib.IsBuilderF.of (Lib.fresh_isBuilder 38 5 a)
 have l:ai b a.heap.size 1 (af none 0 0):=by
  rw[<-c];exact aj (aI _ _) 1
 rw[c];have e:=i.trans (k.mono i.size);have o:=f.size;rw[n]at q l;refine⟨λ_=>False,⟨⟨t.on (f.trans (e.mono o)),by omega,by omega⟩,λ_ z=>z.elim,(k.block _ (by omega)).trans u⟩,⟨q,λB v=>?_⟩,⟨f.trans (e.mono o),m⟩,λj x y=>(e.cell (p:=⟨g,j,none⟩) m.2).trans (s j x y)⟩;obtain⟨C,h,r⟩:=v;rw[l]at h;obtain rfl:=aG h;cases r
theorem vM(a:aq):(ud a).size<=a.size:=by
 unfold ud Lib.trimSuffix;have b:a.size=a.data.toList.length:=Lib.size_eq a;have c:∀l:List UInt8,(⟨l.toArray⟩:aq).size=l.length:=λl=>Lib.size_eq _;rw[c,b];split
 ·rw[dr];omega
 ·exact ay _
theorem ue(a:aq):(gt a).length=Lib.countB (ud a) G3+1:=Lib.splitB_all G3 (by decide) 0 _ _ rfl
theorem zZ(a:aq):∀x∈gt a,x.size<=a.size:=λx b=>aD (ot _ _ _ x b) (vM a)
theorem zj(t:aq)(f:t.size<=65536)(a:Cx B w):au 20 #[ag t,ag ⟨#[10]⟩] w λe w'=>∃g,e=.returned (af (some ⟨g,0,none⟩) (Lib.countB t G3+1) (Lib.countB t G3+1))/\Hid (ap w w'/\(w.heap.size<=g/\g<w'.heap.size)/\∀(j:Nat) x,(Lib.splitB G3 0 (Lib.countB t G3) t)[j]?=some x->ai w' g j (ag x)):=by
 obtain⟨_,d,_,_,_,b⟩:=a;refine(Tryz.strings_Split t ⟨#[10]⟩ d w (by omega) (b w (aE _ _)).1 (by decide)).mono ?_;rintro e w' ⟨rfl,rfl⟩;refine⟨_,rfl,aT _ _,⟨ay _,(aN.1 (aI w _)).1⟩,λj x c=>(aj (aI w _) j).trans ?_⟩;show ((Lib.splitB G3 0 (Lib.countB t G3) t).map Value.string)[j]?=_;rw[df,c];rfl
theorem yr{a:Type}(f:a->e->a)(l:List e)(b:a){x:e}(c:l[j]?=some x):(l.take (j+1)).foldl f b=f ((l.take j).foldl f b) x:=by
 rw[dJ,c];simp
theorem NY(a:mh x=true):dkStep r x=((dkAns r.1 x).1,r.2++(dkAns r.1 x).2++ [10]):=if_pos a
theorem L6(a:mh x=false):dkStep r x=r:=if_neg (by rw[a];decide)
theorem KF(c:aq)(D:Cx B w)(O:B<=w.heap.size):au 5 #[ag c] w λe w'=>e=.returned (ag ⟨(dkRun c).toArray⟩)/\Hid (ap w w'/\(dkRun c).length<=5000000000000):=by
 have H:=D.mono O;have M:(iS 2).length<=100:=vR xy;have N:(iS 2++ [10]).length<=5000000000000:=by
  rw[bm];simp only[bt,eU];omega
 have J:∀l:List UInt8,(⟨l.toArray⟩:aq).size=l.length:=λl=>by simp[ByteArray.size]
 by_cases u:65536<c.size
 ·have t:65536<c.size\/200<(gt c).length:=ak u;have e:dkRun c=iS 2++ [10]:=if_pos t;rw[e];refine(yj c 0 (65536<c.size\/200<0) (λ_=> .empty) (λ_=> .empty) ⟨(iS 2++ [10]).toArray⟩ ⟨(iS 2).toArray⟩ w (λ_ _=>False) (λ_ _ _ _=>False) (λ_ _ _ _=>False) (λ_ _ _ _=>False) (λw'=>ap w w'/\(iS 2++ [10]).length<=5000000000000) (by decide) (by rw[J];exact M) ?_ (λ_ f q=>?_) (λd=>absurd (ak u) d) (λ_ _ _ _ _ d=>d.elim) (λ_ _ _ _ _ d=>d.elim) (λ_ _ _ _ _ d=>d.elim) (λ_ _ _ _ _ d=>d.elim) (λ_ _ _ _ _ d=>d.elim) λ_ _ _ _ d=>d.elim).mono λe w' d=>⟨d.1,d.2⟩
  ·refine(xb c .empty (Lib.countB .empty G3+1) w (λ_ _=>True) (λd=>absurd u d) ((zj .empty (by decide) D).mono ?_)).mono ?_
   ·rintro e w' ⟨g,rfl,n⟩;exact⟨g,rfl,n.1,trivial⟩
   ·rintro e w' (⟨_,rfl,r⟩|⟨d,_⟩)
    ·exact ak ⟨ak u,rfl,r⟩
    ·exact absurd (ak u) d
  ·refine(sf 2 (Ak xy) (H.on q)).mono ?_;rintro e w' ⟨rfl,r⟩;exact⟨rfl,DU _ _,q.trans (r.mono q.size),N⟩
 ·have S:=vM c;have P:=ue c;have T:=Lib.countB_le G3 (by decide) _ (ud c) (ay _);obtain⟨b,F⟩:∃b,gt c=b:=⟨_,rfl⟩;have L:=zZ c;rw[F]at P L;have v:∀a,a<b.length->b[a]?=some (b.getD a .empty):=λa m=>by simp[m]
  have Q:dkRun c=if 65536<c.size\/200<b.length then iS 2++ [10]else (b.foldl dkStep (none,[])).2:=by
   rw[<-F];rfl
  rw[Q]
  refine(yj c b.length (65536<c.size\/200<b.length) (λa=>b.getD a .empty) (λa=>⟨(dkAns ((b.take a).foldl dkStep (none,[])).1 (b.getD a .empty)).2.toArray⟩) ⟨(if 65536<c.size\/200<b.length then iS 2++ [10]else (b.foldl dkStep (none,[])).2).toArray⟩ ⟨(iS 2).toArray⟩ w
   (λg f=>ap w f/\(w.heap.size<=g/\g<f.heap.size)/\∀(a:Nat) x,b[a]?=some x->ai f g a (ag x))
   (λg h a f=>b.length<=200/\((b.take a).foldl dkStep (none,[])).2.length<=a*20000000001/\Mz w b g h a ((b.take a).foldl dkStep (none,[])).1 ((b.take a).foldl dkStep (none,[])).2 f)
   (λg h a f=>b.length<=200/\((b.take a).foldl dkStep (none,[])).2.length<=a*20000000001/\(dkAns ((b.take a).foldl dkStep (none,[])).1 (b.getD a .empty)).2.length<=20000000000/\mh (b.getD a .empty)=true/\Mz w b g h (a+1) (dkAns ((b.take a).foldl dkStep (none,[])).1 (b.getD a .empty)).1 ((b.take a).foldl dkStep (none,[])).2 f)
   (λg h a f=>b.length<=200/\((b.take a).foldl dkStep (none,[])).2.length<=a*20000000001/\(dkAns ((b.take a).foldl dkStep (none,[])).1 (b.getD a .empty)).2.length<=20000000000/\mh (b.getD a .empty)=true/\Mz w b g h (a+1) (dkAns ((b.take a).foldl dkStep (none,[])).1 (b.getD a .empty)).1 (((b.take a).foldl dkStep (none,[])).2++(dkAns ((b.take a).foldl dkStep (none,[])).1 (b.getD a .empty)).2) f)
   (λw'=>ap w w'/\(if 65536<c.size\/200<b.length then iS 2++ [10]else (b.foldl dkStep (none,[])).2).length<=5000000000000) (by omega) (by rw[J];exact M) ?_ (λt f q=>?_) (λt g f q G=>?_) (λg h a f m j=>?_) (λg h a f m j I=>?_) (λg h a f m j I=>?_) (λg h a f m j=>?_) (λg h a f m j=>?_) λt g h f j=>?_).mono λe w' d=>⟨d.1,d.2⟩
  ·rw[<-F,ue];refine xb c (ud c) _ w _ (λ_=>(Tryz.strings_TrimSuffix c ⟨#[10]⟩ w (by omega)).mono λe w' d=>d) ((zj (ud c) (by omega) D).mono ?_);rintro e w' ⟨g,rfl,n⟩;exact⟨g,rfl,n.1,n.1,n.2.1,n.2.2⟩
  ·rw[if_pos t];refine(sf 2 (Ak xy) (H.on q)).mono ?_;rintro e w' ⟨rfl,r⟩;exact⟨rfl,DU _ _,q.trans (r.mono q.size),N⟩
  ·refine⟨by omega,aK _,?_⟩;rw[nN];exact LK H G.1 G.2.1 G.2.2
  ·obtain⟨_,_,s,_,_,_,k⟩:=j;exact k a _ (v a m)
  ·obtain⟨o,p,s,y,i⟩:=j;rw[yr _ _ _ (v a m),L6 I];exact⟨o,aD p (Nat.mul_le_mul_right _ (fM a)),s,y.next,i⟩
  ·obtain⟨o,p,s,y,i,z,R⟩:=j;refine(Ho y (by omega) (b.getD a .empty) (aD (L _ (aR (v a m))) (by omega))).mono ?_;rintro e w' ⟨rfl,n⟩;exact⟨rfl,o,p,n.1,I,Mz.up y i z R n.2⟩
  ·obtain⟨o,p,K,E,k⟩:=j;obtain⟨s,_,i,_⟩:=id k;refine(mK (h+1) (h+1) _ ⟨(dkAns ((b.take a).foldl dkStep (none,[])).1 (b.getD a .empty)).2.toArray⟩ f i.1 (by rw[J];omega) (by have:=i.1.lt;omega)).mono ?_;rintro e w' ⟨rfl,A,C⟩;exact⟨_,rfl,o,p,K,E,k.wrote A C⟩
  ·obtain⟨o,p,K,E,k⟩:=j;obtain⟨s,_,i,_⟩:=id k;refine(py (h+1) (h+1) _ 10 f i.1 (by rw[bm];omega) (by have:=i.1.lt;omega)).mono ?_;rintro e w' ⟨rfl,A,C⟩;rw[yr _ _ _ (v a m),NY E];refine⟨_,rfl,o,?_,k.wrote A C⟩;simp only[bm,bt,eU];omega
  ·obtain⟨o,p,s,_,i,z,_⟩:=j;rw[if_neg t];rw[bF (ay _)]at i;refine(Tryz.Builder_String_any_k (h+1) (h+1) _ f i.1 (by have:=i.1.lt;omega)).mono ?_;rintro e w' ⟨rfl,_,r,_⟩;have:=z.1.size;have:=i.1.lt;rw[bF (ay _)]at p;exact⟨rfl,z.1.trans (r.mono (by omega)),by omega⟩
def oe:List UInt8->List (List UInt8)
 | []=> [[]]
 | c::l=>if c=10 then []::oe l else match oe l with
  | x::r=>(c::x)::r
  | []=> [[c]]
theorem EM(l:List UInt8):∃x r,oe l=x::r:=by
 cases l with
 | nil=>exact⟨_,_,rfl⟩
 | cons c l=>
  unfold oe;split
  ·exact⟨_,_,rfl⟩
  ·split<;>exact⟨_,_,rfl⟩
theorem Gx(a b:List UInt8):oe (a++10::b)=oe a++oe b:=by
 induction a with
 | nil=>simp[oe]
 | cons c a ih=>
  obtain⟨f,e,d⟩:=EM a;rw[fJ];simp only[oe,ih,d];split<;>simp
theorem Cz(a:List UInt8)(g:c≠10):∃p x,oe a=p++ [x]/\oe (a++ [c])=p++ [x++ [c]]:=by
 induction a with
 | nil=>exact⟨[],[],by simp[oe],by simp[oe,g]⟩
 | cons d a ih=>
  obtain⟨p,x,e,f⟩:=ih;by_cases b:d=10
  ·refine⟨[]::p,x,?_,?_⟩
   ·simp[oe,b,e]
   ·simp[oe,b,f]
  ·cases p with
   | nil=>exact⟨[],d::x,by simp[oe,b,e],by simp[oe,b,f]⟩
   | cons h p=>exact⟨(d::h)::p,x,by simp[oe,b,e],by simp[oe,b,f]⟩
theorem L0(l:List UInt8):Lib.splitK [10] 0 (Lib.count l [10]) l=oe l:=by
 induction l with
 | nil=>rfl
 | cons c l ih=>
  by_cases a:c=10
  ·subst a;rw[Lib.count_cons_eq,Nat.add_comm];have e:Lib.index (10::l) [10]=0:=by simp[Lib.index]
   unfold Lib.splitK oe;rw[e,if_neg (by decide),if_pos rfl];simpa using ih
  ·rw[Lib.count_cons_ne _ _ _ a];have f:Lib.index (c::l) [10]=if Lib.index l [10]==-1 then -1 else Lib.index l [10]+1:=by
    have:¬(10:UInt8)=c:=λd=>a d.symm
    conv=>lhs;unfold Lib.index
    simp[this]
   unfold oe;rw[if_neg a,<-ih];cases d:Lib.count l [10]with
   | zero=>rfl
   | succ k=>
    unfold Lib.splitK;rw[f];by_cases b:Lib.index l [10]==-1
    ·simp[b]
    ·have i:=Lib.index_ge l [10];have g:¬(Lib.index l [10]+1==-1)=true:=by simp;omega
     have h:(Lib.index l [10]+1).toNat=(Lib.index l [10]).toNat+1:=by
      have:Lib.index l [10]≠ -1:=by simpa using b
      omega
     rw[if_neg b,if_neg g,if_neg b,h];simp
def D5(l:List UInt8):List UInt8:=Lib.trimSuffix l [10]
theorem MZ(l:List UInt8):D5 (l++ [10])=l:=by
 unfold D5 Lib.trimSuffix Lib.hasSuffix;simp
theorem MY(l:List UInt8)(a:c≠10):D5 (l++ [c])=l++ [c]:=by
 unfold D5 Lib.trimSuffix Lib.hasSuffix;rw[if_neg];simpa using λe:(10:UInt8)=c=>a e.symm
theorem Fs(l:List UInt8):l=[]\/∃p c,l=p++ [c]:=by
 rcases List.eq_nil_or_concat l with a|⟨p,c,a⟩
 ·exact ak a
 ·exact am ⟨p,c,by simpa using a⟩
def Js(l:List UInt8):List (List UInt8):=if (oe l).getLast? =some []then (oe l).dropLast else oe l
theorem N4{l:List UInt8}(e:l≠[]):Js l=oe (D5 l):=by
 rcases Fs l with a|⟨d,c,rfl⟩
 ·exact absurd a e
 ·unfold Js;by_cases b:c=10
  ·subst b;rw[MZ,Gx];simp[oe]
  ·obtain⟨f,g,_,a⟩:=Cz d b;rw[MY d b,a];simp
theorem Ed(a:aq):(gt a).map (·.data.toList)=oe (D5 a.data.toList):=by
 unfold gt;rw[Lib.splitB_data];exact L0 _
def Qo:List UInt8->Bool
 | []=>false
 | c::_=>c !=35
theorem yJ(l:bj):(l.filter mh).length=((l.map (·.data.toList)).filter Qo).length:=by
 rw[List.filter_map,cD];rfl
theorem Hn(a:aq):((Js a.data.toList).filter Qo).length=((gt a).filter mh).length/\(200<(Js a.data.toList).length ↔ 200<(gt a).length):=by
 have c:=Ed a;have d:(gt a).length=(oe (D5 a.data.toList)).length:=by rw[<-c,cD]
 rw[yJ,c,d];by_cases b:a.data.toList=[]
 ·rw[b];decide
 ·rw[N4 b];exact⟨rfl,Iff.rfl⟩
theorem Fi(a:aq):if 65536<a.size\/200<(Js a.data.toList).length then dkRun a=iS 2++ [10]else ((Js a.data.toList).filter Qo).length<=(dkRun a).count 10/\(dkRun a=[]\/∃r,dkRun a=r++ [10]):=by
 obtain⟨d,c⟩:=Hn a;by_cases b:65536<a.size\/200<(Js a.data.toList).length
 ·rw[if_pos b];exact if_pos (b.imp id c.1)
 ·rw[if_neg b,d];unfold dkRun;rw[if_neg λg=>b (g.imp id c.2)];obtain⟨e,f⟩:=BV (gt a) (none,[]);exact⟨by simpa using e,f⟩
theorem Cy:(l:List UInt8)->(oe l).length<=l.length+1/\∀x∈oe l,x.length<=l.length
 | []=>⟨ay _,λx f=>by rw[dN.1 f];exact ay _⟩
 | c::l=>by
  obtain⟨d,b⟩:=Cy l;obtain⟨x,r,e⟩:=EM l;unfold oe;split
  ·refine⟨by simpa using d,λy a=>?_⟩;rcases co.1 a with rfl|a
   ·exact aK _
   ·exact Nat.le_succ_of_le (b y a)
  ·rw[e]at d b ⊢;refine⟨by simp at d ⊢;omega,λy a=>?_⟩;rcases co.1 a with rfl|a
   ·simpa using b x (by simp)
   ·exact Nat.le_succ_of_le (b y (b8 _ a))
theorem tY.set{r g n c k:Nat}{h W:ah}{l:bj}(m:tY r h (af (some ⟨g,0,none⟩) n c) l W)(y:aq):tY r h (af (some ⟨g,0,none⟩) n c) (l.set k y) (W.setCell ⟨g,k,none⟩ (ag y)):=by
 obtain⟨d,f,o,p⟩:=m;obtain⟨B,d⟩:=d;refine⟨⟨by simp,?_⟩,f,o.trans (bM _ _ _ _) λb _ j=>by subst j;exact f b rfl,p⟩;rcases d with⟨e,_⟩|⟨C,A,i,e,q,s,t,u,v,w⟩
 ·cases e
 ·injection e with a x z;injection a with a;injection a with a;subst a z;refine am ⟨g,c,i.setIfInBounds k (ag y),by rw[lC,x],q,?_,by rw[lC];exact t,u,by simpa using v,?_⟩
  ·simp[World.setCell,bQ,s]
  ·rw[lC,Array.toList_setIfInBounds,List.take_set,w,List.map_set]
theorem zB(a:0<=u/\u<=100000):IntKind.i64.wrap u=u:=by
 rw[IntKind.wrap];simp[IntKind.bits,IntKind.signed];omega
theorem N5(s:aq)(a3:s.size<=65536)(w:ah):au 6 #[ag s] w λe w'=>∃g c,∃d:List aq,e=.returned (af (some ⟨g,0,none⟩) d.length c)/\Hid (d.map (·.data.toList)=Js s.data.toList/\ap w w'/\g<w'.heap.size/\∀(j:Nat) x,d[j]?=some x->ai w' g j (ag x)):=by
 obtain⟨aP,hit,an,ao,ar⟩:=bR lS;have J:=av (⟨hit,an,ao,ar⟩:_/\_/\_/\_);clear hit an ao ar;go_enter func6,ntmps6;go_upto_region 3 with fail;generalize ax:World.alloc _ _=aW;have N:Hid (tY w.heap.size w (af (some ⟨w.heap.size,0,none⟩) 1 1) [⟨#[]⟩] aW):=by
  rw[<-ax];exact⟨⟨rfl,.inr ⟨w.heap.size,1, #[ag ⟨#[]⟩],rfl,ay _,aI w _,ay _,by unfold maxLen;omega,rfl,rfl⟩⟩,λb ab=>ak (by simpa [Value.ownBlock]using ab.symm),aM (aT _ _) _,ay _⟩
 clear ax;obtain⟨t,aL⟩:∃t,w.heap.size=t:=⟨_,rfl⟩;rw[aL]at N ⊢;go_loopw [3,4] (λaA T wr=>∃(j g p:Nat)(d:bj),j<=s.size/\T=ae j/\aA=af (some ⟨g,0,none⟩) d.length p/\Hid (d.map (·.data.toList)=oe (s.data.toList.take j)/\tY t w aA d wr)) (λ_ T _=>s.size-(intOf T).toNat)
 case atStart=>exact⟨0,t,1,[⟨#[]⟩],aK _,rfl,rfl,rfl,N.out⟩
 case round=>
 clear N;obtain⟨j,g,p,d,a1,rfl,rfl,i⟩:=hrel;have C:Hid (d.length<=65537/\(∀x∈d,x.size<=65536)/\t<=wr.heap.size):=by
  have k:=Cy (s.data.toList.take j);have e:=Lib.size_eq s;rw[dr]at k;have a2:d.length=(oe (s.data.toList.take j)).length:=by rw[<-i.1,cD]
  refine⟨by omega,λx h=>?_,?_⟩
  ·have u:=k.2 x.data.toList (by rw[<-i.1];exact jA h);have H:=Lib.size_eq x;omega
  ·have u:=i.2.2.2.1.size;have H:=i.2.2.2.2;omega
 have D:Hid (0<d.length):=by
  obtain⟨x,a7,e⟩:=EM (s.data.toList.take j);have:=congrArg List.length i.1;rw[e,cD,bt]at this;show 0<d.length;omega
 by_cases al:j<s.size
 ·have a5:(0:Int)<=(j:Int):=by omega
  have a6:(j:Int)<(s.size:Int):=by omega
  have E:0<d.length:=D.out;have az:(0:Int)<=(d.length:Int)-1:=by omega
  obtain⟨c,ad⟩:∃c,s[j]=c:=⟨_,rfl⟩;have v:Hid (s.data.toList.take (j+1)=s.data.toList.take j++ [c]):=by
   rw[dJ,aS (by rw[<-Lib.size_eq];exact al),<-ad];rfl
  by_cases R:c=10
  ·subst R;have O:Hid (wr.ownsRow t 9 1 (af (some ⟨g,0,none⟩) d.length p) d.length (d.map Value.string)):=i.out.2.1;obtain⟨n,q⟩:∃n,d.length=n:=⟨_,rfl⟩;rw[q]at O az E ⊢;have S:n<=65537:=by have:=C.out.1;omega
   have m:=av q;clear q D;go_wp2_with (at_builtin;(refine wpList_append_lies _ rfl _ _ 23 rfl t 9 aP _ 1 16 underlying23 J.1 J.2.1 J.2.2.1 J.2.2.2 rfl (by decide) _ n _ rfl (O.out.alloc _) ⟨wr.heap.size,0,none⟩ 1 1 [ag ⟨#[]⟩] rfl rfl (lY wr ⟨#[]⟩) (by intro a8 aw;simp at aw;subst aw;rfl) (by decide) (by unfold maxLen;have:=C.out.1;have:=m.out;omega) (by omega) (by have K:=C.out.2.2;simp;omega) (wr.heap.size+1) (by simp) ?_);intro Y W aB am aj aa aO);have F:Hid (tY t w (.slice (some ⟨Y,0,none⟩) (d++ [(⟨#[]⟩:aq)]).length W) (d++ [(⟨#[]⟩:aq)]) aB):=by
    have:=i.out.2.more (aT _ _) m am aj (aa.imp id λr=>by simpa using r);rw[bm,m.out];exact this
   have I:Hid ((d++ [(⟨#[]⟩:aq)]).map (·.data.toList)=oe (s.data.toList.take (j+1))):=by
    show _=_;rw[v.out,Gx,ft,i.out.1];rfl
   clear am aj aa aO O;go_wp2_with fail;go_roundw
   case rel=>exact⟨j+1,Y,W,d++ [(⟨#[]⟩:aq)],by omega,by go_num,by rw[bm,m.out];rfl,I.out,by have:=F.out;rw[bm,m.out]at this;exact this⟩
   case measure=>simp[intOf];omega
  ·have aY:((c.toNat:Int)==10)=false:=by
     have u:=Mj c 10;rw[(gT (a:=c) (b:=10)).2 R]at u;simpa using u
   obtain⟨n,q⟩:∃n,d.length=n:=⟨_,rfl⟩;obtain⟨k,A⟩:∃k,n=k+1:=⟨n-1,by omega⟩;obtain⟨x,h⟩:∃x,d[k]?=some x:=⟨_,aS (by omega)⟩;have a4:=C.out.2.1 x (aR h);have G:=av h;have V:ai wr g k (ag x):=by
    obtain⟨Q,P,e,_,_,z⟩:=i.out.2.cells (nI.1 D.out);injection e with f;injection f with f;injection f with f;subst f;have:=z k x h;rwa [cw]at this
   have aJ:∀o,wr.frozen? ⟨g,o,none⟩=false:=by
    rcases i.out.2.1.2 with⟨e,_⟩|⟨Q,P,aX,e,_,z,_⟩
    ·cases e
    ·injection e with f;injection f with f;injection f with f;subst f;intro o;simp[World.frozen?,z]
   have S:n<=65537:=by have:=C.out.1;omega
   have f:IntKind.i64.wrap ((n:Int)-1)=(k:Int):=by
    subst A;rw[IntKind.wrap];simp[IntKind.bits,IntKind.signed];omega
   have X:IntKind.i64.wrap ((j:Int)+1)=(j:Int)+1:=zB (by omega);have aQ:(0:Int)<=(k:Int):=by omega
   have aU:(k:Int)<(n:Int):=by omega
   have m:=av q;have B:=av A;rw[q];clear q D A h az E;go_wp2_with fail;go_region;have F:Hid (tY t w (af (some ⟨g,0,none⟩) n p) (d.set k (x++s.extract j (j+1))) (wr.setCell ⟨g,k,none⟩ (ag (x++s.extract j (j+1)))).drew):=by
    have:=i.out.2.set (k:=k) (x++s.extract j (j+1));rw[m.out]at this;exact this.later (aE _ _).drew
   have I:Hid ((d.set k (x++s.extract j (j+1))).map (·.data.toList)=oe (s.data.toList.take (j+1))):=by
    obtain⟨aV,aC,u,H⟩:=Cz (s.data.toList.take j) R;have K:=i.out.1.trans u;have Z:aV.length=k:=by
     have:=congrArg List.length K;rw[cD,m.out,B.out]at this;simpa using this.symm
    have aH:x.data.toList=aC:=by
     have:=congrArg (λl=>l[k]?) K;simp only[df,G.out]at this;rw[<-Z]at this;simpa using this
    show _=_;rw[v.out,H,List.map_set,K,<-Z]
    rw[show (x++s.extract j (j+1)).data.toList=aC++ [c] by
     rw[<-aH,<-ad];simp[ByteArray.data_append,ByteArray.data_extract];rw[fo (by rw[<-Lib.size_eq];exact al)]
     rfl]
    simp
   have U:Hid (n=(d.set k (x++s.extract j (j+1))).length):=by
    show _=_;rw[lC,m.out]
   generalize World.drew _=aB at F ⊢;generalize d.set k (x++s.extract j (j+1))=aF at F I U;clear V aJ S G;go_wp2_with fail;go_roundw
   case rel=>exact⟨j+1,g,p,aF,by omega,by go_num,by rw[<-U.out],I.out,F.out⟩
   case measure=>simp[intOf];omega
 ·obtain rfl:j=s.size:=by omega
  have v:Hid (d.map (·.data.toList)=oe s.data.toList):=by
   have:=i.out.1;rw[bF (by rw[<-Lib.size_eq];exact ay _)]at this;exact this
  obtain⟨n,q⟩:∃n,d.length=n:=⟨_,rfl⟩;have E:=D.out;obtain⟨k,A⟩:∃k,n=k+1:=⟨n-1,by omega⟩;obtain⟨x,h⟩:∃x,d[k]?=some x:=⟨_,aS (by omega)⟩;have V:ai wr g k (ag x):=by
   obtain⟨Q,P,e,_,_,z⟩:=i.out.2.cells (nI.1 E);injection e with f;injection f with f;injection f with f;subst f;have:=z k x h;rwa [cw]at this
  have y:Hid ((ap w wr/\g<wr.heap.size)/\(d.length<=p)/\∀(j:Nat) x,d[j]?=some x->ai wr g j (ag x)):=by
   obtain⟨Q,P,e,u,H,z⟩:=i.out.2.cells (nI.1 E);injection e with f _ X;injection f with f;injection f with f;subst f X;refine⟨⟨i.out.2.2.2.1.below (ay _) λb ab r=>by omega,u⟩,H,λj x h=>?_⟩;have:=z j x h;rwa [cw]at this
  have S:n<=65537:=by have:=C.out.1;omega
  have f:IntKind.i64.wrap ((n:Int)-1)=(k:Int):=by
   subst A;rw[IntKind.wrap];simp[IntKind.bits,IntKind.signed];omega
  have aQ:(0:Int)<=(k:Int):=by omega
  have aU:(k:Int)<(n:Int):=by omega
  have aZ:(k:Int)<=(p:Int):=by have:=y.out.2.1;omega
  have m:=av q;have B:=av A;have G:=av h;rw[q];clear q D A h E;by_cases L:x=⟨#[]⟩
  ·subst L;go_wp2_with fail
   go_ret
   have M:(oe s.data.toList).getLast? =some []:=by
    rw[<-v.out,List.getLast?_eq_getElem?,cD,m.out,B.out,ek,df,G.out];rfl
   have aN:(d.take k).length=k:=by rw[dr,m.out,B.out];omega
   refine⟨g,p,d.take k,congrArg (λr=>Ending.returned (af (some ⟨g,0,none⟩) r p)) aN.symm,?_,y.out.1.1,y.out.1.2,λj x h=>y.out.2.2 j x ?_⟩
   ·unfold Js;rw[if_pos M,<-v.out,List.dropLast_eq_take,cD,m.out,B.out,ek,List.map_take]
   ·rw[jx]at h;split at h
    ·exact h
    ·cases h
  ·have a0:(x.toList==[])=false:=dK.2 λr=>L (kH r);have M:¬(oe s.data.toList).getLast? =some []:=by
    rw[<-v.out,List.getLast?_eq_getElem?,cD,m.out,B.out,ek,df,G.out];exact λr=>L (kH (by rw[Lib.toList_data];exact aG r))
   have aD:=av M;clear M L;go_wp2_with fail
   go_ret
   refine⟨g,p,d,congrArg (λr=>Ending.returned (af (some ⟨g,0,none⟩) r p)) m.out.symm,?_,y.out.1.1,y.out.1.2,y.out.2.2⟩;unfold Js;rw[if_neg aD.out];exact v.out
def P4:aq:=⟨#[97,108,105,118,101]⟩
theorem QK:Lib.itoa 4=[52]:=by simp[Lib.itoa,Lib.decDigits]
theorem NQ{a b:Nat}{ps:bj}{r:Int×Tc}(c:iC (kw v)=some (a,b))(d:dp v a b=ps)(e:(ps.length=1+a+b/\ps.getD 0 .empty=kw v)/\∀i,i<a->(qR ps i).isSome=true)(f:(if b=0 then (0,tT)else rdT (ps.getD (1+a) .empty))=r)(g:kw v=wd):dkRead v=(r.1,wd,if 0<a then (qR ps 0).getD 0 else 0,if 1<a then (qR ps 1).getD 0 else 0,r.2):=by
 unfold dkRead;rw[c];simp only;rw[d,if_pos e,f,g]
theorem OU{D:qt×Int×List UInt8}(c:dkRead v=(0,wd,a,b,t))(d:kR o wd a b t=D):dkAns o v=(D.1,if D.2.1=0 then D.2.2 else iS D.2.1):=by
 unfold dkAns;simp only[c,cB,d]
theorem QL:dkRead P4=(0,gz,0,0,tT):=(NQ (a:=0) (b:=0) (ps:=[gz]) (by kernel_rfl) (by kernel_rfl) ⟨⟨rfl,by kernel_rfl⟩,λi c=>absurd c (Nat.not_lt_zero i)⟩ (if_pos rfl) (wd:=gz) (by kernel_rfl)).trans (by kernel_rfl)
def Ql:aq:=⟨#[35,10,10,97,108,105,118,101]⟩
def Qk:List UInt8:=[101,114,114,111,114,32,52,10]
theorem O1:dkRun Ql=Qk:=by
 have f:gt Ql=[⟨#[35]⟩,⟨#[]⟩,P4]:=by kernel_rfl
 have a:mh ⟨#[35]⟩=false/\mh ⟨#[]⟩=false/\mh P4=true:=⟨by kernel_rfl,by kernel_rfl,by kernel_rfl⟩;have e:dkAns none P4=(none,iS 4):=OU QL (D:=(none,4,[])) rfl;unfold dkRun;rw[f,if_neg (by decide)];have b:dkStep (none,[]) ⟨#[35]⟩=(none,[]):=if_neg (by rw[a.1];decide);have c:dkStep (none,[]) ⟨#[]⟩=(none,[]):=if_neg (by rw[a.2.1];decide);have d:dkStep (none,[]) P4=(none,[]++iS 4++ [10]):=by
  unfold dkStep;rw[if_pos a.2.2,e]
 simp only[gf,List.foldl_nil];rw[b,c,d];simp[iS,QK,Qk]
theorem BO(g:aq)(M:Cx B w)(aj:B<=w.heap.size):au 4 #[ag g] w λe w'=>e=.returned (.bool true)/\ap w w':=by
 have R:Hid (∀z q,ap w q->au 5 #[ag z] q λe w'=>e=.returned (ag ⟨(dkRun z).toArray⟩)/\Hid (ap q w'/\(dkRun z).length<=5000000000000)):=λz q al=>KF z (M.on (al.mono aj)) (aD aj al.size);have aa:Hid (dkRun Ql=Qk):=O1;have o:=av (Fi g);clear M;go_enter func4,ntmps4;go_wp2_with fail;refine(R.out Ql w (aE _ _)).mono ?_;rw[aa.out];rintro e aM ⟨rfl,an⟩;have C:=av an.out.1;clear an;unfold Qk;go_wp2_with fail;refine(R.out g aM C).mono ?_;rintro e aN ⟨rfl,N⟩;have D:=av (C.out.trans (N.out.1.mono C.out.size));have J:=av N.out.2;clear R aa N C;by_cases ao:(65536:Int)<(g.size:Int)
 ·have e:dkRun g=iS 2++ [10]:=by
    have:=o.out;rw[if_pos (ak (by omega))]at this;exact this
  have v:(⟨(iS 2++ [10]).toArray⟩:aq)=⟨#[101,114,114,111,114,32,50,10]⟩:=by
   have Y:Lib.itoa 2=[50]:=by simp[Lib.itoa,Lib.decDigits]
   unfold iS;rw[Y];rfl
  rw[e,v];clear o J e v;go_wp2_with fail
  go_ret
  exact⟨rfl,D⟩
 obtain⟨a,j⟩:∃a:aq,⟨(dkRun g).toArray⟩=a:=⟨_,rfl⟩;have u:=av j;rw[j];clear j;have I:=av (λq=>N5 g (by omega) q);go_wp2_with fail;refine(I.out aN).mono ?_;rintro e aO ⟨aU,c,K,rfl,O⟩;have G:=av O.out.1;have E:=av (D.out.trans (O.out.2.1.mono D.out.size));clear O D;by_cases aF:(200:Int)<(K.length:Int)
 ·have e:dkRun g=iS 2++ [10]:=by
    have i:=o.out;have x:K.length=(Js g.data.toList).length:=by rw[<-G.out,cD]
    rw[if_pos (am (by omega))]at i;exact i
  have v:a=⟨#[101,114,114,111,114,32,50,10]⟩:=by
   have Y:Lib.itoa 2=[50]:=by simp[Lib.itoa,Lib.decDigits]
   rw[<-u.out,e];unfold iS;rw[Y];rfl
  rw[v];clear o J u e v I;go_wp2_with fail
  go_ret
  exact⟨rfl,E⟩
 have P:Hid (((Js g.data.toList).filter Qo).length<=a.data.toList.count 10/\(a=⟨#[]⟩\/∃n,a.data.toList=n++ [10])/\a.size<=5000000000000):=by
  have i:=o.out;have x:K.length=(Js g.data.toList).length:=by rw[<-G.out,cD]
  rw[if_neg (by omega)]at i;have y:a.data.toList=dkRun g:=by rw[<-u.out]
  refine⟨by rw[y];exact i.1,?_,?_⟩
  ·rcases i.2 with t|⟨n,t⟩
   ·exact ak (by rw[<-u.out,t])
   ·exact am ⟨n,by rw[y,t]⟩
  ·rw[Lib.size_eq,y];exact J.out
 have az:=av ao;clear o J u;go_wp2_with fail;refine(I.out aO).mono ?_;rintro e aP ⟨aV,aR,h,rfl,A⟩;have Q:=av A.out.1;have ab:=av (E.out.trans (A.out.2.1.mono E.out.size));have ad:=av A.out.2.2.2;have aB:h.length=K.length:=by
  have:=congrArg List.length (Q.out.trans G.out.symm);simpa using this
 have aG:h.length<=200:=by omega
 clear A I E az ao aF aB G;go_wp2_with fail;go_loopw [4,6,25] (λaL _ X wr=>∃(d f:Nat),d<=h.length/\X=ae d/\aL=ae f/\wr=aP/\Hid (f=((h.take d).filter mh).length)) (λ_ _ X _=>h.length-(intOf X).toNat)
 case atStart=>exact⟨0,0,aK _,rfl,rfl,rfl,rfl⟩
 case round=>
 obtain⟨d,f,aC,rfl,rfl,rfl,H⟩:=hrel;have ai:Hid (f<=200):=by
  have i:=List.length_filter_le mh (h.take d);have x:=H.out;rw[dr]at i;show f<=200;omega
 by_cases T:d<h.length
 ·have aH:(0:Int)<=(d:Int):=by omega
  have aI:(d:Int)<(h.length:Int):=by omega
  obtain⟨m,V⟩:∃m,h[d]?=some m:=⟨_,aS T⟩;have aQ:=ad.out d m V;have aA:IntKind.i64.wrap ((f:Int)+1)=(f:Int)+1:=zB (by have:=ai.out;omega);have p:Hid (((h.take (d+1)).filter mh).length=f+if mh m=true then 1 else 0):=by
   show _=_;rw[dJ,V,List.filter_append,bm,<-H.out];congr 1;cases M:mh m<;>simp[M]
  clear V;by_cases W:m=⟨#[]⟩
  ·subst W;go_wp2_with fail;go_roundw
   case rel=>exact⟨d+1,f,by omega,by go_num,rfl,trivial,p.out.symm⟩
   case measure=>simp[intOf];omega
  ·obtain⟨b,l,rfl⟩:∃b l,m=⟨⟨b::l⟩⟩:=by
     rcases m with⟨⟨l⟩⟩;cases l with
     | nil=>exact absurd rfl W
     | cons b l=>exact⟨b,l,rfl⟩
   have aw:(⟨⟨b::l⟩⟩:aq).toList.isEmpty=false:=by rw[Lib.toList_data];rfl
   have a0:0<(⟨⟨b::l⟩⟩:aq).size:=Nat.zero_lt_succ _;have Z:¬(⟨⟨b::l⟩⟩:aq).toList=[]:=by rw[Lib.toList_data];simp
   have ax:(⟨⟨b::l⟩⟩:aq)[0]=b:=rfl;have s:=Mj b 35;have ay:mh ⟨⟨b::l⟩⟩=(b !=35):=rfl;rw[ay]at p;clear ay W;cases hch:(b !=35)
   ·rw[hch]at s p;have aJ:((b.toNat:Int) !=35)=false:=s;clear s hch;go_wp2_with fail;go_roundw
    case rel=>exact⟨d+1,f,by omega,by go_num,rfl,trivial,p.out.symm⟩
    case measure=>simp[intOf];omega
   ·rw[hch]at s p;have aJ:((b.toNat:Int) !=35)=true:=s;clear s hch;go_wp2_with fail;go_roundw
    case rel=>exact⟨d+1,f+1,by omega,by go_num,by go_num,trivial,p.out.symm⟩
    case measure=>simp[intOf];omega
 ·obtain rfl:d=h.length:=by omega
  have af:Hid ((f:Int)<=(Lib.countByte a.data.toList 10:Nat)):=by
   have i:=P.out.1;have x:=H.out;rw[List.take_length,yJ,Q.out]at x;show (f:Int)<=((a.data.toList.count 10:Nat):Int);omega
  have kc:((Lib.countByte a.data.toList 10:Nat):Int)>=(f:Int):=af.out;have F:=av P.out.2;clear ad H P af Q ai aG aC T;go_wp2_with fail;refine(Tryz.strings_Count_one a 10 wr).mono ?_;rintro e a1 ⟨rfl,rfl⟩;generalize ((Lib.countByte a.data.toList 10:Nat):Int)=aT at kc ⊢;rcases a with⟨⟨r⟩⟩;cases r with
  | nil=>
   go_wp2_with fail
   go_ret
   exact⟨rfl,ab⟩
  | cons L r=>
   have aw:(⟨⟨L::r⟩⟩:aq).toList.isEmpty=false:=by rw[Lib.toList_data];rfl
   have Z:¬(⟨⟨L::r⟩⟩:aq).toList=[]:=by rw[Lib.toList_data];simp
   have ax:((⟨⟨L::r⟩⟩:aq).toList==[])=false:=dK.2 Z;obtain⟨a,j⟩:∃a:aq,⟨⟨L::r⟩⟩=a:=⟨_,rfl⟩;rw[j]at aw Z ax F ⊢;have aY:0<a.size:=by rw[<-j];exact Nat.zero_lt_succ _
   obtain⟨n,U⟩:∃n,a.data.toList=n++ [10]:=F.out.1.resolve_left λt=>by rw[<-j]at t;cases t
   clear j;obtain⟨k,S⟩:∃k,a.size=k+1:=⟨a.size-1,by omega⟩;have aX:=F.out.2;have ar:n.length=k:=by
    have:=congrArg List.length U;rw[<-Lib.size_eq,S]at this;simpa using this.symm
   have T:k<a.size:=by omega
   have aW:a[k]=10:=by
    have i:a.data.toList[k]?=some 10:=by rw[U,<-ar];simp
    obtain⟨x,y⟩:=aZ.1 i;exact y
   have aA:IntKind.i64.wrap ((a.size:Int)-1)=(k:Int):=by
    rw[S,IntKind.wrap];simp[IntKind.bits,IntKind.signed];omega
   have aH:(0:Int)<=(k:Int):=by omega
   have aI:(k:Int)<(a.size:Int):=by omega
   clear S U ar F;go_wp2_with fail
   go_ret
   exact⟨rfl,ab⟩
end Go.Proofs.YthjclakhibnamaaGreatDoor

/- Proved here: plain facts and contracts. No condition but what each names. -/
import Derived.Test.YthjclakhibnamaaGreatDoorD12
import Derived.Test.YthjclakhibnamaaGreatDoorD13
import Derived.Shelf.SortM.Plain
import Derived.Shelf.SortM.SortNone
import Derived.Lib.SplitLaws
namespace Go.Proofs.YthjclakhibnamaaGreatDoor
open Go.RowKit Go.Maps Go.Sort Go.Shelf Go.Proofs.Tryz
open Go.RowKit
set_option maxRecDepth 100000
set_option maxHeartbeats 4000000
variable{u y a b room:Int}{P:List (Bh 13)}{l:List (aq×Int×Int×Tc)}{h z B g i j k m n q xc:Nat}{s:Sy}{t:Tc}{c:UInt8}{M:aX}{e W w:ah}{v nm wd x:aq}{xa:ay}{L:bm}{d:gY}{p:mO}{o:qq}{f:qq×List UInt8}
theorem Nr{k:Type}{f:k->Value}{w:World}{l:List (Int×k)}(n:xy f w h l)(r:∀p∈l,(Lit.int .i64 p.1).wf=true)(z:l.length<=maxLen):∃D:DataW Value,w.ownsMap Tryz.prog 3 sI h l.length D/\(intKeys D).Perm (l.map (·.1))/\Maps.size D=l.length:=by
 obtain⟨es,m,o,e,q⟩:=n;have j:∀a∈es.toList,∃b,a.key=.int .i64 b/\WideElems.rd Tryz.prog 3 sI a=some (.int .i64 b,.held a.val):=λa d=>by
  have u:(a.key,a.val)∈l.map λp=>(Value.int .i64 p.1,f p.2):=e▸cg.2 ⟨a,d,rfl⟩;obtain⟨p,s,c⟩:=cg.1 u;have g:a.key=.int .i64 p.1:=(congrArg Prod.fst c).symm;refine⟨p.1,g,?_⟩;unfold WideElems.rd;rw[g,keyOf_int_mk underlying3 (r p s)];rfl
 have t:es.size=l.length:=by
  have:=congrArg List.length e;simpa using this
 refine⟨_,⟨es,m,o,⟨by omega,q,λa d=>?_⟩,by omega,rfl⟩,?_,?_⟩
 ·obtain⟨b,_,c⟩:=j a d;exact⟨_,c⟩
 ·have c:es.toList.map (λa=>Go.intOf (WideElems.rg Tryz.prog 3 sI a).1)=l.map (·.1):=by
    have i:=congrArg (List.map λy:Value×Value=>match y.1 with| .int _ b=>b|_=>0) e;rw[jA,jA]at i;refine(lF λa d=>?_).trans (i.trans (lF λp _=>rfl));obtain⟨b,v,x⟩:=j a d;rw[WideElems.rg_of x];simp only[Function.comp,v,Go.intOf]
  rw[<-c];have:=(WideShapes.sorted_perm (es.toList.map (WideElems.rg Tryz.prog 3 sI))).map λp=>Go.intOf p.1;rw[jA]at this;exact this
 ·rw[<-t];simpa [Maps.size]using (WideShapes.sorted_perm (es.toList.map (WideElems.rg Tryz.prog 3 (sI)))).length_eq
theorem Px(m:Nat):AnyZI.SortsIn Tryz.prog Tryz.sortedA_ren Fence.wide m:=
 ⟨λb off cap g a c d e=>callsIn_wide.2 (AnyM.slices_Sort_int Tryz.sortA b off cap g a c d e),λf cap a=>callsIn_wide.2 (AnyM.slices_Sort_int_none Tryz.sortA f cap a)⟩
theorem vt(g:Nat)(f:Option Nat)(w:World)(S:List Int->Prop)(N:Nat)(m:w.cell? ⟨g,3,none⟩=some (.map f))(o:N<=1000)(l:SeqGives Fence.wide 2 Tryz.prog 139 #[.pointer (some ⟨w.heap.size,0,none⟩)] encZ S N (w.alloc (.cells #[.map f] 131))):Calls Tryz.prog 64 #[.pointer (some ⟨g,0,none⟩)] w λe w'=>∃v c,e=.returned v/\S c/\iT w.heap.size v (c.mergeSort leI) w'/\Below w.heap.size w w':=by
 refine(callsIn_wide (n:=6)).1 ?_;have h:∀b a,CallsIn Fence.wide 5 Tryz.prog 98 #[.map b] a λe w'=>e=.returned (.func (.func 139) #[] #[.pointer (some ⟨a.heap.size,0,none⟩)])/\w'=a.alloc (.cells #[.map b] 131):=λb a=>AnyZI.keys_in Tryz.keysA Fence.wide 5 trivial rfl b a;have d:=AnyZI.sorted_in Tryz.sortedA Fence.wide 5 trivial trivial trivial trivial rfl (by omega) (Px _) (enters_of func138 (by kernel_rfl) rfl) 139 #[.pointer (some ⟨w.heap.size,0,none⟩)] trivial (enters_of func139 (by kernel_rfl) rfl) _ _ (by unfold maxLen;omega) (by omega) _ l;change CallsIn _ _ Tryz.prog 97 _ _ _ at d;have p:Fence.wide.fn 98:=trivial;have q:Fence.wide.fn 97:=trivial;refine callsIn_of_wp func64 rfl trivial ?_ rfl;simp only[ntmps64,fN,bv,eW,Nat.reduceAdd,Nat.reduceSub,Array.replicate_succ,Array.replicate_zero,List.push_toArray,List.append_toArray,nL,fL]
 gi_wp2_with (first
  | (gi_at_call 98;refine(h _ _).mono ?_;rintro e w' ⟨rfl,rfl⟩)
  | (gi_at_call 97;refine d.mono ?_;rintro e w' ⟨v,c,rfl,i,k,r,j⟩))
 go_ret
 refine⟨v,c,rfl,i,?_,((aH _ w).alloc (aA _) _).trans (j.mono (by simp))⟩;have:=ownsRow_base_a k (by simp:w.heap.size<=_);unfold iT;rw[List.length_mergeSort];exact this
section
variable {p:mO} {s:Sy} {d:gY} {w:World}
theorem bG.aliveL(i:bG p s d w):Calls Tryz.prog 64 #[.pointer (some ⟨p.b,0,none⟩)] w λe w'=>∃v q,e=.returned v/\q.Perm (s.ps.map (·.1))/\q=(s.ps.map (·.1)).mergeSort leI/\iT w.heap.size v q w'/\Below w.heap.size w w':=by
 obtain⟨c,C,u,D,E,F⟩:=i.keys;have G:d.l.length=s.ps.length:=by
  have:=congrArg List.length c;simpa using this
 have g:=i.cells.2.2.2;have o:Below w.heap.size w (w.alloc (.cells #[.map d.po] 131)):=(aH _ w).alloc (aA _) _;rcases i.pm with⟨n,h⟩|⟨k,n,_,_,h⟩
 ·rw[n]at g o;refine(vt p.b none w (λa=>a=[]) 0 g (by omega) (AnyZI.keys_gives_nil (ρ:=Tryz.keysA_ren) {Tryz.keysA with} Fence.wide _ trivial rfl w.heap.size _ (by simp) (by simp))).mono ?_;rintro e w' ⟨v,a,rfl,rfl,f,j⟩;exact⟨v,[],rfl,by rw[<-c,h];exact List.Perm.refl _,by rw[<-c,h];simp,by simpa using f,j⟩
 ·rw[n]at g o;have j:=i.low k (by omega)
  obtain⟨m,z,A,H⟩:=Nr (h.kept (o.block k (by omega))) (λt y=>by
   have:t.1∈s.ps.map (·.1):=c▸cg.2 ⟨t,y,rfl⟩;obtain⟨B,f,e⟩:=cg.1 this;have:=u B f;simp[Lit.wf,IntKind.min,IntKind.max,IntKind.signed,IntKind.bits]
   omega) (by unfold maxLen;omega)
  refine(vt p.b (some k) w (λa=>a.Perm (intKeys m)) (Maps.size m) g (by omega) (AnyZI.keys_gives (ρ:=Tryz.keysA_ren) {Tryz.keysA with} Fence.wide _ trivial rfl (by omega) w.heap.size k _ m _ (by simp) (by simp) z)).mono ?_;rintro e w' ⟨v,a,rfl,x,f,j⟩;have r:=x.trans (A.trans (List.Perm.of_eq c));exact⟨v,_,rfl,(List.mergeSort_perm a leI).trans r,mergeSort_of_perm_i r,f,j⟩
end
theorem Dn(g:Nat)(j:dd)(a:Int)(w:ah)(q:g<w.heap.size)(l:Hid (ai w g 3 (.map j)))(m:Hid (∀W,ap w W->(Instr.lookup 131 (.map j) (ae a) true).run Tryz.prog W=.ok (ax #[.pointer none,.bool false]) W)):au 61 #[aF g,ae a] w λe w'=>e=aw (ax #[ag ⟨#[]⟩,.agg #[ae 0,ae 0,ag ⟨#[]⟩,af none 0 0],af none 0 0,ae 4])/\ap w w':=by
 go_enter func61,ntmps61;go_upto_region 1 with fail;generalize i:w.alloc _=c;have HB:Hid (ap w c):=by
  rw[<-i];exact aW _ _
 have d:c.heap[w.heap.size]?=some (.cells #[ae 0,ae 0,ag ⟨#[]⟩,af none 0 0] 54):=by
  rw[<-i];exact aL _ _
 clear i;have s:=m.out _ HB.out;have r:ai c g 3 (.map j):=(HB.out.cell (p:=⟨g,3,none⟩) q).trans l.out;clear m l;have k:Hid (ap w (dl c w.heap.size 0 (ae 0) (ae 0) (ag ⟨#[]⟩) (af none 0 0))):=(dW (o:=0) (v0:=ae 0) (v1:=ae 0) (v2:=ag ⟨#[]⟩) (v3:=af none 0 0) HB.out (aA _));have f:=av (tE d (ae 0) (ae 0) (ag ⟨#[]⟩) (af none 0 0));obtain⟨b,h⟩:∃b,b=w.heap.size:=⟨_,rfl⟩;rw[<-h]at d f k ⊢;have n:=av h;clear h HB;have t:ai c b 0 (ae 0):=aj d 0;have u:ai c b 1 (ae 0):=aj d 1;have x:ai c b 2 (ag ⟨#[]⟩):=aj d 2;have y:ai c b 3 (af none 0 0):=aj d 3;have f0:c.frozen? ⟨b,0,none⟩=false:=by simp[World.frozen?,d]
 have f1:c.frozen? ⟨b,1,none⟩=false:=by simp[World.frozen?,d]
 have f2:c.frozen? ⟨b,2,none⟩=false:=by simp[World.frozen?,d]
 have f3:c.frozen? ⟨b,3,none⟩=false:=by simp[World.frozen?,d]
 clear d;go_wp2_with fail;have d0:(dl c b 0 (ae 0) (ae 0) (ag ⟨#[]⟩) (af none 0 0)).cell? ⟨b,0,none⟩=some (ae 0):=aj f.out 0;have d1:(dl c b 0 (ae 0) (ae 0) (ag ⟨#[]⟩) (af none 0 0)).cell? ⟨b,1,none⟩=some (ae 0):=aj f.out 1;have d2:(dl c b 0 (ae 0) (ae 0) (ag ⟨#[]⟩) (af none 0 0)).cell? ⟨b,2,none⟩=some (ag ⟨#[]⟩):=aj f.out 2;have d3:(dl c b 0 (ae 0) (ae 0) (ag ⟨#[]⟩) (af none 0 0)).cell? ⟨b,3,none⟩=some (af none 0 0):=aj f.out 3;simp only[dl,cC]at d0 d1 d2 d3;exact aE (v:=ax #[ag ⟨#[]⟩,.agg #[ae 0,ae 0,ag ⟨#[]⟩,af none 0 0],af none 0 0,ae 4]) (by simp[results,results61,go_sem,d0,d1,d2,d3]) rfl ⟨rfl,n.out▸k.out⟩
theorem bG.procN(c:bG p s d w)(g:s.get a=none):au 61 #[aF p.b,ae a] w λe w'=>e=aw (ax #[ag ⟨#[]⟩,.agg #[ae 0,ae 0,ag ⟨#[]⟩,af none 0 0],af none 0 0,ae 4])/\ap w w':=by
 refine Dn p.b d.po a w c.lo.2 c.cells.2.2.2 λi f=>?_;have h:dq d.l a=none:=by
  have:=c.alive a;rw[g]at this;simpa using this
 have:=(c.later f).look a true;rw[if_pos rfl,h]at this;exact this
theorem qQ{f:FuncId}{a:Array az}{c:Prop}(b:au f a w λ_ _=>c):c:=by
 obtain⟨_,_,_,b,_⟩:=b [];exact b
theorem xb{x:Tm n}(a:bL n x=0):(aI n x).length<=2097152/\wt n x<=2097152:=by
 have d:=xw n x λb c=>vZ (mW n x a b c);have e:=jQ a;omega
theorem A3{x:Tm n}{y:Tm m}(a:aK n x m y=true)(b:bL m y=0):vi n x=vi m y:=by
 unfold vi;rw[if_pos b,if_pos ((bP a).trans b),rz _ _ _ _ a]
theorem bG.soundD(e:bG p s d w):∀a nm cs c,s.get a=some (nm,cs,c)->(bL 13 cs=0/\aY 13 cs=true)/\∀t∈c,bL 13 t=0/\aY 13 t=true:=λa nm cs c g=>by
 obtain⟨b,k⟩:∃b,dq d.l a=some b:=by
  have:=e.alive a;rw[g]at this;exact gn.1 this
 obtain⟨q,i,h,f,j,_⟩:=e.ps a b k;rw[g]at f;obtain⟨rfl,rfl,rfl⟩:nm=q/\cs=i/\c=h:=by simpa using f
 obtain⟨m,n,o,_⟩:=j.ok;exact⟨⟨m,n⟩,o⟩
theorem bG.evl(b:bG p s d w)(j:nR s):∀e∈s.evs,(gJ e).length<=70000000:=λe f=>by
 have c:=j.2 e f;rw[<-b.evt.1]at f;obtain⟨a,i,rfl⟩:=cg.1 f;obtain⟨⟨k,_⟩,h⟩:=b.evt.2 a i;refine aG (cT (congrArg List.length (yq (e:=a) h))) (Er k h c.1 c.2.1 ?_);rcases c.2.2 with g|g
 ·exact g
 ·have:=b.keys;have l:0<=a.2.2.1/\a.2.2.1<=s.last:=g;exact ei (by omega)
def P9(l:List (aq×Int×Int×Tc))(j:Nat):aq:=⟨((l[j]?.map gJ).getD []).toArray⟩
theorem En{e:aq×Int×Int×Tc}(a:l[j]?=some e):P9 l j=⟨(gJ e).toArray⟩:=by
 unfold P9;rw[a];rfl
theorem Gp(l:List (aq×Int×Int×Tc)):tu (P9 l) l.length=tn l:=by
 unfold tu tn;refine congrArg List.flatten (nH λb=>?_);by_cases a:b<l.length
 ·simp[a,P9]
 ·simp[a]
theorem Eo(b:∀e∈l,(gJ e).length<=70000000):(tn l).length<=l.length*70000001:=by
 rw[<-Gp];refine Co _ _ λc a=>?_;rw[En (aV a)];show (gJ l[c]).toArray.size<=_;simpa using b _ (gi a)
theorem bG.evcell(e:bG p s d w):∃i j,ai w p.b 6 (af i s.evs.length j):=by
 have g:d.es.length=s.evs.length:=by rw[<-e.evt.1];simp
 have f:=aj e.box 6;rcases e.evr.1.2 with⟨a,h⟩|⟨l,c,k,a,_⟩
 ·exact⟨none,0,f.trans (congrArg some (a.trans (by rw[<-g,h])))⟩
 ·exact⟨_,c,f.trans (congrArg some (a.trans (by rw[<-g])))⟩
theorem ti(T:jM h q i (some (P,room,s)) M w)(bl:i<=200)(al:dp a)(am:dp b)(x:Tm (m+1))(t:Tc)(az:In w.heap.size w (m+1) x/\cG (λb=>¬M b) (m+1) x)(aP:(aI (m+1) x).length<=2097152)(a3:s.do 12 P room u a b (m+1) x=s.do 12 P room u a b 13 t):au 38 #[aF q,.agg #[ae u,ae a,ae b,ae x.1.1,ae x.1.2.1,ag x.1.2.2,af x.2.1.1 x.2.2.length x.2.1.2]] w λe w'=>e=aw (ax #[ag ⟨(oG P room s u a b t).2.2.toArray⟩,ae (oG P room s u a b t).2.1])/\Hid ((oG P room s u a b t).2.2.length<=20000000000/\jN h q i (oG P room s u a b t).1 M w w'):=by
 obtain⟨v,aJ,aa,C,O,aC,a4,ab⟩:=T.2.2;have a2:q<w.heap.size:=(aS.1 aa).1;have aR:ai w q 0 (aF v.b):=aj aa 0;have aq:=C.keys.2.2.2;have bn:aJ.es.length=s.evs.length:=by rw[<-C.evt.1];simp
 obtain⟨c,Z⟩:∃c,s.do 12 P room u a b 13 t=c:=⟨_,rfl⟩;have Y:s.do v.n v.prog v.room u a b (m+1) x=c:=by
  rw[O.1,M8 O.2.1 C.pg.2.2.2.1 O.2.2 C.soundD ⟨aq.1,aq.2.1⟩,a3,Z]
 have a1:s.more c.1:=by rw[<-Z];exact NB _ _ _ _ _ _ _ _ _
 obtain⟨f,L⟩:=a1;have an:c.1.evs.drop s.evs.length=f:=by rw[L,List.drop_left]
 have ay:∀d,ap w d->au 58 #[aF v.b,.agg #[ae u,ae a,ae b,ae x.1.1,ae x.1.2.1,ag x.1.2.2,af x.2.1.1 x.2.2.length x.2.1.2]] d λe w'=>e=aw (ae c.2)/\Hid (bH (λb=>b<w.heap.size/\b≠q) d w'/\∃j,bG v c.1 j w'/\(j.es.length=s.evs.length+f.length/\f.length<=201)/\(∀e∈f,(gJ e).length<=70000000)/\jN h q i (some (P,room,c.1)) M w w'):=λd k=>by
  have K:nR c.1:=by rw[<-Y];exact aC.2.do (gQ C.pg.2.2.2.1).1 u al am _ _
  have aQ:pC c.1:=by rw[<-Y];exact aC.1.do u a b _ _
  refine((C.later k).do ⟨al,am⟩ x ⟨(az.1.below k).mono k.size,az.2.mono λb g aE=>g (ab b (by omega))⟩ aP (by omega) (by omega) (by omega) (by omega)).mono ?_;rintro e w' ⟨bq,rfl,y⟩;obtain⟨I,j,r,o⟩:=y.out;rw[Y]at I r;subst I;have a0:j.es.length=s.evs.length+f.length:=by
   have:=congrArg List.length r.evt.1;rw[cF,L,br]at this;exact this
  refine⟨rfl,o.1.mono λb _ g=>?_,j,r,⟨a0,by have:=o.2.2.2.1;omega⟩,λe B=>r.evl K e (by rw[L];exact List.mem_append_right _ B),T.up k aa O a4 ab r o (aA _) (aA _) ⟨aQ,K⟩⟩;have aB:=T.2.1 b (ab b g);exact⟨aB.2,by omega⟩
 obtain⟨bm,ar⟩:f.length<=201/\∀e∈f,(gJ e).length<=70000000:=qQ ((ay w (aH _ _)).mono λe w' g=>by
  obtain⟨_,_,j,_,aE,a8,_⟩:=g
  exact⟨aE.2,a8⟩)
 have bp:=Eo ar;have I:oG P room s u a b t=(some (P,room,c.1),c.2,if c.2=0 then tn f++Oa else []):=by
  unfold oG;simp only[Z,an]
 rw[I];refine(KU q v.b u a b x.1.1 x.1.2.1 x.1.2.2 x.2.1.1 x.2.2.length x.2.1.2 s.evs.length c.2 f.length (P9 f) w (λd=>∃j,bG v c.1 j d/\(j.es.length=s.evs.length+f.length/\f.length<=201)/\jN h q i (some (P,room,c.1)) M w d) (λG _ H d=>∃z Q,z.map Nf=f/\Bl Q G z d/\(H<Q/\H<d.heap.size)/\(Cx h d/\h<=H)/\nR c.1/\c.1.last<=90) a2 aR (by omega) (λF W=>?_) (λd k=>?_) (λd k=>(ay d k).mono ?_) (λbj d bb U k av=>?_) λG ad F a9 H l bs d W aW aO=>?_).mono ?_
 ·rw[En (aV W)];show (gJ f[F]).toArray.size<=_;simpa using ar _ (gi W)
 ·obtain⟨a6,a7,aG⟩:=(C.later k).evcell;refine(Aq v.b a6 _ a7 d aG).mono ?_;rintro e w' ⟨rfl,rfl⟩;exact⟨rfl,aH _ _⟩
 ·rintro e w' ⟨rfl,y⟩;obtain⟨r,j,o,J,_,E⟩:=y.out;exact⟨rfl,r,j,o,J,E⟩
 ·obtain⟨j,o,⟨J,_⟩,ba,E,_⟩:=U;have K:nR c.1:=by
   obtain⟨_,_,_,_,_,g,_⟩:=E.2.2;exact g.2
  refine((o.later k).eventsF (by omega) s.evs.length f.length J).mono ?_;rintro e w' ⟨G,ad,rfl,y⟩;obtain⟨R,_,z,be,D,S⟩:=y.out;rw[an]at D;refine⟨G,ad,rfl,R,z,_,D,S,⟨av,bi av R.size⟩,⟨(E.1.1.on ((k.trans (R.mono k.size)).mono ?_)),?_⟩,K,o.keys.2.2.2.2.1⟩
  all_goals
   have:=E.1.2;omega
 ·obtain⟨z,Q,D,S,⟨bf,bd⟩,⟨aL,bg⟩,aM,bh⟩:=aW;obtain⟨_,_,V⟩:=aO;have ak:=S.kee V λb r o J=>by omega
  have bk:z.length=f.length:=by rw[<-D];simp
  obtain⟨p,B⟩:∃p,z[F]?=some p:=⟨_,aV (by omega)⟩;have ao:f[F]?=some (Nf p):=by rw[<-D,di,B];rfl
  rcases ak.1 with g|⟨aK,rfl,_,_,aZ⟩
  ·rw[g]at B;cases B
  have A:=aZ F p B;obtain⟨⟨a5,_⟩,aD⟩:=ak.2 p (aU B);have X:=aM.2 (Nf p) (by rw[L];exact List.mem_append_right _ (aU ao));have aT:Cx h d:=aL.on (V.below (by omega) λb r o=>by omega);refine⟨aK,_,_,_,_,_,_,_,_,_,rfl,⟨A 0 _ rfl,A 1 _ rfl,A 2 _ rfl,A 3 _ rfl,A 4 _ rfl,A 5 _ rfl,A 6 _ rfl⟩,λbc N=>?_⟩;rw[En ao,yq aD];refine Ep (e:=p) ((a5.below N).mono N.size) aD X.1 X.2.1 ?_ ?_
  ·rcases X.2.2 with g|g
   ·exact g
   ·have aB:0<=p.2.2.1/\p.2.2.1<=c.1.last:=g;exact ei (by omega)
  ·have bo:=V.size;exact xA.mono (aT.on (N.mono (by omega))).1 (by have:=N.size;omega)
 ·rintro e w' ⟨rfl,y⟩;obtain⟨d,⟨_,_,_,U⟩,aY⟩:=y.out;rw[Gp];refine⟨rfl,?_,U.later aY⟩;show (if c.2=0 then tn f++Oa else []).length<=_;split
  ·rw[br];show _+2<=_;omega
  ·exact aN _
def QY(o:Option (aq×Tc×List Tc)):Int:=if o.isSome then 0 else 4
def QU(o:Option (aq×Tc×List Tc)):List UInt8:=match o with
 | none=> []
 | some (nm,cs,cms)=>wZ nm cs cms
def Oz(l:List Tc)(j:Nat):aq:=⟨((l[j]?.map (vi 13)).getD []).toArray⟩
theorem Dh(nm:aq)(cs:Tc)(a:List Tc):Lib.join ((Bi nm ⟨(vi 13 cs).toArray⟩ (Oz a) a.length).map (·.data.toList)) [32]=wZ nm cs a:=by
 unfold Bi wZ;refine congrArg (λl=>Lib.join l [32]) ?_;simp only[bB,jA];refine congrArg (λl=>_::_::l) (nH λc=>?_);by_cases b:c<a.length
 ·simp[b,Oz]
 ·simp[b]
theorem yG(i:mi t B u y v xa h xc W)(c:bL 13 t=0)(k:Cx z W)(j:z<=W.heap.size):(vi 13 t).length<=60000000/\∀a,ap W a->au 62 #[aB u y v xa h xc] a λe w'=>e=aw (ag ⟨(vi 13 t).toArray⟩)/\ap a w':=by
 obtain⟨m,l,rfl,g,f,_,_⟩:=pX i c;have d:=xb ((bP g).trans c);rw[<-A3 g c];exact⟨vj f d.2,λa b=>rE (n:=m+1) ((f.below b).mono b.size) (xA.mono (k.on (b.mono j)).1 (by have:=b.size;omega)) d.1 d.2⟩
theorem wI{i:List Tc}{ma:ay}(z:rQ i B ma W)(D:Cx h W)(A:h<=W.heap.size):(∀t∈i,(vi 13 t).length<=60000000)/\∀j c,j<i.length->ap W c->∃g o y0 y1 y2 ya yl yc,ma=some ⟨g,o,none⟩/\(ai c g (o+j*4) (ae y0)/\ai c g (o+j*4+1) (ae y1)/\ai c g (o+j*4+2) (ag y2)/\ai c g (o+j*4+3) (af ya yl yc))/\∀l,ap c l->au 62 #[aB y0 y1 y2 ya yl yc] l λe w'=>e=aw (ag (Oz i j))/\ap l w':=by
 obtain⟨y,K,s,u,d,_⟩:=z;have f:∀a∈y,In W.heap.size W 13 a:=λa f=>by
  rcases s with r|⟨g,o,_,_,q⟩
  ·rw[r]at f;cases f
  ·obtain⟨j,v⟩:=List.mem_iff_getElem?.1 f;exact(q j a v).2
 refine⟨λt x=>?_,λj c v p=>?_⟩
 ·rw[<-u]at x;obtain⟨a,b,rfl⟩:=cg.1 x;rw[A3 (eH (d a b).1) (d a b).1];exact vj (f a b) (xb (d a b).1).2
 ·obtain⟨a,k⟩:∃a,y[j]?=some a:=⟨_,aV (by omega)⟩;have b:=aU k;have C:Oz i j=⟨(vi 13 a).toArray⟩:=by
   unfold Oz;rw[<-u,di,k];simp only[lK,Option.getD_some];rw[A3 (eH (d a b).1) (d a b).1]
  rcases s with r|⟨g,o,rfl,F,q⟩
  ·rw[r]at k;cases k
  ·obtain⟨G,H,I,J⟩:=(q j a k).1.below p F;have w:=xb (d a b).1;refine⟨g,o,_,_,_,_,_,_,rfl,⟨G,H,I,J⟩,λl E=>?_⟩;have m:=p.trans (E.mono p.size);rw[C];exact rE (n:=13) (((f a b).below m).mono m.size) (xA.mono (D.on (m.mono A)).1 (by have:=m.size;omega)) w.1 w.2
theorem Ek(v:jM h q i (some (P,room,s)) M w)(ak:i<=200)(a:Int):au 39 #[aF q,ae a] w λe w'=>e=aw (ax #[ag ⟨(QU (s.get a)).toArray⟩,ae (QY (s.get a))])/\Hid ((QU (s.get a)).length<=20000000000/\jN h q i (some (P,room,s)) M w w'):=by
 obtain⟨C,R,L,r,an,Y,ao,ar⟩:=v.2.2;have al:q<w.heap.size:=(aS.1 L).1;have F:ai w q 0 (aF C.b):=aj L 0;obtain⟨⟨H,ad,am⟩,_⟩:=id v;cases hg:s.get a with
 | none=>
  refine(vR q C.b a 4 ⟨#[]⟩ ⟨#[]⟩ 0 (λ_=>⟨#[]⟩) w (λ_ _ _ _ _ _ _=>False) (λ_ _=>False) F (by decide) (by decide) (by decide) (λj o=>absurd o (Nat.not_lt_zero j)) ((r.procN hg).mono ?_) (λ_ _ _ _ _ _ _ _ g=>g.elim) λ_ _ _ _ _ g=>g.elim).mono ?_
  ·rintro e w' ⟨rfl,d⟩;exact⟨0,0,⟨#[]⟩,none,0,0,none,0,rfl,d,λg=>by cases g⟩
  ·rintro e w' ⟨rfl,d⟩;exact⟨rfl,aN _,v.stay d⟩
 | some aa=>
  obtain⟨u,k,c⟩:=aa;have K:=r.soundD a u k c hg;have J:=Y.1.get hg;have ab:c.length<=20:=by
   obtain⟨b,d⟩:∃b,dq R.l a=some b:=by
    have:=r.alive a;rw[hg]at this;exact gn.1 this
   obtain⟨Z,Q,O,D,_,U⟩:=r.ps a b d;rw[hg]at D;obtain⟨_,_,rfl⟩:u=Z/\k=Q/\c=O:=by simpa using D
   exact U
  have E:=(r.procC hg (by omega) (by omega)).mono λe w' (g:∃y0 y1 y2 ya yl yc n x,e=aw (ax #[ag u,aB y0 y1 y2 ya yl yc,af n c.length x,ae 0])/\Hid (((mi k w.heap.size y0 y1 y2 ya yl yc w'/\rQ c w.heap.size n w')/\c.length<=x)/\ap w w'))=>g
  obtain⟨I,V⟩:(vi 13 k).length<=60000000/\∀t∈c,(vi 13 t).length<=60000000:=qQ (E.mono λe w' g=>by
   obtain⟨_,_,_,_,_,_,_,_,_,y⟩:=g;have p:=H.on (y.out.2.mono (by omega:h<=w.heap.size));have X:=y.out.2.size
   exact⟨(yG y.out.1.1.1 K.1.1 p (by omega)).1,(wI y.out.1.1.2 p (by omega)).1⟩)
  have B:∀l:List UInt8,(⟨l.toArray⟩:aq).size=l.length:=λl=>by simp[ByteArray.size]
  have G:∀j,j<c.length->(Oz c j).size<=60000000:=λj o=>by
   unfold Oz;rw[aV o,B];exact V _ (gi o)
  have W:=zh (j:=c.length) J (by rw[B];exact I:(⟨(vi 13 k).toArray⟩:aq).size<=60000000) G;rw[Dh]at W;refine(vR q C.b a 0 u ⟨(vi 13 k).toArray⟩ c.length (Oz c) w (λy0 y1 y2 ya yl yc f=>mi k w.heap.size y0 y1 y2 ya yl yc f/\Cx h f/\h<=f.heap.size) (λn f=>rQ c w.heap.size n f/\Cx h f/\h<=f.heap.size) F (by omega) J (by rw[B];exact I) G (E.mono ?_) (λy0 y1 y2 ya yl yc f z m A=>(yG m.1 K.1.1 m.2.1 m.2.2).2 z A) λn j f z o m A=>(wI m.1 m.2.1 m.2.2).2 j z o A).mono ?_
  ·rintro e w' ⟨y0,y1,y2,ya,yl,yc,n,x,rfl,N⟩;obtain⟨⟨⟨S,T⟩,_⟩,d⟩:=N.out;have p:=H.on (d.mono (by omega:h<=w.heap.size));have X:=d.size;exact⟨y0,y1,y2,ya,yl,yc,n,x,rfl,d,λ_=>⟨⟨S,p,by omega⟩,T,p,by omega⟩⟩
  ·rintro e w' ⟨rfl,d⟩;rw[if_pos rfl,Dh];exact⟨rfl,by show (wZ u k c).length<=_;omega,v.stay d⟩
theorem BZ(j:jM h q i (some (P,room,s)) M w):au 40 #[aF q] w λe w'=>e=aw (ag ⟨(qN ((s.ps.map (·.1)).mergeSort λx y:Int=>decide (x<=y))).toArray⟩)/\Hid ((qN ((s.ps.map (·.1)).mergeSort λx y:Int=>decide (x<=y))).length<=20000000000/\jN h q i (some (P,room,s)) M w w'):=by
 obtain⟨u,O,p,r,S,T,U,V⟩:=j.2.2;have H:q<w.heap.size:=(aS.1 p).1;have A:ai w q 0 (aF u.b):=aj p 0;obtain⟨⟨C,Q,R⟩,_⟩:=id j;have F:=r.keys;obtain⟨a,f⟩:∃a,(s.ps.map (·.1)).mergeSort (λx y:Int=>decide (x<=y))=a:=⟨_,rfl⟩;have l:a.length=s.ps.length:=by rw[<-f,List.length_mergeSort,cF]
 have n:∀k∈a,dp k:=λk d=>by
  rw[<-f]at d;obtain⟨y,J,rfl⟩:=cg.1 ((List.mergeSort_perm _ _).mem_iff.1 d);have:=F.2.2.1 y J;exact ei (by omega)
 rw[f];refine(BQ q u.b a s.ps.length w H A l (by omega) n (xA.mono C.1 (by omega)) λL B _=>((r.later B).aliveL).mono ?_).mono ?_
 ·rintro e w' ⟨W,t,rfl,_,v,o,c⟩;obtain rfl:t=a:=v.trans f;have I:=o;rcases o.2 with⟨rfl,e⟩|⟨g,cap,N,rfl,D,E,_⟩
  ·have G:t=[]:=b9 e;subst G;refine⟨none,0,by rw[<-l];rfl,c,λi k K=>by cases K⟩
  ·refine⟨some ⟨g,0,none⟩,cap,by rw[<-l],c,λi k d=>⟨g,rfl,D,(aS.1 E).1,?_⟩⟩;have m:=I.cells (g:=g) rfl i (ae k) (by simp[jd,d]);rw[eT,cC]at m;exact m
 ·rintro e w' ⟨rfl,c⟩;refine⟨rfl,?_,j.stay c⟩;have z:=wh [32] 30 ((Bq a a.length).map (·.data.toList)) (xW n _);rw[F4 rfl,cF,mu (aA _)]at z;omega
theorem N4(a:Nat)(W:ah):(binOp .eql 32 (aF a) (.pointer none)).run Tryz.prog W=.ok (.bool false) W:=by kernel_rfl
def zH(q:Nat)(d a b f g:Int)(h:aq)(xa:ay)(i xc:Nat)(R:aq)(c:Int)(w:ah)(Q:bF):Prop:=∀W,ap w W->au 38 #[aF q,.agg #[ae d,ae a,ae b,ae f,ae g,ag h,af xa i xc]] W λe w'=>e=aw (ax #[ag R,ae c])/\Hid (Q w')
def qK(q:Nat)(a b g h:Int)(i:aq)(xa:ay)(j xc:Nat)(R:aq)(d:Int)(w:ah)(Q:bF)(wd:aq):Prop:=
 if wd=jK then∀c,ap w c->au 37 #[aF q,aB g h i xa j xc] c λe f=>e=aw (ax #[ag R,ae d])/\Hid (Q f)
 else if wd=sQ then zH q 1 a 0 0 0 ⟨#[]⟩ none 0 0 R d w Q
 else if wd=sP then zH q 2 a b 0 0 ⟨#[]⟩ none 0 0 R d w Q
 else if wd=qH then zH q 3 a 0 g h i xa j xc R d w Q
 else if wd=oz then∀c,ap w c->au 39 #[aF q,ae a] c λe f=>e=aw (ax #[ag R,ae d])/\Hid (Q f)
 else d=0/\∀c,ap w c->au 40 #[aF q] c λe f=>e=aw (ag R)/\Hid (Q f)
theorem BS(q:Nat)(wd:aq)(a b s t:Int)(u:aq)(xa:ay)(v xc:Nat)(n:dd)(R:aq)(x:Int)(w:ah)(Q:bF)(L:q<w.heap.size)(K:Hid (ai w q 0 (.pointer (n.map λm=>⟨m,0,none⟩))))(D:wd=gB\/wd=jK\/wd=sQ\/wd=oz\/wd=iJ\/wd=qH\/wd=sP)(y:Hid (wd=iJ->∀W,ap w W->au 36 #[aF q,ae a,aB s t u xa v xc] W λe w'=>e=aw (ax #[ag R,ae x])/\Hid (Q w')))(A:Hid (wd≠iJ->n=none->R=⟨#[]⟩/\x=4/\∀W,ap w W->Q W))(z:Hid (wd≠iJ->n≠none->qK q a b s t u xa v xc R x w Q wd)):au 25 #[aF q,.agg #[ag wd,ae a,ae b,ae s,ae t,ag u,af xa v xc]] w λe w'=>e=aw (ax #[ag R,ae x])/\Hid (Q w'):=by
 have T:=N4;go_enter func25,ntmps25;go_upto_region 1 with fail;generalize C:World.alloc _ _=g;have B:Hid (ap w g):=by
  rw[<-C];exact aW _ _
 have G:Hid (g.heap[w.heap.size]?=some (vx (ag wd) (ae a) (ae b) (ae s) (ae t) (ag u) (af xa v xc))):=by
  rw[<-C];exact aL _ _
 have r:ai g q 0 (.pointer (n.map λm=>⟨m,0,none⟩)):=(B.out.cell (p:=⟨q,0,none⟩) L).trans K;clear C;obtain⟨⟨d0,d1,d2,d3,d4,d5,d6⟩,_⟩:=fl G.out;have F:Hid (g.drew.cell? ⟨w.heap.size,1,none⟩=some (ae a)/\g.drew.cell? ⟨w.heap.size,2,none⟩=some (ae b)):=⟨d1,d2⟩;clear G;go_region_held3 (λW=>W.cell? ⟨w.heap.size,1,none⟩=some (ae a)/\W.cell? ⟨w.heap.size,2,none⟩=some (ae b)) (exact F) (fail);have i:Hid (ap w g.drew):=B.out.drew;have r:g.drew.cell? ⟨q,0,none⟩=some (.pointer (n.map λm=>⟨m,0,none⟩)):=r;have k:g.drew.cell? ⟨w.heap.size,0,none⟩=some (ag wd):=d0;have N:g.drew.cell? ⟨w.heap.size,3,none⟩=some (ae s):=d3;have O:g.drew.cell? ⟨w.heap.size,4,none⟩=some (ae t):=d4;have P:g.drew.cell? ⟨w.heap.size,5,none⟩=some (ag u):=d5;have S:g.drew.cell? ⟨w.heap.size,6,none⟩=some (af xa v xc):=d6;clear d0 d1 d2 d3 d4 d5 d6 F B;generalize g.drew=j at*;by_cases f:wd=iJ
 ·have d:=av (y.out f j i);subst f;clear y A z D r;unfold iJ at k ⊢;go_wp2_with fail;refine d.out.mono ?_;rintro e o ⟨rfl,c⟩;go_wp2_with fail
  go_ret2
  exact⟨rfl,c⟩
 ·have l:(wd.toList==[99,111,100,101])=false:=dM.2 λM=>f (kJ M);cases n with
  | none=>
   obtain⟨rfl,rfl,I⟩:=A.out f rfl;have J:=av (I j i);clear y A z D I f;simp only[Option.map_none]at r;go_wp2_with fail
   go_ret2
   exact⟨rfl,J⟩
  | some m=>
   have h:=av (z.out f (by simp));clear y A z;simp only[lK]at r;rcases D with rfl|rfl|rfl|rfl|rfl|rfl|rfl
   ·have E:=av (h.out:_/\_);obtain⟨rfl,H⟩:=E.out;have d:=av (H j i);clear h E H f l;unfold gB at k ⊢;go_wp2_with fail;refine d.out.mono ?_;rintro e o ⟨rfl,c⟩;go_wp2_with fail
    go_ret2
    exact⟨rfl,c⟩
   ·have d:=av (h.out j i);clear h f l;unfold jK at k ⊢;go_wp2_with fail;refine d.out.mono ?_;rintro e o ⟨rfl,c⟩;go_wp2_with fail
    go_ret2
    exact⟨rfl,c⟩
   ·have d:=av (h.out j i);clear h f l;unfold sQ at k ⊢;go_wp2_with fail;refine d.out.mono ?_;rintro e o ⟨rfl,c⟩;go_wp2_with fail
    go_ret2
    exact⟨rfl,c⟩
   ·have d:=av (h.out j i);clear h f l;unfold oz at k ⊢;go_wp2_with fail;refine d.out.mono ?_;rintro e o ⟨rfl,c⟩;go_wp2_with fail
    go_ret2
    exact⟨rfl,c⟩
   ·exact absurd rfl f
   ·have d:=av (h.out j i);clear h f l;unfold qH at k ⊢;go_wp2_with fail;refine d.out.mono ?_;rintro e o ⟨rfl,c⟩;go_wp2_with fail
    go_ret2
    exact⟨rfl,c⟩
   ·have d:=av (h.out j i);clear h f l;unfold sP at k ⊢;go_wp2_with fail;refine d.out.mono ?_;rintro e o ⟨rfl,c⟩;go_wp2_with fail
    go_ret2
    exact⟨rfl,c⟩
theorem Hk(q:Nat)(J:aq)(E i:Int)(R k:aq)(w:ah)(P:aq->Int->Int->Int->Int->aq->ay->Nat->Nat->bF)(Q m:bF)(F:Hid (au 24 #[ag J] w λe w'=>∃h a b c d f xa g xc,e=aw (ax #[.agg #[ag h,ae a,ae b,ae c,ae d,ag f,af xa g xc],ae E])/\Hid (ap w w'/\(E=0->P h a b c d f xa g xc w'))))(u:Hid (E=0->∀h a b c d f xa g xc W H,P h a b c d f xa g xc W->ap W H->au 25 #[aF q,.agg #[ag h,ae a,ae b,ae c,ae d,ag f,af xa g xc]] H λe w'=>e=aw (ax #[ag R,ae i])/\Hid (Q w')))(r:Hid (¬E=0->∀W,ap w W->au 10 #[ae E] W λe w'=>e=aw (ag k)/\Hid (m w')))(s:Hid (E=0->¬i=0->∀W,Q W->au 10 #[ae i] W λe w'=>e=aw (ag k)/\Hid (m w')))(t:Hid (E=0->i=0->k=R/\∀W,Q W->m W)):au 13 #[aF q,ag J] w λe w'=>e=aw (ag k)/\Hid (m w'):=by
 go_enter func13,ntmps13;go_wp2_with fail;refine F.out.mono ?_;rintro e n ⟨h,a,b,c,d,f,xa,g,xc,rfl,j⟩;clear F;go_upto_region 2 with fail;generalize B:World.alloc _ _=o;have l:Hid (ap n o):=by
  rw[<-B];exact aW _ _
 have z:Hid (o.heap[n.heap.size]?=some (vx (ag h) (ae a) (ae b) (ae c) (ae d) (ag f) (af xa g xc))):=by
  rw[<-B];exact aL _ _
 clear B;by_cases A:E=0;rotate_left
 ·have M:(E !=0)=true:=gV.2 A;have y:=av (r.out A o (j.out.1.trans (l.out.mono j.out.1.size)));clear u r s t z j l;go_wp2_with fail;refine y.out.mono ?_;rintro e C ⟨rfl,p⟩;go_wp2_with fail
  go_ret
  exact⟨rfl,p⟩
 subst A;have D:=av (u.out rfl _ _ _ _ _ _ _ _ _ n o (j.out.2 rfl) l);have v:=av (s.out rfl);have x:=av (t.out rfl);clear u r s t j l;generalize n.heap.size=O at*;obtain⟨⟨d0,d1,d2,d3,d4,d5,d6⟩,_⟩:=fl z.out;clear z;go_wp2_with fail;refine D.out.mono ?_;rintro e C ⟨rfl,G⟩;clear D;by_cases hF:i=0
 ·subst hF;obtain⟨L,I⟩:=x.out rfl;have K:=av (I C G);clear v x I d0 d1 d2 d3 d4 d5 d6;subst L;go_wp2_with fail
  go_ret
  exact⟨rfl,K⟩
 ·have N:(i !=0)=true:=gV.2 hF;have y:=av (v.out hF C G);clear v x d0 d1 d2 d3 d4 d5 d6;go_wp2_with fail;refine y.out.mono ?_;rintro e S ⟨rfl,p⟩;go_wp2_with fail
  go_ret
  exact⟨rfl,p⟩
theorem Ah:(0:Int)<=0/\(0:Int)<=6:=by decide
theorem Ai:(0:Int)<=1/\(1:Int)<=6:=by decide
theorem xz:(0:Int)<=2/\(2:Int)<=6:=by decide
theorem Aj:(0:Int)<=3/\(3:Int)<=6:=by decide
theorem Ak:(0:Int)<=4/\(4:Int)<=6:=by decide
theorem Al:(0:Int)<=5/\(5:Int)<=6:=by decide
theorem BF(b:Int):(l:List Nd)->(a:List Int)->(m:Int)->0<=uE b l a m/\uE b l a m<=6
 | [],a,m=>by
  unfold uE;split<;>omega
 | x::l,[],m=>by
  unfold uE;split<;>omega
 | x::l,d::a,m=>by
  unfold uE;have:=BF b l a (mI x d m);split<;>omega
theorem zQ(n:Nat)(x:Tm n):0<=bL n x/\bL n x<=6:=BF _ _ _ _
theorem Ls{x:Tm n}:0<=fx n x room nm/\fx n x room nm<=6:=by
 have:=zQ n x;unfold fx jo
 repeat' split
 all_goals omega
theorem El(c:oJ 12 P=0){x:Tm k}:0<=(s.do 12 P room u a b k x).2/\(s.do 12 P room u a b k x).2<=6:=by
 have:=zQ k x;unfold Sy.do;split
 ·unfold Sy.run;split
  ·first|exact Ah|exact Ai|exact xz|exact Aj|exact Ak|exact Al
  ·split
   ·split
    ·first|exact Ah|exact Ai|exact xz|exact Aj|exact Ak|exact Al
    ·first|exact Ah|exact Ai|exact xz|exact Aj|exact Ak|exact Al
   ·unfold rB;rw[if_neg λd=>d c]
    repeat' split
    all_goals first|exact Ah|exact Ai|exact xz|exact Aj|exact Ak|exact Al
 ·split
  ·unfold Sy.arrive;split
   ·first|exact Ah|exact Ai|exact xz|exact Aj|exact Ak|exact Al
   ·first|exact Ah|exact Ai|exact xz|exact Aj|exact Ak|exact Al
  ·split
   ·unfold Sy.inject
    repeat' split
    all_goals first|exact this |exact Ah|exact Ai|exact xz|exact Aj|exact Ak|exact Al
   ·first|exact Ah|exact Ai|exact xz|exact Aj|exact Ak|exact Al
theorem Jm{x:Tm k}:0<=(s.start 12 P room nm k x).2/\(s.start 12 P room nm k x).2<=6:=by
 unfold Sy.start
 repeat' split
 all_goals first|exact Ls |exact Ah|exact Ai|exact xz|exact Aj|exact Ak|exact Al
theorem NS(s:aq)(g:s.size<=maxLen)(w:ah):0<=(rdT s).1/\(rdT s).1<=6:=qQ ((yO s w g).mono λe w' H=>by
 obtain⟨k,j,t,a,l,c,pos,i,rfl,H⟩:=H;obtain⟨f,_⟩:=H.out;rcases f with⟨b,_,_,rfl⟩|⟨p,b,d,_,_,rfl⟩|⟨b,d,n,x,h,_,_,_,rfl,_⟩
 ·rw[tI (ak ⟨b,rfl⟩)]
  first|exact Ah|exact Ai|exact xz|exact Aj|exact Ak|exact Al
 ·rw[tI (am (ak ⟨b,⟨p,d⟩,rfl⟩))]
  first|exact Ah|exact Ai|exact xz|exact Aj|exact Ak|exact Al
 ·rw[tI (am (am ⟨b,d,n,x,h,rfl⟩))]
  exact zQ n x)
theorem Eh(a:aq)(d:a.size<=65536)(w:ah):0<=(dkRead a).1/\(dkRead a).1<=6:=by
 unfold dkRead;split
 ·first|exact Ah|exact Ai|exact xz|exact Aj|exact Ak|exact Al
 ·rename_i c b _;simp only;split
  ·split
   ·first|exact Ah|exact Ai|exact xz|exact Aj|exact Ak|exact Al
   ·exact NS _ (by have:=pj a d c b (1+c);unfold maxLen;omega) w
  ·first|exact Ah|exact Ai|exact xz|exact Aj|exact Ak|exact Al
theorem Ee:kT (some (P,room,s)) gB a b t=(some (P,room,s),0,qN ((s.ps.map (·.1)).mergeSort λx y:Int=>decide (x<=y))):=by
 unfold kT;rw[if_neg (by decide)];dsimp only;rw[if_neg (by decide),if_neg (by decide),if_neg (by decide),if_neg (by decide),if_neg (by decide)]
theorem Hp:kT (some (P,room,s)) oz a b t=(some (P,room,s),QY (s.get a),QU (s.get a)):=by
 unfold kT;rw[if_neg (by decide)];dsimp only;rw[if_neg (by decide),if_neg (by decide),if_neg (by decide),if_neg (by decide),if_pos rfl];cases s.get a<;>rfl
theorem Ef:kT (some (P,room,s)) jK a b t=jI P room s t.2.2:=by
 unfold kT;rw[if_neg (by decide)];dsimp only;rw[if_pos rfl]
theorem KA:kT (some (P,room,s)) sQ a b t=oG P room s 1 a 0 tT:=by
 unfold kT;rw[if_neg (by decide)];dsimp only;rw[if_neg (by decide),if_pos rfl]
theorem Kx:kT (some (P,room,s)) sP a b t=oG P room s 2 a b tT:=by
 unfold kT;rw[if_neg (by decide)];dsimp only;rw[if_neg (by decide),if_neg (by decide),if_pos rfl]
theorem Ky:kT (some (P,room,s)) qH a b t=oG P room s 3 a 0 t:=by
 unfold kT;rw[if_neg (by decide)];dsimp only;rw[if_neg (by decide),if_neg (by decide),if_neg (by decide),if_pos rfl]
theorem BX{l:List (Tm 12)}(a:0<=s.last/\s.last<=90):(jI P room s l).2.2.length<=20000000000:=by
 have:=Lib.itoa_length_le (s.last+1) (by omega) (by omega);unfold jI;split
 ·split
  ·simp only;split
   ·omega
   ·exact aN _
  ·exact aN _
 ·exact aN _
theorem Ed:(mJ o a t).2.2.length<=20000000000:=by
 unfold mJ;split
 ·exact(by decide:2<=20000000000)
 ·exact aN _
theorem Kz(d:jM h q i o M w):0<=(kT o wd a b t).2.1/\(kT o wd a b t).2.1<=6:=by
 unfold kT;split
 ·unfold mJ;split<;>(first|exact Ah|exact Ai|exact xz|exact Aj|exact Ak|exact Al)
 ·split
  ·first|exact Ah|exact Ai|exact xz|exact Aj|exact Ak|exact Al
  ·rename_i e room f;obtain⟨_,_,_,_,c,_⟩:=d.2.2;split
   ·unfold jI;split
    ·split
     ·exact Jm
     ·first|exact Ah|exact Ai|exact xz|exact Aj|exact Ak|exact Al
    ·first|exact Ah|exact Ai|exact xz|exact Aj|exact Ak|exact Al
   ·split
    ·exact El c.2.2
    ·split
     ·exact El c.2.2
     ·split
      ·exact El c.2.2
      ·repeat' split
       all_goals first|exact Ah|exact Ai|exact xz|exact Aj|exact Ak|exact Al
theorem tp{a b:Nat}(c:iE wd=some (a,b)):wd=gB\/wd=jK\/wd=sQ\/wd=oz\/wd=iJ\/wd=qH\/wd=sP:=by
 unfold iE at c
 repeat' split at c
 all_goals first|(cases c;done)|(subst_vars;simp)
def AA:Tm 1:=((0,0,⟨#[]⟩),(none,0),[])
theorem NE(B:Nat)(w:ah):In B w 1 AA:=⟨⟨by simp[AA,dp],by simp[AA,dp],aN _,by simp[AA],by simp[AA]⟩,ak rfl⟩
theorem KC(k:jM h q i o M w)(C:i<=200){r:Int×aq×Int×Int×Tc}{p:aq}(aa:OS r B v a b u y p xa z xc w)(O:∀b,M b->b<B):au 25 #[aF q,.agg #[ag v,ae a,ae b,ae u,ae y,ag p,af xa z xc]] w λe w'=>e=aw (ax #[ag ⟨(kT o r.2.1 r.2.2.1 r.2.2.2.1 r.2.2.2.2).2.2.toArray⟩,ae (kT o r.2.1 r.2.2.1 r.2.2.2.1 r.2.2.2.2).2.1])/\Hid ((kT o r.2.1 r.2.2.1 r.2.2.2.1 r.2.2.2.2).2.2.length<=20000000000/\jN h q i (kT o r.2.1 r.2.2.1 r.2.2.2.1 r.2.2.2.2).1 M w w'):=by
 obtain⟨aC,aL,ar,av,t⟩:=r;obtain⟨⟨rfl,rfl,rfl⟩,A,Q,V,aJ,an,n,U⟩:=aa;dsimp only at A Q V U ⊢;have J:∀c,ap w c->mi t B u y p xa z xc c:=λc d=>V.kee (aR d λ_=>False) λ_ _ _ v=>v;have D:∀{L:Int},0<=L/\L<=99->dp L:=λk=>ei (by omega);have H:an=1->bL 13 t=0:=λe=>by
  rcases U with v|v
  ·omega
  ·exact v.2
 obtain⟨g,j⟩:∃g,kT o v a b t=g:=⟨_,rfl⟩;rw[j];obtain⟨aK,Z⟩:=k.box;have T:q<w.heap.size:=(aS.1 Z).1;have N:v=iJ->∀c,ap w c->au 36 #[aF q,ae a,aB u y p xa z xc] c λe w'=>e=aw (ax #[ag ⟨g.2.2.toArray⟩,ae g.2.1])/\Hid (g.2.2.length<=20000000000/\jN h q i g.1 M w w'):=by
  rintro rfl c d;have e:kT o iJ a b t=mJ o a t:=if_pos rfl;rw[<-j,e];refine(Ej (k.later d) A (J c d) (H ?_)).mono ?_
  ·have:iE iJ=some (1,1):=by decide
   rw[this]at n;cases n;rfl
  ·rintro e w' ⟨rfl,x⟩;exact⟨rfl,Ed,x.out.from d⟩
 match o,k with
 | none,k=>
  have F:ai w q 0 (.pointer none):=aj (show w.heap[q]?=some (uc (.pointer none))from k.2.2) 0;refine BS q v a b u y p xa z xc none ⟨g.2.2.toArray⟩ g.2.1 w (λw'=>g.2.2.length<=20000000000/\jN h q i g.1 M w w') T F (tp n) N (λI _=>?_) λ_ e=>absurd rfl e;have e:g=(none,4,[]):=by
   rw[<-j];exact if_neg I
  rw[e];exact⟨rfl,rfl,λc d=>⟨aN _,k.stay d⟩⟩
 | some (P,room,s),k=>
  obtain⟨W,aA,ad,al,aE,aG,aH,aI⟩:=id k.2.2;have F:ai w q 0 (aF W.b):=aj ad 0;have R:=al.keys;have m:∀{c:ah},ap w c->∀{f:FuncId}{E:Array az}{K:az},(au f E c λe w'=>e=aw K/\Hid (g.2.2.length<=20000000000/\jN h q i g.1 M c w'))->au f E c λe w'=>e=aw K/\Hid (g.2.2.length<=20000000000/\jN h q i g.1 M w w'):=by
   intro c d f E K x;exact x.mono λe w' v=>⟨v.1,v.2.out.1,v.2.out.2.from d⟩
  have S:∀c,In c.heap.size c 1 AA/\cG (λb=>¬M b) 1 AA:=λc=>⟨NE _ _,ak rfl⟩;refine BS q v a b u y p xa z xc (some W.b) ⟨g.2.2.toArray⟩ g.2.1 w (λw'=>g.2.2.length<=20000000000/\jN h q i g.1 M w w') T F (tp n) N (λ_ e=>by cases e) λI _=>?_;rcases tp n with rfl|rfl|rfl|rfl|rfl|rfl|rfl
  ·rw[Ee]at j;subst j;unfold qK;rw[if_neg (by decide),if_neg (by decide),if_neg (by decide),if_neg (by decide),if_neg (by decide)];exact⟨rfl,λc d=>m d (BZ (k.later d))⟩
  ·rw[Ef]at j;unfold qK;rw[if_pos rfl]
   have G:bL 13 t=0:=H (by
    have:iE jK=some (0,1):=by decide
    rw[this]at n;cases n
    rfl)
   refine λc d=>m d ((B4 (k.later d) C (J c d) G O).mono ?_);rintro e w' ⟨rfl,x⟩;rw[<-j];exact⟨rfl,BX ⟨R.2.2.2.1,R.2.2.2.2.1⟩,x⟩
  ·rw[KA]at j;unfold qK;rw[if_neg (by decide),if_pos rfl,<-j];rw[<-j]at m;exact λc d=>m d (ti (k.later d) C (D A) (ei (by decide)) AA tT (S c) (by decide) (by simp[Sy.do]))
  ·rw[Hp]at j;unfold qK;rw[if_neg (by decide),if_neg (by decide),if_neg (by decide),if_neg (by decide),if_pos rfl,<-j];rw[<-j]at m;exact λc d=>m d (Ek (k.later d) C a)
  ·exact absurd rfl I
  ·rw[Ky]at j;unfold qK;rw[if_neg (by decide),if_neg (by decide),if_neg (by decide),if_pos rfl,<-j];rw[<-j]at m
   have G:bL 13 t=0:=H (by
    have:iE qH=some (1,1):=by decide
    rw[this]at n;cases n
    rfl)
   intro c d;obtain⟨am,l,rfl,ab,X,Y,aD⟩:=pX (J c d) G;exact m d (ti (k.later d) C (D A) (ei (by decide)) (((u,y,p),(xa,xc),l):Tm (am+1)) t ⟨X,Y.mono λb v ao=>by have:=O b ao;omega⟩ (by omega) (KY ab s room a 0))
  ·rw[Kx]at j;unfold qK;rw[if_neg (by decide),if_neg (by decide),if_pos rfl,<-j];rw[<-j]at m;exact λc d=>m d (ti (k.later d) C (D A) (D Q) AA tT (S c) (by decide) (by simp[Sy.do]))
theorem Am{e:Int}(a:0<=e/\e<=6):dp e:=ei (by omega)
theorem vS{e:Int}(a:0<=e/\e<=6):(iU e).length<=100:=by
 have:=Lib.itoa_length_le e (by omega) (by omega);unfold iU;simp only[br,bv,eW];omega
theorem Hr(p:jM h q i o M w)(P:i<=200)(c:aq)(K:c.size<=65536):au 13 #[aF q,ag c] w λe w'=>e=aw (ag ⟨(dkAns o c).2.toArray⟩)/\Hid ((dkAns o c).2.length<=20000000000/\jN h q i (dkAns o c).1 M w w'):=by
 obtain⟨⟨H,X,Y⟩,N,_⟩:=id p;obtain⟨r,I⟩:∃r,dkRead c=r:=⟨_,rfl⟩;have C:=Eh c K w;have J:=Hv c K H (by omega);rw[I]at C J;obtain⟨a,A⟩:∃a,kT o r.2.1 r.2.2.1 r.2.2.2.1 r.2.2.2.2=a:=⟨_,rfl⟩;have E:0<=a.2.1/\a.2.1<=6:=by rw[<-A];exact Kz p
 obtain⟨j,D⟩:∃j,dkAns o c=j:=⟨_,rfl⟩;have z:j=if r.1=0 then (a.1,if a.2.1=0 then a.2.2 else iU a.2.1)else (o,iU r.1):=by
  rw[<-D,<-A,<-I];rfl
 rw[D];refine Hk q c r.1 a.2.1 ⟨a.2.2.toArray⟩ ⟨j.2.toArray⟩ w (λf n b s t u v y x k=>OS r w.heap.size f n b s t u v y x k/\ap w k) (λw'=>a.2.2.length<=20000000000/\jN h q i a.1 M w w') (λw'=>j.2.length<=20000000000/\jN h q i j.1 M w w') (J.mono ?_) (λ_ f n b s t u v y x k W O l=>?_) (λm k l=>?_) (λm hF k F=>?_) λm hF=>?_
 ·rintro e w' ⟨f,n,b,s,t,u,v,y,x,rfl,g⟩;exact⟨f,n,b,s,t,u,v,y,x,rfl,g.1,λe=>⟨g.2 e,g.1⟩⟩
 ·obtain⟨⟨Q,R,S,T,U⟩,G⟩:=O;have d:=G.trans (l.mono G.size);refine(KC (p.later d) P (r:=r) (B:=w.heap.size) ⟨Q,R,S,T.kee (aR l λ_=>False) λ_ _ _ f=>f,U⟩ λb d=>(N b d).2).mono ?_;rintro e w' ⟨rfl,g⟩;rw[A]at g ⊢;exact⟨rfl,g.out.1,g.out.2.from d⟩
 ·rw[z,if_neg m];refine(sg r.1 (Am C) (H.on (l.mono (by omega:h<=w.heap.size)))).mono ?_;rintro e w' ⟨rfl,d⟩;exact⟨rfl,aG (vS C) (by decide),p.stay (l.trans (d.mono l.size))⟩
 ·rw[z,if_pos m];obtain⟨_,V,L,_⟩:=id F;simp only[hF,if_false];refine(sg a.2.1 (Am E) L.1.1).mono ?_;rintro e w' ⟨rfl,d⟩;exact⟨rfl,aG (vS E) (by decide),F.2.later d⟩
 ·rw[z,if_pos m];simp only[hF,cD];exact⟨trivial,λk f=>f⟩
theorem Bu.kee{b:Nat}{l:List UInt8}{w':ah}(m:Bu B b l w){S:aX}(g:bH S w w')(p:¬S b)(u:∀r,JU b w r->¬S r):Bu B b l w':=by
 have key:∀e,Lib.BuilderAtF 38 5 B b e (Lib.byteCells l) w->Lib.BuilderAtF 38 5 B b e (Lib.byteCells l) w':=by
  rintro e ⟨o,i,d,t,s⟩;refine⟨o,i,(g.block b (lt_of_heap d) p).trans d,?_,s⟩;obtain⟨n,c⟩:=t;refine⟨n,?_⟩;rcases c with c|⟨a,cap,j,k,h,q,f,r⟩
  ·exact ak c
  ·exact am ⟨a,cap,j,k,h,q,(g.block a (lt_of_heap f) (u a ⟨i,aj d 1,by rw[h];rfl⟩)).trans f,r⟩
 exact m.imp (key _) (key _)
theorem Cx.mono{B a:Nat}{w:ah}(f:Cx B w)(b:B<=a):Cx a w:=by
 obtain⟨g,k,d,e,h,i⟩:=f;exact⟨xA.mono g b,k,d,e,h,λc j=>i c (j.mono b)⟩
def MC(w:ah)(L:bm)(g q i:Nat)(a:qq)(l:List UInt8)(W:ah):Prop:=∃M,jM w.heap.size q i a M W/\(Bu (q+1) (q+1) l W/\∀r,JU (q+1) W r->q+1<r/\r<W.heap.size/\¬M r)/\(ap w W/\w.heap.size<=g/\g<q)/\∀(j:Nat) x,L[j]?=some x->W.cell? ⟨g,j,none⟩=some (ag x)
theorem MC.up{p:qq}{l:List UInt8}(v:jM w.heap.size q i o M W)(d:Bu (q+1) (q+1) l W/\∀r,JU (q+1) W r->q+1<r/\r<W.heap.size/\¬M r)(f:ap w W/\w.heap.size<=g/\g<q)(y:∀(j:Nat) x,L[j]?=some x->ai W g j (ag x))(u:jN w.heap.size q i p M W e):MC w L g q (i+1) p l e:=by
 obtain⟨s,D,c,E⟩:=u;obtain⟨⟨_,G,B⟩,z,_⟩:=v;have h:∀{b},M b->q+1<b:=λa=>(z _ a).1;have n:¬(q+1=q\/M (q+1)):=λa=>by
  rcases a with a|a
  ·omega
  ·exact absurd (h a) (by omega)
 have A:e.cell? ⟨q+1,1,none⟩=W.cell? ⟨q+1,1,none⟩:=c.cell 1 B n;refine⟨s,D,⟨d.1.kee c n λr k a=>?_,λr k=>?_⟩,⟨f.1.trans (c.below f.1.size λb H a=>?_),f.2⟩,λj x C=>(c.cell j (by omega) λa=>?_).trans (y j x C)⟩
 ·have:=d.2 r k;rcases a with a|a
  ·omega
  ·exact this.2.2 a
 ·obtain⟨F,m,t⟩:=k;rw[A]at m;have:=d.2 r ⟨F,m,t⟩;have I:=c.size;refine⟨this.1,by omega,λa=>?_⟩;rcases E r a with a|a
  ·exact this.2.2 a
  ·omega
 ·rcases a with a|a
  ·omega
  ·have:=h a;omega
 ·rcases a with a|a
  ·omega
  ·have:=h a;omega
theorem MC.wrote{l B:List UInt8}(F:MC w L g q i o l W)(d:dE (q+1) (q+1) B W e)(p:Ol (q+1) W e):MC w L g q i o B e:=by
 obtain⟨n,y,⟨Y,z⟩,⟨A,K⟩,M⟩:=F;obtain⟨⟨_,U,V⟩,r,_⟩:=id y;have j:bH (λb=>b=q+1\/JU (q+1) W b) W e:=⟨d.2.1.os,d.2.1.tape,d.2.1.output,d.2.1.size,λb s u=>p.1 b s (λm=>u (ak m)) λm=>u (am m)⟩;have f:∀b,(b=q+1\/JU (q+1) W b)->q<b/\¬n b:=λb a=>by
  rcases a with a|a
  ·subst a;exact⟨by omega,λa=>absurd (r _ a).1 (by omega)⟩
  ·have:=z b a;exact⟨by omega,this.2.2⟩
 refine⟨n,y.kept j λb a=>⟨by have:=f b a;omega,by have:=f b a;omega,(f b a).2⟩,⟨d.1,λk v=>?_⟩,⟨A.trans (j.below A.size λb s a=>by have:=f b a;omega),K⟩,λx P J=>(j.cell x (by omega) λa=>by have:=f g a;omega).trans (M x P J)⟩;have t:k<e.heap.size:=by
  obtain⟨N,C,h⟩:=v;rcases d.1 with a|a
  all_goals
   obtain⟨_,O,G,⟨_,I⟩,_⟩:=a;have D:=C.symm.trans (aj G 1);have E:N=O:=aJ D;subst E;rcases I with⟨a,_⟩|⟨T,c,R,S,a,_,H,_⟩
   ·rw[a]at h;cases h
   ·rw[a]at h;cases h;exact lt_of_heap H
 have X:=j.size;rcases p.2 k v with a|a
 ·have:=z k a;exact⟨this.1,t,this.2.2⟩
 ·exact⟨by omega,t,λQ=>by have:=(r k Q).2;omega⟩
theorem LO(t:Cx w.heap.size w)(f:ap w W)(m:w.heap.size<=g/\g<W.heap.size)(s:∀(j:Nat) x,L[j]?=some x->ai W g j (ag x)):MC w L g W.heap.size 0 none [] ((W.alloc (.cells #[.pointer none] 34)).alloc (.cells #[.pointer none,af none 0 0] 38)):=by
 obtain⟨a,d⟩:∃a,W.alloc (.cells #[.pointer none] 34)=a:=⟨_,rfl⟩;have n:a.heap.size=W.heap.size+1:=by rw[<-d];simp
 have i:ap W a:=by rw[<-d];exact aW _ _
 have u:a.heap[W.heap.size]?=some (uc (.pointer none)):=by rw[<-d];exact aL _ _
 rw[d];obtain⟨b,c⟩:∃b,a.alloc (.cells #[.pointer none,af none 0 0] 38)=b:=⟨_,rfl⟩;have A:b.heap.size=W.heap.size+2:=by rw[<-c];simp[n]
 have k:ap a b:=by rw[<-c];exact aW _ _
 have q:Bu a.heap.size a.heap.size [] b:=by
  rw[<-c];exact Lib.IsBuilderF.of (Lib.fresh_isBuilder 38 5 a)
 have l:ai b a.heap.size 1 (af none 0 0):=by
  rw[<-c];exact aj (aL _ _) 1
 rw[c];have e:=i.trans (k.mono i.size);have o:=f.size;rw[n]at q l;refine⟨λ_=>False,⟨⟨t.on (f.trans (e.mono o)),by omega,by omega⟩,λ_ z=>z.elim,(k.block _ (by omega)).trans u⟩,⟨q,λB v=>?_⟩,⟨f.trans (e.mono o),m⟩,λj x y=>(e.cell (p:=⟨g,j,none⟩) m.2).trans (s j x y)⟩;obtain⟨C,h,r⟩:=v;rw[l]at h;obtain rfl:=aJ h;cases r
theorem vN(a:aq):(ud a).size<=a.size:=by
 unfold ud Lib.trimSuffix;have b:a.size=a.data.toList.length:=Lib.size_eq a;have c:∀l:List UInt8,(⟨l.toArray⟩:aq).size=l.length:=λl=>Lib.size_eq _;rw[c,b];split
 ·rw[du];omega
 ·exact aA _
theorem ue(a:aq):(gw a).length=Lib.countB (ud a) G6+1:=Lib.splitB_all G6 (by decide) 0 _ _ rfl
theorem Ab(a:aq):∀x∈gw a,x.size<=a.size:=λx b=>aG (ou _ _ _ x b) (vN a)
theorem zk(t:aq)(f:t.size<=65536)(a:Cx B w):au 20 #[ag t,ag ⟨#[10]⟩] w λe w'=>∃g,e=aw (af (some ⟨g,0,none⟩) (Lib.countB t G6+1) (Lib.countB t G6+1))/\Hid (ap w w'/\(w.heap.size<=g/\g<w'.heap.size)/\∀(j:Nat) x,(Lib.splitB G6 0 (Lib.countB t G6) t)[j]?=some x->ai w' g j (ag x)):=by
 obtain⟨_,d,_,_,_,b⟩:=a;refine(Tryz.strings_Split t ⟨#[10]⟩ d w (by omega) (b w (aH _ _)).1 (by decide)).mono ?_;rintro e w' ⟨rfl,rfl⟩;refine⟨_,rfl,aW _ _,⟨aA _,(aS.1 (aL w _)).1⟩,λj x c=>(aj (aL w _) j).trans ?_⟩;show ((Lib.splitB G6 0 (Lib.countB t G6) t).map Value.string)[j]?=_;rw[di,c];rfl
theorem N1(a:mj x=true):dkStep f x=((dkAns f.1 x).1,f.2++(dkAns f.1 x).2++ [10]):=if_pos a
theorem L9(a:mj x=false):dkStep f x=f:=if_neg (by rw[a];decide)
noncomputable def dkSt (L:bm) (j:Nat):qq×List UInt8:=(L.take j).foldl dkStep (none,[])
theorem yk(a:L[j]?=some x):dkSt L (j+1)=dkStep (dkSt L j) x:=by
 unfold dkSt;rw[dL,a];simp
theorem KI(c:aq)(D:Cx B w)(O:B<=w.heap.size):au 5 #[ag c] w λe w'=>e=aw (ag ⟨(dkRun c).toArray⟩)/\Hid (ap w w'/\(dkRun c).length<=5000000000000):=by
 have H:=D.mono O;have M:(iU 2).length<=100:=vS xz;have N:(iU 2++ [10]).length<=5000000000000:=by
  rw[br];simp only[bv,eW];omega
 have J:∀l:List UInt8,(⟨l.toArray⟩:aq).size=l.length:=λl=>by simp[ByteArray.size]
 by_cases u:65536<c.size
 ·have t:65536<c.size\/200<(gw c).length:=ak u;have e:dkRun c=iU 2++ [10]:=if_pos t;rw[e];refine(ym c 0 (65536<c.size\/200<0) (λ_=> .empty) (λ_=> .empty) ⟨(iU 2++ [10]).toArray⟩ ⟨(iU 2).toArray⟩ w (λ_ _=>False) (λ_ _ _ _=>False) (λ_ _ _ _=>False) (λ_ _ _ _=>False) (λw'=>ap w w'/\(iU 2++ [10]).length<=5000000000000) (by decide) (by rw[J];exact M) ?_ (λ_ f q=>?_) (λd=>absurd (ak u) d) (λ_ _ _ _ _ d=>d.elim) (λ_ _ _ _ _ d=>d.elim) (λ_ _ _ _ _ d=>d.elim) (λ_ _ _ _ _ d=>d.elim) (λ_ _ _ _ _ d=>d.elim) λ_ _ _ _ d=>d.elim).mono λe w' d=>⟨d.1,d.2⟩
  ·refine(xd c .empty (Lib.countB .empty G6+1) w (λ_ _=>True) (λd=>absurd u d) ((zk .empty (by decide) D).mono ?_)).mono ?_
   ·rintro e w' ⟨g,rfl,n⟩;exact⟨g,rfl,n.1,trivial⟩
   ·rintro e w' (⟨_,rfl,r⟩|⟨d,_⟩)
    ·exact ak ⟨ak u,rfl,r⟩
    ·exact absurd (ak u) d
  ·refine(sg 2 (Am xz) (H.on q)).mono ?_;rintro e w' ⟨rfl,r⟩;exact⟨rfl,DX _ _,q.trans (r.mono q.size),N⟩
 ·have S:=vN c;have P:=ue c;have T:=Lib.countB_le G6 (by decide) _ (ud c) (aA _);obtain⟨b,F⟩:∃b,gw c=b:=⟨_,rfl⟩;have L:=Ab c;rw[F]at P L;have v:∀a,a<b.length->b[a]?=some (b.getD a .empty):=λa m=>by simp[m]
  have Q:dkRun c=if 65536<c.size\/200<b.length then iU 2++ [10]else (b.foldl dkStep (none,[])).2:=by
   rw[<-F];rfl
  rw[Q]
  refine(ym c b.length (65536<c.size\/200<b.length) (λa=>b.getD a .empty) (λa=>⟨(dkAns (dkSt b a).1 (b.getD a .empty)).2.toArray⟩) ⟨(if 65536<c.size\/200<b.length then iU 2++ [10]else (b.foldl dkStep (none,[])).2).toArray⟩ ⟨(iU 2).toArray⟩ w
   (λg f=>ap w f/\(w.heap.size<=g/\g<f.heap.size)/\∀(a:Nat) x,b[a]?=some x->ai f g a (ag x))
   (λg h a f=>b.length<=200/\(dkSt b a).2.length<=a*20000000001/\MC w b g h a (dkSt b a).1 (dkSt b a).2 f)
   (λg h a f=>b.length<=200/\(dkSt b a).2.length<=a*20000000001/\(dkAns (dkSt b a).1 (b.getD a .empty)).2.length<=20000000000/\mj (b.getD a .empty)=true/\MC w b g h (a+1) (dkAns (dkSt b a).1 (b.getD a .empty)).1 (dkSt b a).2 f)
   (λg h a f=>b.length<=200/\(dkSt b a).2.length<=a*20000000001/\(dkAns (dkSt b a).1 (b.getD a .empty)).2.length<=20000000000/\mj (b.getD a .empty)=true/\MC w b g h (a+1) (dkAns (dkSt b a).1 (b.getD a .empty)).1 ((dkSt b a).2++(dkAns (dkSt b a).1 (b.getD a .empty)).2) f)
   (λw'=>ap w w'/\(if 65536<c.size\/200<b.length then iU 2++ [10]else (b.foldl dkStep (none,[])).2).length<=5000000000000) (by omega) (by rw[J];exact M) ?_ (λt f q=>?_) (λt g f q G=>?_) (λg h a f m j=>?_) (λg h a f m j I=>?_) (λg h a f m j I=>?_) (λg h a f m j=>?_) (λg h a f m j=>?_) λt g h f j=>?_).mono λe w' d=>⟨d.1,d.2⟩
  ·rw[<-F,ue];refine xd c (ud c) _ w _ (λ_=>(Tryz.strings_TrimSuffix c ⟨#[10]⟩ w (by omega)).mono λe w' d=>d) ((zk (ud c) (by omega) D).mono ?_);rintro e w' ⟨g,rfl,n⟩;exact⟨g,rfl,n.1,n.1,n.2.1,n.2.2⟩
  ·rw[if_pos t];refine(sg 2 (Am xz) (H.on q)).mono ?_;rintro e w' ⟨rfl,r⟩;exact⟨rfl,DX _ _,q.trans (r.mono q.size),N⟩
  ·refine⟨by omega,aN _,?_⟩;exact LO H G.1 G.2.1 G.2.2
  ·obtain⟨_,_,s,_,_,_,k⟩:=j;exact k a _ (v a m)
  ·obtain⟨p,o,s,y,i⟩:=j;rw[yk (v a m),L9 I];exact⟨p,aG o (Nat.mul_le_mul_right _ (fO a)),s,y.next,i⟩
  ·obtain⟨p,o,s,y,i,z,R⟩:=j;refine(Hr y (by omega) (b.getD a .empty) (aG (L _ (aU (v a m))) (by omega))).mono ?_;rintro e w' ⟨rfl,n⟩;exact⟨rfl,p,o,n.1,I,MC.up y i z R n.2⟩
  ·obtain⟨p,o,K,E,k⟩:=j;obtain⟨s,_,i,_⟩:=id k;refine(mN (h+1) (h+1) _ ⟨(dkAns (dkSt b a).1 (b.getD a .empty)).2.toArray⟩ f i.1 (by rw[J];omega) (by have:=i.1.lt;omega)).mono ?_;rintro e w' ⟨rfl,A,C⟩;exact⟨_,rfl,p,o,K,E,k.wrote A C⟩
  ·obtain⟨p,o,K,E,k⟩:=j;obtain⟨s,_,i,_⟩:=id k;refine(pA (h+1) (h+1) _ 10 f i.1 (by rw[br];omega) (by have:=i.1.lt;omega)).mono ?_;rintro e w' ⟨rfl,A,C⟩;rw[yk (v a m),N1 E];refine⟨_,rfl,p,?_,k.wrote A C⟩;simp only[br,bv,eW];omega
  ·obtain⟨p,o,s,_,i,z,_⟩:=j;rw[if_neg t];unfold dkSt at i o;rw[bI (aA _)]at i o;refine(Tryz.Builder_String_any_k (h+1) (h+1) _ f i.1 (by have:=i.1.lt;omega)).mono ?_;rintro e w' ⟨rfl,_,r,_⟩;have:=z.1.size;have:=i.1.lt;exact⟨rfl,z.1.trans (r.mono (by omega)),by omega⟩
def og:List UInt8->List (List UInt8)
 | []=> [[]]
 | c::l=>if c=10 then []::og l else match og l with
  | x::r=>(c::x)::r
  | []=> [[c]]
theorem EP(l:List UInt8):∃x r,og l=x::r:=by
 cases l with
 | nil=>exact⟨_,_,rfl⟩
 | cons c l=>
  unfold og;split
  ·exact⟨_,_,rfl⟩
  ·split<;>exact⟨_,_,rfl⟩
theorem GA(a b:List UInt8):og (a++10::b)=og a++og b:=by
 induction a with
 | nil=>simp[og]
 | cons c a ih=>
  obtain⟨f,e,d⟩:=EP a;rw[fL];simp only[og,ih,d];split<;>simp
theorem CD(a:List UInt8)(g:c≠10):∃p x,og a=p++ [x]/\og (a++ [c])=p++ [x++ [c]]:=by
 induction a with
 | nil=>exact⟨[],[],by simp[og],by simp[og,g]⟩
 | cons d a ih=>
  obtain⟨p,x,e,f⟩:=ih;by_cases b:d=10
  ·refine⟨[]::p,x,?_,?_⟩
   ·simp[og,b,e]
   ·simp[og,b,f]
  ·cases p with
   | nil=>exact⟨[],d::x,by simp[og,b,e],by simp[og,b,f]⟩
   | cons h p=>exact⟨(d::h)::p,x,by simp[og,b,e],by simp[og,b,f]⟩
theorem L7(l:List UInt8):Lib.splitK [10] 0 (Lib.count l [10]) l=og l:=by
 induction l with
 | nil=>rfl
 | cons c l ih=>
  by_cases a:c=10
  ·subst a;rw[Lib.count_cons_eq,Nat.add_comm];have e:Lib.index (10::l) [10]=0:=by simp[Lib.index]
   unfold Lib.splitK og;rw[e,if_neg (by decide),if_pos rfl];simpa using ih
  ·rw[Lib.count_cons_ne _ _ _ a];have f:Lib.index (c::l) [10]=if Lib.index l [10]==-1 then -1 else Lib.index l [10]+1:=by
    have:¬(10:UInt8)=c:=λd=>a d.symm
    conv=>lhs;unfold Lib.index
    simp[this]
   unfold og;rw[if_neg a,<-ih];cases d:Lib.count l [10]with
   | zero=>rfl
   | succ k=>
    unfold Lib.splitK;rw[f];by_cases b:Lib.index l [10]==-1
    ·simp[b]
    ·have i:=Lib.index_ge l [10];have g:¬(Lib.index l [10]+1==-1)=true:=by simp;omega
     have h:(Lib.index l [10]+1).toNat=(Lib.index l [10]).toNat+1:=by
      have:Lib.index l [10]≠ -1:=by simpa using b
      omega
     rw[if_neg b,if_neg g,if_neg b,h];simp
def D8(l:List UInt8):List UInt8:=Lib.trimSuffix l [10]
theorem M2(l:List UInt8):D8 (l++ [10])=l:=by
 unfold D8 Lib.trimSuffix Lib.hasSuffix;simp
theorem M1(l:List UInt8)(a:c≠10):D8 (l++ [c])=l++ [c]:=by
 unfold D8 Lib.trimSuffix Lib.hasSuffix;rw[if_neg];simpa using λe:(10:UInt8)=c=>a e.symm
theorem Fv(l:List UInt8):l=[]\/∃p c,l=p++ [c]:=by
 rcases List.eq_nil_or_concat l with a|⟨p,c,a⟩
 ·exact ak a
 ·exact am ⟨p,c,by simpa using a⟩
def Jv(l:List UInt8):List (List UInt8):=if (og l).getLast? =some []then (og l).dropLast else og l
theorem N7{l:List UInt8}(e:l≠[]):Jv l=og (D8 l):=by
 rcases Fv l with a|⟨d,c,rfl⟩
 ·exact absurd a e
 ·unfold Jv;by_cases b:c=10
  ·subst b;rw[M2,GA];simp[og]
  ·obtain⟨f,g,_,a⟩:=CD d b;rw[M1 d b,a];simp
theorem Eg(a:aq):(gw a).map (·.data.toList)=og (D8 a.data.toList):=by
 unfold gw;rw[Lib.splitB_data];exact L7 _
def Qr:List UInt8->Bool
 | []=>false
 | c::_=>c !=35
theorem yK(l:bm):(l.filter mj).length=((l.map (·.data.toList)).filter Qr).length:=by
 rw[List.filter_map,cF];rfl
theorem Hq(a:aq):((Jv a.data.toList).filter Qr).length=((gw a).filter mj).length/\(200<(Jv a.data.toList).length ↔ 200<(gw a).length):=by
 have c:=Eg a;have d:(gw a).length=(og (D8 a.data.toList)).length:=by rw[<-c,cF]
 rw[yK,c,d];by_cases b:a.data.toList=[]
 ·rw[b];decide
 ·rw[N7 b];exact⟨rfl,Iff.rfl⟩
theorem Fl(a:aq):if 65536<a.size\/200<(Jv a.data.toList).length then dkRun a=iU 2++ [10]else ((Jv a.data.toList).filter Qr).length<=(dkRun a).count 10/\(dkRun a=[]\/∃r,dkRun a=r++ [10]):=by
 obtain⟨d,c⟩:=Hq a;by_cases b:65536<a.size\/200<(Jv a.data.toList).length
 ·rw[if_pos b];exact if_pos (b.imp id c.1)
 ·rw[if_neg b,d];unfold dkRun;rw[if_neg λg=>b (g.imp id c.2)];obtain⟨e,f⟩:=BY (gw a) (none,[]);exact⟨by simpa using e,f⟩
theorem CC:(l:List UInt8)->(og l).length<=l.length+1/\∀x∈og l,x.length<=l.length
 | []=>⟨aA _,λx f=>by rw[dP.1 f];exact aA _⟩
 | c::l=>by
  obtain⟨d,b⟩:=CC l;obtain⟨x,r,e⟩:=EP l;unfold og;split
  ·refine⟨by simpa using d,λy a=>?_⟩;rcases cr.1 a with rfl|a
   ·exact aN _
   ·exact Nat.le_succ_of_le (b y a)
  ·rw[e]at d b ⊢;refine⟨by simp at d ⊢;omega,λy a=>?_⟩;rcases cr.1 a with rfl|a
   ·simpa using b x (by simp)
   ·exact Nat.le_succ_of_le (b y (cd _ a))
theorem tY.set{r g n c k:Nat}{h W:ah}{l:bm}(m:tY r h (af (some ⟨g,0,none⟩) n c) l W)(y:aq):tY r h (af (some ⟨g,0,none⟩) n c) (l.set k y) (W.setCell ⟨g,k,none⟩ (ag y)):=by
 obtain⟨d,f,o,p⟩:=m;obtain⟨B,d⟩:=d;refine⟨⟨by simp,?_⟩,f,o.trans (bO _ _ _ _) λb _ j=>by subst j;exact f b rfl,p⟩;rcases d with⟨e,_⟩|⟨C,A,i,e,q,s,t,u,v,w⟩
 ·cases e
 ·injection e with a x z;injection a with a;injection a with a;subst a z;refine am ⟨g,c,i.setIfInBounds k (ag y),by rw[lE,x],q,?_,by rw[lE];exact t,u,by simpa using v,?_⟩
  ·simp[World.setCell,bS,s]
  ·rw[lE,Array.toList_setIfInBounds,List.take_set,w,List.map_set]
theorem zC(a:0<=u/\u<=100000):IntKind.i64.wrap u=u:=by
 rw[IntKind.wrap];simp[IntKind.bits,IntKind.signed];omega
theorem N8(s:aq)(a4:s.size<=65536)(w:ah):au 6 #[ag s] w λe w'=>∃g c,∃d:List aq,e=aw (af (some ⟨g,0,none⟩) d.length c)/\Hid (d.map (·.data.toList)=Jv s.data.toList/\ap w w'/\g<w'.heap.size/\∀(j:Nat) x,d[j]?=some x->ai w' g j (ag x)):=by
 obtain⟨aP,hit,an,ao,ar⟩:=bT lU;have J:=av (⟨hit,an,ao,ar⟩:_/\_/\_/\_);clear hit an ao ar;go_enter func6,ntmps6;go_upto_region 3 with fail;generalize ay:World.alloc _ _=aX;have N:Hid (tY w.heap.size w (af (some ⟨w.heap.size,0,none⟩) 1 1) [⟨#[]⟩] aX):=by
  rw[<-ay];exact⟨⟨rfl,.inr ⟨w.heap.size,1, #[ag ⟨#[]⟩],rfl,aA _,aL w _,aA _,by unfold maxLen;omega,rfl,rfl⟩⟩,λb ab=>ak (by simpa [Value.ownBlock]using ab.symm),aR (aW _ _) _,aA _⟩
 clear ay;obtain⟨t,aK⟩:∃t,w.heap.size=t:=⟨_,rfl⟩;rw[aK]at N ⊢;go_loopw [3,4] (λaB T wr=>∃(j g p:Nat)(d:bm),j<=s.size/\T=ae j/\aB=af (some ⟨g,0,none⟩) d.length p/\Hid (d.map (·.data.toList)=og (s.data.toList.take j)/\tY t w aB d wr)) (λ_ T _=>s.size-(intOf T).toNat)
 case atStart=>exact⟨0,t,1,[⟨#[]⟩],aN _,rfl,rfl,rfl,N.out⟩
 case round=>
 clear N;obtain⟨j,g,p,d,a2,rfl,rfl,i⟩:=hrel;have C:Hid (d.length<=65537/\(∀x∈d,x.size<=65536)/\t<=wr.heap.size):=by
  have k:=CC (s.data.toList.take j);have e:=Lib.size_eq s;rw[du]at k;have a3:d.length=(og (s.data.toList.take j)).length:=by rw[<-i.1,cF]
  refine⟨by omega,λx h=>?_,?_⟩
  ·have u:=k.2 x.data.toList (by rw[<-i.1];exact jC h);have H:=Lib.size_eq x;omega
  ·have u:=i.2.2.2.1.size;have H:=i.2.2.2.2;omega
 have D:Hid (0<d.length):=by
  obtain⟨x,a8,e⟩:=EP (s.data.toList.take j);have:=congrArg List.length i.1;rw[e,cF,bv]at this;show 0<d.length;omega
 by_cases al:j<s.size
 ·have a6:(0:Int)<=(j:Int):=by omega
  have a7:(j:Int)<(s.size:Int):=by omega
  have E:0<d.length:=D.out;have az:(0:Int)<=(d.length:Int)-1:=by omega
  obtain⟨c,ad⟩:∃c,s[j]=c:=⟨_,rfl⟩;have v:Hid (s.data.toList.take (j+1)=s.data.toList.take j++ [c]):=by
   rw[dL,aV (by rw[<-Lib.size_eq];exact al),<-ad];rfl
  by_cases R:c=10
  ·subst R;have O:Hid (wr.ownsRow t 9 1 (af (some ⟨g,0,none⟩) d.length p) d.length (d.map Value.string)):=i.out.2.1;obtain⟨n,q⟩:∃n,d.length=n:=⟨_,rfl⟩;rw[q]at O az E ⊢;have S:n<=65537:=by have:=C.out.1;omega
   have m:=av q;clear q D;go_wp2_with (at_builtin;(refine wpList_append_lies _ rfl _ _ 23 rfl t 9 aP _ 1 16 underlying23 J.1 J.2.1 J.2.2.1 J.2.2.2 rfl (by decide) _ n _ rfl (O.out.alloc _) ⟨wr.heap.size,0,none⟩ 1 1 [ag ⟨#[]⟩] rfl rfl (l9 wr ⟨#[]⟩) (by intro a9 ax;simp at ax;subst ax;rfl) (by decide) (by unfold maxLen;have:=C.out.1;have:=m.out;omega) (by omega) (by have K:=C.out.2.2;simp;omega) (wr.heap.size+1) (by simp) ?_);intro Y W aC am aj aa aO);have F:Hid (tY t w (.slice (some ⟨Y,0,none⟩) (d++ [(⟨#[]⟩:aq)]).length W) (d++ [(⟨#[]⟩:aq)]) aC):=by
    have:=i.out.2.more (aW _ _) m am aj (aa.imp id λr=>by simpa using r);rw[br,m.out];exact this
   have I:Hid ((d++ [(⟨#[]⟩:aq)]).map (·.data.toList)=og (s.data.toList.take (j+1))):=by
    show _=_;rw[v.out,GA,fw,i.out.1];rfl
   clear am aj aa aO O;go_wp2_with fail;go_roundw
   case rel=>exact⟨j+1,Y,W,d++ [(⟨#[]⟩:aq)],by omega,by go_num,by rw[br,m.out];rfl,I.out,by have:=F.out;rw[br,m.out]at this;exact this⟩
   case measure=>simp[intOf];omega
  ·have aZ:((c.toNat:Int)==10)=false:=by
     have u:=Mn c 10;rw[(gV (a:=c) (b:=10)).2 R]at u;simpa using u
   obtain⟨n,q⟩:∃n,d.length=n:=⟨_,rfl⟩;obtain⟨k,A⟩:∃k,n=k+1:=⟨n-1,by omega⟩;obtain⟨x,h⟩:∃x,d[k]?=some x:=⟨_,aV (by omega)⟩;have a5:=C.out.2.1 x (aU h);have G:=av h;have V:ai wr g k (ag x):=by
    obtain⟨Q,P,e,_,_,z⟩:=i.out.2.cells (nK.1 D.out);injection e with f;injection f with f;injection f with f;subst f;have:=z k x h;rwa [cC]at this
   have aI:∀o,wr.frozen? ⟨g,o,none⟩=false:=by
    rcases i.out.2.1.2 with⟨e,_⟩|⟨Q,P,aY,e,_,z,_⟩
    ·cases e
    ·injection e with f;injection f with f;injection f with f;subst f;intro o;simp[World.frozen?,z]
   have S:n<=65537:=by have:=C.out.1;omega
   have f:IntKind.i64.wrap ((n:Int)-1)=(k:Int):=by
    subst A;rw[IntKind.wrap];simp[IntKind.bits,IntKind.signed];omega
   have X:IntKind.i64.wrap ((j:Int)+1)=(j:Int)+1:=zC (by omega);have aQ:(0:Int)<=(k:Int):=by omega
   have aS:(k:Int)<(n:Int):=by omega
   have m:=av q;have B:=av A;rw[q];clear q D A h az E;go_wp2_with fail;go_region;have F:Hid (tY t w (af (some ⟨g,0,none⟩) n p) (d.set k (x++s.extract j (j+1))) (wr.setCell ⟨g,k,none⟩ (ag (x++s.extract j (j+1)))).drew):=by
    have:=i.out.2.set (k:=k) (x++s.extract j (j+1));rw[m.out]at this;exact this.later (aH _ _).drew
   have I:Hid ((d.set k (x++s.extract j (j+1))).map (·.data.toList)=og (s.data.toList.take (j+1))):=by
    obtain⟨aT,aD,u,H⟩:=CD (s.data.toList.take j) R;have K:=i.out.1.trans u;have Z:aT.length=k:=by
     have:=congrArg List.length K;rw[cF,m.out,B.out]at this;simpa using this.symm
    have aG:x.data.toList=aD:=by
     have:=congrArg (λl=>l[k]?) K;simp only[di,G.out]at this;rw[<-Z]at this;simpa using this
    show _=_;rw[v.out,H,List.map_set,K,<-Z]
    rw[show (x++s.extract j (j+1)).data.toList=aD++ [c] by
     rw[<-aG,<-ad];simp[ByteArray.data_append,ByteArray.data_extract];rw[fq (by rw[<-Lib.size_eq];exact al)]
     rfl]
    simp
   have U:Hid (n=(d.set k (x++s.extract j (j+1))).length):=by
    show _=_;rw[lE,m.out]
   generalize World.drew _=aC at F ⊢;generalize d.set k (x++s.extract j (j+1))=aF at F I U;clear V aI S G;go_wp2_with fail;go_roundw
   case rel=>exact⟨j+1,g,p,aF,by omega,by go_num,by rw[<-U.out],I.out,F.out⟩
   case measure=>simp[intOf];omega
 ·obtain rfl:j=s.size:=by omega
  have v:Hid (d.map (·.data.toList)=og s.data.toList):=by
   have:=i.out.1;rw[bI (by rw[<-Lib.size_eq];exact aA _)]at this;exact this
  obtain⟨n,q⟩:∃n,d.length=n:=⟨_,rfl⟩;have E:=D.out;obtain⟨k,A⟩:∃k,n=k+1:=⟨n-1,by omega⟩;obtain⟨x,h⟩:∃x,d[k]?=some x:=⟨_,aV (by omega)⟩;have V:ai wr g k (ag x):=by
   obtain⟨Q,P,e,_,_,z⟩:=i.out.2.cells (nK.1 E);injection e with f;injection f with f;injection f with f;subst f;have:=z k x h;rwa [cC]at this
  have y:Hid ((ap w wr/\g<wr.heap.size)/\(d.length<=p)/\∀(j:Nat) x,d[j]?=some x->ai wr g j (ag x)):=by
   obtain⟨Q,P,e,u,H,z⟩:=i.out.2.cells (nK.1 E);injection e with f _ X;injection f with f;injection f with f;subst f X;refine⟨⟨i.out.2.2.2.1.below (aA _) λb ab r=>by omega,u⟩,H,λj x h=>?_⟩;have:=z j x h;rwa [cC]at this
  have S:n<=65537:=by have:=C.out.1;omega
  have f:IntKind.i64.wrap ((n:Int)-1)=(k:Int):=by
   subst A;rw[IntKind.wrap];simp[IntKind.bits,IntKind.signed];omega
  have aQ:(0:Int)<=(k:Int):=by omega
  have aS:(k:Int)<(n:Int):=by omega
  have a0:(k:Int)<=(p:Int):=by have:=y.out.2.1;omega
  have m:=av q;have B:=av A;have G:=av h;rw[q];clear q D A h E;by_cases L:x=⟨#[]⟩
  ·subst L;go_wp2_with fail
   go_ret
   have M:(og s.data.toList).getLast? =some []:=by
    rw[<-v.out,List.getLast?_eq_getElem?,cF,m.out,B.out,eu,di,G.out];rfl
   have aM:(d.take k).length=k:=by rw[du,m.out,B.out];omega
   refine⟨g,p,d.take k,congrArg (λr=>Ending.returned (af (some ⟨g,0,none⟩) r p)) aM.symm,?_,y.out.1.1,y.out.1.2,λj x h=>y.out.2.2 j x ?_⟩
   ·unfold Jv;rw[if_pos M,<-v.out,List.dropLast_eq_take,cF,m.out,B.out,eu,List.map_take]
   ·rw[jz]at h;split at h
    ·exact h
    ·cases h
  ·have a1:(x.toList==[])=false:=dM.2 λr=>L (kJ r);have M:¬(og s.data.toList).getLast? =some []:=by
    rw[<-v.out,List.getLast?_eq_getElem?,cF,m.out,B.out,eu,di,G.out];exact λr=>L (kJ (by rw[Lib.toList_data];exact aJ r))
   have aE:=av M;clear M L;go_wp2_with fail
   go_ret
   refine⟨g,p,d,congrArg (λr=>Ending.returned (af (some ⟨g,0,none⟩) r p)) m.out.symm,?_,y.out.1.1,y.out.1.2,y.out.2.2⟩;unfold Jv;rw[if_neg aE.out];exact v.out
def P7:aq:=⟨#[97,108,105,118,101]⟩
theorem QO:Lib.itoa 4=[52]:=by simp[Lib.itoa,Lib.decDigits]
theorem NT{a b:Nat}{ps:bm}{r:Int×Tc}(c:iE (kA v)=some (a,b))(d:dr v a b=ps)(e:(ps.length=1+a+b/\ps.getD 0 .empty=kA v)/\∀i,i<a->(qS ps i).isSome=true)(f:(if b=0 then (0,tT)else rdT (ps.getD (1+a) .empty))=r)(g:kA v=wd):dkRead v=(r.1,wd,if 0<a then (qS ps 0).getD 0 else 0,if 1<a then (qS ps 1).getD 0 else 0,r.2):=by
 unfold dkRead;rw[c];simp only;rw[d,if_pos e,f,g]
theorem OX{D:qq×Int×List UInt8}(c:dkRead v=(0,wd,a,b,t))(d:kT o wd a b t=D):dkAns o v=(D.1,if D.2.1=0 then D.2.2 else iU D.2.1):=by
 unfold dkAns;simp only[c,cD,d]
theorem QP:dkRead P7=(0,gB,0,0,tT):=(NT (a:=0) (b:=0) (ps:=[gB]) (by kernel_rfl) (by kernel_rfl) ⟨⟨rfl,by kernel_rfl⟩,λi c=>absurd c (Nat.not_lt_zero i)⟩ (if_pos rfl) (wd:=gB) (by kernel_rfl)).trans (by kernel_rfl)
def Qo:aq:=⟨#[35,10,10,97,108,105,118,101]⟩
def Qn:List UInt8:=[101,114,114,111,114,32,52,10]
theorem O5:dkRun Qo=Qn:=by
 have f:gw Qo=[⟨#[35]⟩,⟨#[]⟩,P7]:=by kernel_rfl
 have a:mj ⟨#[35]⟩=false/\mj ⟨#[]⟩=false/\mj P7=true:=⟨by kernel_rfl,by kernel_rfl,by kernel_rfl⟩;have e:dkAns none P7=(none,iU 4):=OX QP (D:=(none,4,[])) rfl;unfold dkRun;rw[f,if_neg (by decide)];have b:dkStep (none,[]) ⟨#[35]⟩=(none,[]):=if_neg (by rw[a.1];decide);have c:dkStep (none,[]) ⟨#[]⟩=(none,[]):=if_neg (by rw[a.2.1];decide);have d:dkStep (none,[]) P7=(none,[]++iU 4++ [10]):=by
  unfold dkStep;rw[if_pos a.2.2,e]
 simp only[gh,List.foldl_nil];rw[b,c,d];simp[iU,QO,Qn]
theorem BR(g:aq)(M:Cx B w)(aj:B<=w.heap.size):au 4 #[ag g] w λe w'=>e=aw (.bool true)/\ap w w':=by
 have R:Hid (∀z q,ap w q->au 5 #[ag z] q λe w'=>e=aw (ag ⟨(dkRun z).toArray⟩)/\Hid (ap q w'/\(dkRun z).length<=5000000000000)):=λz q al=>KI z (M.on (al.mono aj)) (aG aj al.size);have aa:Hid (dkRun Qo=Qn):=O5;have o:=av (Fl g);clear M;go_enter func4,ntmps4;go_wp2_with fail;refine(R.out Qo w (aH _ _)).mono ?_;rw[aa.out];rintro e aM ⟨rfl,an⟩;have C:=av an.out.1;clear an;unfold Qn;go_wp2_with fail;refine(R.out g aM C).mono ?_;rintro e aO ⟨rfl,N⟩;have D:=av (C.out.trans (N.out.1.mono C.out.size));have J:=av N.out.2;clear R aa N C;by_cases ao:(65536:Int)<(g.size:Int)
 ·have e:dkRun g=iU 2++ [10]:=by
    have:=o.out;rw[if_pos (ak (by omega))]at this;exact this
  have v:(⟨(iU 2++ [10]).toArray⟩:aq)=⟨#[101,114,114,111,114,32,50,10]⟩:=by
   have Y:Lib.itoa 2=[50]:=by simp[Lib.itoa,Lib.decDigits]
   unfold iU;rw[Y];rfl
  rw[e,v];clear o J e v;go_wp2_with fail
  go_ret
  exact⟨rfl,D⟩
 obtain⟨a,j⟩:∃a:aq,⟨(dkRun g).toArray⟩=a:=⟨_,rfl⟩;have u:=av j;rw[j];clear j;have I:=av (λq=>N8 g (by omega) q);go_wp2_with fail;refine(I.out aO).mono ?_;rintro e aP ⟨aU,c,K,rfl,O⟩;have G:=av O.out.1;have E:=av (D.out.trans (O.out.2.1.mono D.out.size));clear O D;by_cases aE:(200:Int)<(K.length:Int)
 ·have e:dkRun g=iU 2++ [10]:=by
    have i:=o.out;have x:K.length=(Jv g.data.toList).length:=by rw[<-G.out,cF]
    rw[if_pos (am (by omega))]at i;exact i
  have v:a=⟨#[101,114,114,111,114,32,50,10]⟩:=by
   have Y:Lib.itoa 2=[50]:=by simp[Lib.itoa,Lib.decDigits]
   rw[<-u.out,e];unfold iU;rw[Y];rfl
  rw[v];clear o J u e v I;go_wp2_with fail
  go_ret
  exact⟨rfl,E⟩
 have P:Hid (((Jv g.data.toList).filter Qr).length<=a.data.toList.count 10/\(a=⟨#[]⟩\/∃n,a.data.toList=n++ [10])/\a.size<=5000000000000):=by
  have i:=o.out;have x:K.length=(Jv g.data.toList).length:=by rw[<-G.out,cF]
  rw[if_neg (by omega)]at i;have y:a.data.toList=dkRun g:=by rw[<-u.out]
  refine⟨by rw[y];exact i.1,?_,?_⟩
  ·rcases i.2 with t|⟨n,t⟩
   ·exact ak (by rw[<-u.out,t])
   ·exact am ⟨n,by rw[y,t]⟩
  ·rw[Lib.size_eq,y];exact J.out
 have aA:=av ao;clear o J u;go_wp2_with fail;refine(I.out aP).mono ?_;rintro e aQ ⟨aW,aS,h,rfl,A⟩;have Q:=av A.out.1;have ab:=av (E.out.trans (A.out.2.1.mono E.out.size));have ad:=av A.out.2.2.2;have aC:h.length=K.length:=by
  have:=congrArg List.length (Q.out.trans G.out.symm);simpa using this
 have aF:h.length<=200:=by omega
 clear A I E aA ao aE aC G;go_wp2_with fail;go_loopw [4,6,25] (λaL _ X wr=>∃(d f:Nat),d<=h.length/\X=ae d/\aL=ae f/\wr=aQ/\Hid (f=((h.take d).filter mj).length)) (λ_ _ X _=>h.length-(intOf X).toNat)
 case atStart=>exact⟨0,0,aN _,rfl,rfl,rfl,rfl⟩
 case round=>
 obtain⟨d,f,aD,rfl,rfl,rfl,H⟩:=hrel;have ai:Hid (f<=200):=by
  have i:=List.length_filter_le mj (h.take d);have x:=H.out;rw[du]at i;show f<=200;omega
 by_cases T:d<h.length
 ·have aI:(0:Int)<=(d:Int):=by omega
  have aJ:(d:Int)<(h.length:Int):=by omega
  obtain⟨m,V⟩:∃m,h[d]?=some m:=⟨_,aV T⟩;have aR:=ad.out d m V;have aB:IntKind.i64.wrap ((f:Int)+1)=(f:Int)+1:=zC (by have:=ai.out;omega);have p:Hid (((h.take (d+1)).filter mj).length=f+if mj m=true then 1 else 0):=by
   show _=_;rw[dL,V,List.filter_append,br,<-H.out];congr 1;cases M:mj m<;>simp[M]
  clear V;by_cases W:m=⟨#[]⟩
  ·subst W;go_wp2_with fail;go_roundw
   case rel=>exact⟨d+1,f,by omega,by go_num,rfl,trivial,p.out.symm⟩
   case measure=>simp[intOf];omega
  ·obtain⟨b,l,rfl⟩:∃b l,m=⟨⟨b::l⟩⟩:=by
     rcases m with⟨⟨l⟩⟩;cases l with
     | nil=>exact absurd rfl W
     | cons b l=>exact⟨b,l,rfl⟩
   have ax:(⟨⟨b::l⟩⟩:aq).toList.isEmpty=false:=by rw[Lib.toList_data];rfl
   have a0:0<(⟨⟨b::l⟩⟩:aq).size:=Nat.zero_lt_succ _;have Z:¬(⟨⟨b::l⟩⟩:aq).toList=[]:=by rw[Lib.toList_data];simp
   have ay:(⟨⟨b::l⟩⟩:aq)[0]=b:=rfl;have s:=Mn b 35;have az:mj ⟨⟨b::l⟩⟩=(b !=35):=rfl;rw[az]at p;clear az W;cases hch:(b !=35)
   ·rw[hch]at s p;have aK:((b.toNat:Int) !=35)=false:=s;clear s hch;go_wp2_with fail;go_roundw
    case rel=>exact⟨d+1,f,by omega,by go_num,rfl,trivial,p.out.symm⟩
    case measure=>simp[intOf];omega
   ·rw[hch]at s p;have aK:((b.toNat:Int) !=35)=true:=s;clear s hch;go_wp2_with fail;go_roundw
    case rel=>exact⟨d+1,f+1,by omega,by go_num,by go_num,trivial,p.out.symm⟩
    case measure=>simp[intOf];omega
 ·obtain rfl:d=h.length:=by omega
  have af:Hid ((f:Int)<=(Lib.countByte a.data.toList 10:Nat)):=by
   have i:=P.out.1;have x:=H.out;rw[List.take_length,yK,Q.out]at x;show (f:Int)<=((a.data.toList.count 10:Nat):Int);omega
  have kc:((Lib.countByte a.data.toList 10:Nat):Int)>=(f:Int):=af.out;have F:=av P.out.2;clear ad H P af Q ai aF aD T;go_wp2_with fail;refine(Tryz.strings_Count_one a 10 wr).mono ?_;rintro e a1 ⟨rfl,rfl⟩;generalize ((Lib.countByte a.data.toList 10:Nat):Int)=aT at kc ⊢;rcases a with⟨⟨r⟩⟩;cases r with
  | nil=>
   go_wp2_with fail
   go_ret
   exact⟨rfl,ab⟩
  | cons L r=>
   have ax:(⟨⟨L::r⟩⟩:aq).toList.isEmpty=false:=by rw[Lib.toList_data];rfl
   have Z:¬(⟨⟨L::r⟩⟩:aq).toList=[]:=by rw[Lib.toList_data];simp
   have ay:((⟨⟨L::r⟩⟩:aq).toList==[])=false:=dM.2 Z;obtain⟨a,j⟩:∃a:aq,⟨⟨L::r⟩⟩=a:=⟨_,rfl⟩;rw[j]at ax Z ay F ⊢;have aZ:0<a.size:=by rw[<-j];exact Nat.zero_lt_succ _
   obtain⟨n,U⟩:∃n,a.data.toList=n++ [10]:=F.out.1.resolve_left λt=>by rw[<-j]at t;cases t
   clear j;obtain⟨k,S⟩:∃k,a.size=k+1:=⟨a.size-1,by omega⟩;have aY:=F.out.2;have ar:n.length=k:=by
    have:=congrArg List.length U;rw[<-Lib.size_eq,S]at this;simpa using this.symm
   have T:k<a.size:=by omega
   have aX:a[k]=10:=by
    have i:a.data.toList[k]?=some 10:=by rw[U,<-ar];simp
    obtain⟨x,y⟩:=bj.1 i;exact y
   have aB:IntKind.i64.wrap ((a.size:Int)-1)=(k:Int):=by
    rw[S,IntKind.wrap];simp[IntKind.bits,IntKind.signed];omega
   have aI:(0:Int)<=(k:Int):=by omega
   have aJ:(k:Int)<(a.size:Int):=by omega
   clear S U ar F;go_wp2_with fail
   go_ret
   exact⟨rfl,ab⟩
end Go.Proofs.YthjclakhibnamaaGreatDoor

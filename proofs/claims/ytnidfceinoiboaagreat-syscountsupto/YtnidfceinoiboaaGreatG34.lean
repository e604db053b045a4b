/- What is proved here: plain facts and contracts that the claimed theorem stands on. No condition but those that each names. -/
import Derived.Test.YtnidfceinoiboaaGreatG33
namespace Go.Proofs.YtnidfceinoiboaaGreat
open Go.RowKit
set_option maxRecDepth 100000
set_option maxHeartbeats 4000000
theorem Kq:(Tryz.prog.info? 65).map (λi=>(i.zero,i.size,i.bytes))=some (some (.pointer none),1,8):=by kernel_rfl
theorem DL(m:Nat)(pa:Option Addr)(pl pc:Nat)(may:Bool)(room:Int)(w:World)(u x y:Nat->Int)(nm z:Nat->ByteArray)(xa:Nat->Option Addr)(A xc:Nat->Nat)(l:Nat->Bool)(ne:Nat->Int)(r:Nat->List Nat->Value->World->Prop)(N:Nat->Nat->List Nat->Value->World->Prop)(R:Value->Bool->World->Prop)(bF:pl<=1000)(bz:m<w.heap.size)(aK:Hid (w.cell? ⟨m,1,none⟩=some (.int .i64 room)))(X:Hid (∀j,j<pl->∃g,pa=some ⟨g,0,none⟩/\g<w.heap.size/\Hid (w.cell? ⟨g,j*6,none⟩=some (.int .i64 (u j))/\w.cell? ⟨g,j*6+1,none⟩=some (.string (nm j))/\w.cell? ⟨g,j*6+2,none⟩=some (.int .i64 (x j))/\w.cell? ⟨g,j*6+3,none⟩=some (.int .i64 (y j))/\w.cell? ⟨g,j*6+4,none⟩=some (.string (z j))/\w.cell? ⟨g,j*6+5,none⟩=some (.slice (xa j) (A j) (xc j)))))(aN:Hid (Calls Tryz.prog 29 #[.pointer (some ⟨m,0,none⟩),.int .i64 pl] w λe w'=>e=.returned (.bool may)/\w'=w))(Z:Hid (∀j W,j<pl->Below w.heap.size w W->Calls Tryz.prog 30 #[.pointer (some ⟨m,0,none⟩),.string (nm j)] W λe w'=>e=.returned (.bool (l j))/\Below W.heap.size W w'))(aa:Hid (∀j d v W,j<pl->l j=true->Below w.heap.size w W->r j d v W->Calls Tryz.prog 31 #[.string (nm j),.agg #[.int .i64 (x j),.int .i64 (y j),.string (z j),.slice (xa j) (A j) (xc j)],.int .i64 room] W λe w'=>∃p:Option Addr,e=.returned (.tuple #[.pointer p,.int .i64 (ne j)])/\Hid (Below W.heap.size W w'/\(ne j=0->∃k,p=some ⟨k,0,none⟩/\N j k d v w'))))(al:Hid (r 0 [] (.slice none 0 0) w))(q:Hid (∀j d v W E,r j d v W->Below W.heap.size W E->r j d v E))(O:Hid (∀j k d a c g bi W aB E,j<pl->N j k d (.slice a j c) W->Below W.heap.size W aB->aB.grownBy E (Value.slice a j c).ownBlock->((Value.slice a j c).ownBlock=some g\/g=aB.heap.size)->g<E.heap.size->r (j+1) (d++ [k]) (.slice (some ⟨g,0,none⟩) (j+1) bi) E))(L:Hid (∀W,Below w.heap.size w W->(may=false\/∃j,j<pl/\(l j=false\/ne j≠0))->R (.slice none 0 0) false W))(aj:Hid (∀W d a c,Below w.heap.size w W->may=true->(∀j,j<pl->l j=true/\ne j=0)->d.length=pl->W.ownsRow w.heap.size 65 1 (.slice a pl c) pl (d.map xI)->r pl d (.slice a pl c) W->R (.slice a pl c) true W)):Calls Tryz.prog 36 #[.pointer (some ⟨m,0,none⟩),.slice pa pl pc] w λe w'=>∃v b,e=.returned (.tuple #[v,.bool b])/\Hid (R v b w'):=by
 obtain⟨bA,a4,a7,a8,a9⟩:=bM Kq;have Y:=ai (⟨a4,a7,a8,a9⟩:_/\_/\_/\_);clear a4 a7 a8 a9;go_enter Tryz.func36,Tryz.ntmps36;go_wp2_with fail;refine aN.out.mono ?_;rintro e bJ ⟨rfl,ba⟩;obtain rfl:=ba.symm;clear ba aN;cases may
 ·have n:=ai (L.out _ (ah _ _) (ae rfl));clear L aj O al q aa Z X;go_wp2_with fail;exact ao (v:=.tuple #[.slice none 0 0,.bool false]) (by simp[results,Tryz.results36,go_sem]) rfl ⟨_,_,rfl,n.out⟩
 go_wp2_with fail;go_loopw [6,18] (λo i wr=>∃(j:Nat)(a:Option Addr)(c:Nat),j<=pl/\i=.int .i64 j/\o=.slice a j c/\Hid (∃d,d.length=j/\wr.ownsRow w.heap.size 65 1 (.slice a j c) j (d.map xI)/\r j d (.slice a j c) wr/\Below w.heap.size w wr/\∀i,i<j->l i=true/\ne i=0)) (λ_ i _=>pl-(intOf i).toNat)
 case atStart=>exact⟨0,none,0,aD _,rfl,rfl,[],rfl,eg _ _ _ _,al.out,ah _ _,λi h=>by omega⟩
 case round=>
 obtain⟨j,a,c,bE,rfl,rfl,ad⟩:=hrel;by_cases S:j<pl
 ·obtain⟨g,rfl,bx,aL⟩:=X.out j S;obtain⟨d,Q,T,V,F,U⟩:=ad.out;have aS:=ai T;have aY:=ai V;have HB:=ai F;have aR:=ai U;have bw:=ai Q;have s:∀{f:Nat}{v:Value},w.cell? ⟨g,f,none⟩=some v->wr.cell? ⟨g,f,none⟩=some v:=λ{f v} h=>(F.cell (p:=⟨g,f,none⟩) bx).trans h;obtain⟨aZ,an,ap,a0,a1,a2⟩:=aL.out;have bn:=s aZ;have bo:=s an;have bp:=s ap;have bq:=s a0;have br:=s a1;have bs:=s a2;have bH:(0:Int)<=(j:Int):=by omega
  have bI:(j:Int)<(pl:Int):=by omega
  clear s aZ an ap a0 a1 a2 aL X T V F U Q ad;go_upto_region 7 with fail;generalize bb:wr.alloc _=aq;have G:Hid (Below wr.heap.size wr aq/\aq.heap[wr.heap.size]?=some (.cells #[.int .i64 (u j),.string (nm j),.int .i64 (x j),.int .i64 (y j),.string (z j),.slice (xa j) (A j) (xc j)] 150)):=by
   rw[<-bb];exact⟨(ah _ _).alloc (ag _) _,ax _ _⟩
  clear bb bn bo bp bq br bs;obtain⟨f,aH⟩:∃f,f=wr.heap.size:=⟨_,rfl⟩;rw[<-aH];have ay:Hid (aq.heap[f]?=some (.cells #[.int .i64 (u j),.string (nm j),.int .i64 (x j),.int .i64 (y j),.string (z j),.slice (xa j) (A j) (xc j)] 150)):=by rw[aH];exact G.out.2
  have H:=ai (HB.out.trans (G.out.1.mono HB.out.size));have aV:=ai (q.out _ _ _ _ _ aY.out G.out.1);have aO:=ai (aT aS.out (aC G.out.1 λ_=>False) λ_ _ h=>h);clear aH G aS aY HB;have D:Hid (∀W:World,Below w.heap.size w W->W.heap[f]?=some (.cells #[.int .i64 (u j),.string (nm j),.int .i64 (x j),.int .i64 (y j),.string (z j),.slice (xa j) (A j) (xc j)] 150)->W.cell? ⟨m,1,none⟩=some (.int .i64 room)/\W.cell? ⟨f,1,none⟩=some (.string (nm j))/\W.cell? ⟨f,2,none⟩=some (.int .i64 (x j))/\W.cell? ⟨f,3,none⟩=some (.int .i64 (y j))/\W.cell? ⟨f,4,none⟩=some (.string (z j))/\W.cell? ⟨f,5,none⟩=some (.slice (xa j) (A j) (xc j))):=λW aF h=>⟨(aF.cell (p:=⟨m,1,none⟩) bz).trans aK.out,ab h 1,ab h 2,ab h 3,ab h 4,ab h 5⟩;have aE:=(D.out aq H.out ay.out).2.1;have aM:=ai (λW=>Z.out j W S);have au:=ai (λd v W=>aa.out j d v W S);have M:=ai (λW aF e=>L.out W aF (af ⟨j,S,e⟩));have aw:Hid (l j=true->ne j=0->∀i,i<j+1->l i=true/\ne i=0):=λbu bv i bD=>by
   by_cases e:i=j
   ·subst e;exact⟨bu,bv⟩
   ·exact aR.out i (by omega)
  clear Z aa L aj aK aR al;generalize l j=bB at*;generalize ne j=bc at*;go_wp2_with fail;refine(aM.out _ H.out).mono ?_;rintro e ar ⟨rfl,P⟩;have C:=ai (H.out.trans (P.mono H.out.size));have ak:=ai (fF P ay.out);have aA:=ai (q.out _ _ _ _ _ aV.out P);have av:=ai (aT aO.out (aC P λ_=>False) λ_ _ h=>h);clear aM H ay aV aO P aE;cases bB
  ·have n:=ai (M.out _ C.out (ae rfl));clear M au D aA av ak C O q aw;go_wp2_with fail;exact ao (v:=.tuple #[.slice none 0 0,.bool false]) (by simp[results,Tryz.results36,go_sem]) rfl ⟨_,_,rfl,n.out⟩
  have K:Hid (Below ar.heap.size ar ar.drew):=(ah _ _).drew;have J:=ai (C.out.trans (K.out.mono C.out.size));have az:=ai (fF K.out ak.out);have aW:=ai (q.out _ _ _ _ _ aA.out K.out);have aQ:=ai (aT av.out (aC K.out λ_=>False) λ_ _ h=>h);obtain⟨bm,aE,bj,bk,bl,am⟩:=D.out ar C.out ak.out;clear av aA;go_upto_region 9 with fail
  go_region_held3 (λW=>W.cell? ⟨m,1,none⟩=some (.int .i64 room)/\W.cell? ⟨f,1,none⟩=some (.string (nm j))/\W.cell? ⟨f,2,none⟩=some (.int .i64 (x j))/\W.cell? ⟨f,3,none⟩=some (.int .i64 (y j))/\W.cell? ⟨f,4,none⟩=some (.string (z j))/\W.cell? ⟨f,5,none⟩=some (.slice (xa j) (A j) (xc j)))
   (first|exact D.out _ J.out az.out|exact D.out _ I.out aU.out) ((first
    | (go_at_call 31;refine(au.out _ _ _ (by first|rfl|trivial) J.out aW.out).mono ?_;rintro e aJ ⟨bC,rfl,B⟩;have aU:=ai (fF B.out.1 az.out);have I:=ai (J.out.trans (B.out.1.mono J.out.size));have aP:=ai (aT aQ.out (aC B.out.1 λ_=>False) λ_ _ h=>h))))
  clear bm aE bj bk bl am D az J K ak C au aU aW aQ;by_cases aI:bc=0
  ·subst aI;obtain⟨k,rfl,bg⟩:∃k,bC=some ⟨k,0,none⟩/\Hid (N j k d (.slice a j c) aJ):=by
    obtain⟨k,an,ap⟩:=B.out.2 rfl;exact⟨k,an,ap⟩
   have bf:=ai I.out.size;clear M B
   go_wp2_with (first
    | (at_builtin;refine wpList_append_lies _ rfl _ _ 103 rfl w.heap.size 65 bA _ 1 8 Tryz.underlying103 Y.out.1 Y.out.2.1 Y.out.2.2.1 Y.out.2.2.2 rfl (by decide) (.slice a j c) j (d.map xI) rfl (aP.out.alloc _) ⟨aJ.heap.size,0,none⟩ 1 1 [.pointer (some ⟨k,0,none⟩)] rfl rfl (World.news_of_block (cs:= #[.pointer (some ⟨k,0,none⟩)]) (t:=65) (fr:=(0,0)) (ax aJ _)) (by simp[Value.oneCell']) (by decide) (by unfold maxLen;omega) (by omega) (by have:=bf.out;simp;omega) _ rfl ?_;intro bt am bK a6 aG a3 a5;have be:=ai a6;have bh:=ai (O.out _ _ _ _ _ _ am _ _ _ S bg.out ((ah _ _).alloc (ag _) _) aG a3 a5);have bd:=ai (I.out.trans (js aP.out aG I.out.size));clear a6 aG a3 a5))
   go_roundw
   case rel=>exact⟨j+1,some ⟨bt,0,none⟩,am,by omega,by go_num,rfl,d++ [k],by rw[aX,bw.out];rfl,by rw[ft];exact be.out,bh.out,bd.out,aw.out trivial rfl⟩
   case measure=>simp[intOf];omega
  ·have n:=ai (M.out _ I.out (af aI));have bG:(bc==0)=false:=by simpa using aI
   clear M B O q aw;go_wp2_with fail;exact ao (v:=.tuple #[.slice none 0 0,.bool false]) (by simp[results,Tryz.results36,go_sem]) rfl ⟨_,_,rfl,n.out⟩
 ·obtain rfl:j=pl:=by omega
  obtain⟨d,Q,T,V,F,U⟩:=ad.out;have n:=ai (aj.out _ d _ _ F trivial U Q T V);clear L aj O al q aa Z X ad Q T V F U;go_wp2_with fail;exact ao (v:=.tuple #[.slice a j c,.bool true]) (by simp[results,Tryz.results36,go_sem]) rfl ⟨_,_,rfl,n.out⟩
def xK(K:Nat)(b:List (Int×Tc))(c:List (Int×ByteArray×Tc))(a:List Int):Prop:=(b.length<=K/\c.length<=K/\a.length<=K)/\(∀x∈b,dc x.1)/\∀x∈a,dc x
theorem CK{b:List Tc}{self:Int}{n:Nat}{x:Tm n}{u:Int}(a:lB b self n x=some u):dc u:=by
 unfold lB qn at a;cases f:vl 13 b self n x with
 | none=>rw[f]at a;cases a
 | some e=>
  rw[f,dk]at a;by_cases d:bA (13+n) e=0
  ·rw[if_pos d,dk]at a;by_cases c:(cn (13+n) e).1.1=3
   ·rw[if_pos c]at a;obtain rfl:=ap a;have h:aB ⟨13,cn (13+n) e⟩:=aJ.2 (bv.1 (AG d)).1;have g:=h _ (nU);simp only[bT,c]at g;simp[kK]at g;unfold dc;omega
   ·rw[if_neg c]at a;cases a
  ·rw[if_neg d]at a;cases a
theorem Kl{self:Int}{n K:Nat}{a:Ac (n+1)}{d e:Dg}(b:sV self a d=some e)(k:xK K d.sends d.spawns d.links):xK (K+1) e.sends e.spawns e.links:=by
 unfold sV at b;obtain⟨⟨o,p,q⟩,f,g⟩:=k;split at b
 ·obtain⟨m,h,b⟩:=bz.1 b;obtain⟨t,l,rfl⟩:=cD.1 b;refine⟨⟨by simp;omega,by simp;omega,by simp;omega⟩,λj i=>?_,g⟩;rcases di.1 i with c|c
  ·exact f j c
  ·rw[dj.1 c];exact CK h
 ·split at b
  ·obtain⟨t,l,b⟩:=bz.1 b;split at b
   ·obtain rfl:=ap b;exact⟨⟨by simp;omega,by simp;omega,by simp;omega⟩,f,g⟩
   ·cases b
  ·split at b
   ·obtain⟨m,h,rfl⟩:=cD.1 b;refine⟨⟨by simp;omega,by simp;omega,by simp;omega⟩,f,λj i=>?_⟩;rcases di.1 i with c|c
    ·exact g j c
    ·rw[dj.1 c];exact CK h
   ·obtain rfl:=ap b;exact⟨⟨by simp;omega,by simp;omega,by simp;omega⟩,f,g⟩
theorem Fy{self:Int}{n:Nat}:(l:List (Ac (n+1)))->{K:Nat}->{d b:Dg}->qA self l d=some b->xK K d.sends d.spawns d.links->xK (K+l.length) b.sends b.spawns b.links
 | [],K,d,b,c,hk=>by
  obtain rfl:=ap c;exact hk
 | a::l,K,d,b,c,hk=>by
  unfold qA at c;obtain⟨e,f,c⟩:=bz.1 c;have:=Fy l c (Kl f hk);rw[aW,show K+(l.length+1)=K+1+l.length by omega];exact this
theorem clsC_mem{n:Nat}{s m:Tc}:(l:List (Cl (n+1)))->{y:Cl (n+1)×List Tc}->oh s m l=some y->y.1∈l
 | [],y,h=>by simp[oh]at h
 | c::l,y,h=>by
  unfold oh at h;cases e:lW c s m with
  | none=>
   rw[e]at h;exact bR _ (clsC_mem l h)
  | some b=>
   rw[e]at h;obtain rfl:=ap h;exact nU
theorem Ck{n:Nat}{l:List (Cl (n+1))}{s:Tc}:(ms:List Tc)->(i:Nat)->{x:Nat×Cl (n+1)×List Tc}->uQ l s ms i=some x->x.2.1∈l
 | [],i,x,h=>by simp[uQ]at h
 | m::ms,i,x,h=>by
  unfold uQ at h;cases e:oh s m l with
  | none=>
   rw[e]at h;exact Ck ms (i+1) h
  | some y=>
   rw[e]at h;obtain rfl:=ap h;exact clsC_mem l e
theorem py{n:Nat}{name:ByteArray}:(l:List (Bh n))->{b:Bh n}->gm n name l=some b->b∈l/\b.1=name
 | [],b,h=>by simp[gm]at h
 | c::l,b,h=>by
  unfold gm at h;split at h
  ·rename_i e;obtain rfl:=ap h;exact⟨nU,e⟩
  ·exact⟨bR _ (py l h).1,(py l h).2⟩
theorem A4{n:Nat}{prog:List (Bh (n+1))}(c:jy (n+1) prog=true){nm:ByteArray}(d:mR n prog nm=true):nm.size<=2048:=by
 obtain⟨b,g⟩:=fL.1 d;obtain⟨e,f⟩:=py prog g;unfold jy at c;simp only[az,bS]at c;have a:=c.2 b e;unfold sI at a;simp only[az]at a;rw[<-f];exact vh a.1.1.1
theorem GR{n:Nat}{room:Int}{l:List (Bh (n+1))}(j:jy (n+1) l=true){name:ByteArray}{self next:Int}{s:Tc}{ms:List Tc}{f:Tk}(e:ng room l name self next s ms=some f):xK 8 f.sends f.spawns f.links:=by
 unfold ng at e;obtain⟨c,p,e⟩:=bz.1 e;obtain⟨y,u,rfl⟩:=cD.1 e;have a:=Ck ms 0 p;have r:c.2.1.2.2.length<=8:=by
  unfold gV at a;cases g:gm (n+1) name l with
  | none=>rw[g]at a;simp at a
  | some b=>
   rw[g]at a;have a:c.2.1∈b.2.2:=a;unfold jy at j;simp only[az,bS]at j;have h:=j.2 b (py l g).1;unfold sI at h;simp only[az,bS]at h;have k:=h.2 _ a;unfold ri at k;simp only[az,bN]at k;omega
 have i:xK 8 [] [] []:=⟨⟨by simp,by simp,by simp⟩,by simp,by simp⟩;unfold eV;cases hd:qA self c.2.1.2.2 ⟨c.2.2,next,[],[],[],false⟩with
 | none=>exact i
 | some d=>
  have o:xK 8 d.sends d.spawns d.links:=by
   obtain⟨⟨v,w,x⟩,q⟩:=Fy _ (K:=0) hd ⟨⟨by simp,by simp,by simp⟩,by simp,by simp⟩;exact⟨⟨by omega,by omega,by omega⟩,q⟩
  cases m:qn d.b self (n+1) c.2.1.1.2.2 with
  | none=>simp only[m];exact i
  | some t=>
   simp only[m];split
   ·exact o
   ·exact i
theorem tH{b:Type}(f:b->List Value)(k:Nat)(a:∀z,(f z).length=k):(l:List b)->(i:Nat)->(z:b)->l[i]?=some z->∀(t:Nat)(u:Value),(f z)[t]?=some u->(l.flatMap f)[i*k+t]?=some u
 | [],i,z,h,_,_,_=>by simp at h
 | x::l,0,z,h,t,u,hu=>by
  simp at h;subst h;rw[bj,cY (by have:=(aK.1 hu).1;omega)];simpa using hu
 | x::l,i+1,z,h,t,u,hu=>by
  rw[bj,dN (by rw[a,ip];omega),a,show (i+1)*k+t-k=i*k+t by rw[ip];omega];exact tH f k a l i z (by simpa using h) t u hu
theorem pS{w:World}{base:Nat}{e:TypeId}{k:Nat}{v:Value}{n:Nat}{o:Type}{f:o->List Value}{l:List o}(h:w.ownsRow base e k v n (l.flatMap f))(A:0<k)(j:∀z,(f z).length=k):∃a c,v=.slice a n c/\(∀b,a=some b->v.ownBlock=some b.block)/\∀(i:Nat)(z:o),l[i]?=some z->∃g,a=some ⟨g,0,none⟩/\g<w.heap.size/\∀(t:Nat)(u:Value),(f z)[t]?=some u->w.cell? ⟨g,i*k+t,none⟩=some u:=by
 have q:=h;rcases h.2 with⟨rfl,p⟩|⟨g,c,C,rfl,D,y,F⟩
 ·refine⟨none,0,by rw[p],(λb e=>by cases e),λi z m=>?_⟩;have r:=tH f k j l i z m 0 _ (aA (by rw[j];exact A));have E:=(aK.1 r).1;have s:=h.1;rw[p,Nat.zero_mul]at s;omega
 ·refine⟨_,c,rfl,(λb e=>by cases e;rfl),λi z m=>⟨g,rfl,(aE.1 y).1,λt u B=>?_⟩⟩;have x:=World.ownsRow.cells q (g:=g) rfl _ _ (tH f k j l i z m t u B);rwa [show∀d,(⟨g,0,none⟩:Addr).add d=⟨g,d,none⟩from λd=>by cases d<;>simp[Addr.add]]at x
def eJ(n:Nat)(x:Tm (n+1)):ByteArray:=if x.1.1=4 then match x.2.2[0]? with|some a=>if bE ⟨n,a⟩=2 then (iv n a).1.2.2 else .empty|none=> .empty else .empty
def bB(n:Nat)(x:Tm (n+1)):List (Tm n):=if x.1.1=4 then match x.2.2[0]? with|some a=>if bE ⟨n,a⟩=2 then x.2.2.drop 1 else []|none=> []else []
def rq(a s:ByteArray):Bool:=a.toList==s.toList
def Cg:(n:Nat)->Tm n->List (Tm (n-1))
 | 0,_=> []
 | _+1,x=>x.2.2
def vg(n:Nat)(x:Tm n):ByteArray:=(iv n x).1.2.2
def xb(M n:Nat)(a b c:Tm n):Option (Ac (M+1)):=if bE ⟨n,a⟩=2/\bE ⟨n,c⟩=5 then some (2,(zT M,aI (M+1) n b),(vg n a,om n c))else none
def jg(M n:Nat)(d:ByteArray)(q:List (Tm n)):Option (Ac (M+1)):=
 if (rq d iP && decide (q.length=2))=true then (q[0]?).bind λa=>(q[1]?).bind λb=>some (1,(aI (M+1) n a,aI (M+1) n b),(.empty,0))
 else if (rq d jj && decide (q.length=3))=true then (q[0]?).bind λa=>(q[1]?).bind λb=>(q[2]?).bind λc=>xb M n a b c
 else if (rq d mA && decide (q.length=1))=true then (q[0]?).bind λa=>some (3,(aI (M+1) n a,zT M),(.empty,0))
 else if (rq d mB && decide (q.length=0))=true then some (4,(zT M,zT M),(.empty,0))else none
def qK(M:Nat):(n:Nat)->Tm n->Option (Ac (M+1))
 | 0,_=>none
 | n+1,x=>jg M n (eJ n x) (bB n x)
def qL(M n:Nat)(e:ByteArray)(q:List (Tm n)):Option (Cl (M+1)):=
 if (rq e B5 && decide (q.length=4))=true then (q[0]?).bind λa=>(q[1]?).bind λb=>(q[2]?).bind λc=>(q[3]?).bind λd=>
  if bE ⟨n,c⟩=4 then (cF (qK M (n-1)) (Cg n c)).map λl=>((aI (M+1) n a,aI (M+1) n b,aI (M+1) n d),(none,0),l)else none
 else none
def wZ(M:Nat):(n:Nat)->Tm n->Option (Cl (M+1))
 | 0,_=>none
 | n+1,x=>qL M n (eJ n x) (bB n x)
def rN(M n:Nat)(b:ByteArray)(q:List (Tm n)):Option (Bh (M+1)):=
 if rq b nh=true then (q[0]?).bind λa=>if bE ⟨n,a⟩=2 then (cF (wZ M n) (q.drop 1)).map λl=>(vg n a,(none,0),l)else none
 else none
def wY(M:Nat):(n:Nat)->Tm n->Option (Bh (M+1))
 | 0,_=>none
 | n+1,x=>rN M n (eJ n x) (bB n x)
def zy(M:Nat):(n:Nat)->Tm n->Option (List (Bh (M+1)))
 | 0,_=>none
 | n+1,x=>if rq (eJ n x) iO=true then cF (wY M n) (bB n x)else none
def pu{a:Type}(f:a->List Value)(I:Nat->World->a->Prop)(h:(Nat->Prop)->a->Prop)(S:a->a->Prop)(o:Option a)(w:World)(e:Ending)(w':World):Prop:=
 ∃(c:a)(d:Bool),e=.returned (.tuple #[.agg (f c).toArray,.bool d])/\Hid (Below w.heap.size w w'/\d=o.isSome/\I w'.heap.size w' c/\h (λb=>w.heap.size<=b) c/\∀g,o=some g->S c g)
def kE{a:Type}(k:Nat)(f:a->List Value)(I:Nat->World->a->Prop)(i:(Nat->Prop)->a->Prop)(S:a->a->Prop)(o:Option (List a))(w:World)(e:Ending)(w':World):Prop:=
 ∃(l:List a)(d:Option Addr)(c:Nat)(g:Bool),e=.returned (.tuple #[.slice d l.length c,.bool g])/\Hid (Below w.heap.size w w'/\g=o.isSome/\(l.length<=c/\c<=maxLen)/\oF w'.heap.size w' k f (I w'.heap.size w') d l/\rJ (i (λb=>w.heap.size<=b)) (λb=>w.heap.size<=b) d l/\∀h,o=some h->dz S l h)
theorem qr{d e:Type}(f:d->Option e)(p:List d)(k:Nat)(x:d)(i:p[k]?=some x)(l:List e)(y:e)(a:cF f (p.take k)=some l)(j:f x=some y):cF f (p.take (k+1))=some (l++ [y]):=by
 rw[dw,i];have key:∀(c:List d)(l:List e),cF f c=some l->cF f (c++ [x])=some (l++ [y]):=by
  intro c
  induction c with
  | nil=>intro l a;simp[cF]at a;subst a;simp[cF,j]
  | cons n c ih=>
   intro l a;simp only[cF]at a;obtain⟨b,g,a⟩:=bz.1 a;obtain⟨m,h,rfl⟩:=cD.1 a;simp only[fq,cF,g,ih m h];rfl
 exact key _ _ a
end Go.Proofs.YtnidfceinoiboaaGreat

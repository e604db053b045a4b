/- What is proved here: plain facts and contracts that the claimed theorem stands on. No condition but those that each names. -/
import Derived.Test.YtmbjgiaebneodaaGreatG24
namespace Go.Proofs.YtmbjgiaebneodaaGreat
open Go.RowKit
theorem ig {n:Nat} {x:Tm (n+1)} (h:aQ (n+1) x=0) {y:Tm n} (hy:y∈x.2.2):aQ n y=0:=by
 obtain⟨f1,f2,f3⟩:=aN.1 h
 have hr:ai ⟨n+1,x⟩:=ax.2 f1
 have hd:=mJ hr hy
 have gx:=dD (aL n x) (hr (aL n x) (by simp[nodes,aL]))
 have h4:x.1.1=4:=by
  by_cases h4:x.1.1=4
  ·exact h4
  ·have:x.2.2=[]:=List.eq_nil_of_length_eq_zero (gx.2.2.2.2 h4)
   rw[this]at hy
   cases hy
 have hs:=uz (fun y=>1+sz n y) (fun y=>by have:=(dI n y).1;omega) x.2.2 y hy
 simp only[sz,if_pos h4]at f3
 exact aN.2 ⟨ax.1 (aH n x y hr hy),by omega,by
  have hs':1+sz n y<=(x.2.2.map fun y=>1+sz n y).sum:=hs.1
  omega⟩
theorem zY {n:Nat} {x:Tm (n+1)} (h:aQ (n+1) x=0) (i:Nat) {y:Tm n} (hy:x.2.2[i]? =some y):aQ n y=0:=ig h (List.mem_of_getElem? hy)
theorem oK {n N:Nat} (h:n<=N) (x:Tm (n+1)) (hc:aQ (N+1) (lift (N+1) (n+1) x)=0):aQ (n+1) x=0:=by
 have hr:ai ⟨n+1,x⟩:=fun a ha=>(ax.2 (aN.1 hc).1) a (by rw[kT N n h x];exact ha)
 rw[<-aX (fB (N+1) (n+1) (by omega) x hr)]
 exact hc
def Ob {n:Nat} (c:Cl (n+1)):Prop:=aQ (n+1) c.1.1=0/\aQ (n+1) c.1.2.1=0/\aQ (n+1) c.1.2.2=0/\c.2.2.length<=8/\∀a∈c.2.2,PS a
theorem NI {n:Nat} {p:List (Bh (n+1))} (h:lM n p=0):iZ (n+1) p=true/\∀b∈p,b.2.2.length<=6/\∀c∈b.2.2,Ob c:=by
 unfold lM at h
 cases hb:iZ (n+1) p with
 | false=>rw[hb]at h;cases h
 | true=>
  rw[hb,if_pos rfl]at h
  refine⟨rfl,fun b hbm=> ?_⟩
  unfold iZ at hb
  simp only[Bool.and_eq_true,List.all_eq_true]at hb
  have hbb:=hb.2 b hbm
  unfold wP at hbb
  simp only[Bool.and_eq_true,List.all_eq_true,decide_eq_true_eq]at hbb
  refine⟨by omega,fun c hcm=> ?_⟩
  have hcb:=hbb.2 c hcm
  unfold sN at hcb
  simp only[Bool.and_eq_true,List.all_eq_true,decide_eq_true_eq]at hcb
  have h1:aQ (n+5) (dF n b)=0:=ig h (by simp only[bM,bH];exact List.mem_cons_of_mem _ (List.mem_map_of_mem hbm))
  have h2:aQ (n+4) (dL n c)=0:=ig h1 (by simp only[dF,bH];exact List.mem_cons_of_mem _ (List.mem_cons_of_mem _ (List.mem_map_of_mem hcm)))
  have h3:aQ (n+3) (bH (n+2) (c.2.2.map (bT n)))=0:=zY h2 3 rfl
  refine⟨oK (N:=n+2) (by omega) _ (zY h2 1 rfl),oK (N:=n+2) (by omega) _ (zY h2 2 rfl),oK (N:=n+2) (by omega) _ (zY h2 4 rfl),by omega,fun a ham=> ?_⟩
  have h4:aQ (n+2) (bT n a)=0:=ig h3 (by simp only[bH];exact List.mem_map_of_mem ham)
  refine⟨hcb.2 a ham,fun h13=> ?_,fun h12=> ?_⟩
  ·rcases h13 with e|e
   ·exact ig h4 (by simp[bT,e,bH])
   ·exact ig h4 (by simp[bT,e,bH])
  ·rcases h12 with e|e
   ·exact ig h4 (by simp[bT,e,bH])
   ·exact ig h4 (by simp[bT,e,bH])
section
variable {base db:Nat} {self:Int} {n D k:Nat} {nx:Int} {d:Dg} {w:World} {l:List (Tm (D+1))} {bg bc:Nat} {sd:List (Int×Tm (D+1+n+1))} {sp:List (Int×ByteArray×Tm (D+1+n+1))} {sv pv lv:Value}
theorem DoAt.kept (h:DoAt base db self n D k nx d w l bg bc sd sp sv pv lv) {S:Nat->Prop} {w':World} (hk:Kee S w w') (hS:∀b,base<=b->b<w.heap.size->¬S b):DoAt base db self n D k nx d w' l bg bc sd sp sv pv lv:=by
 have hs:=hk.size
 obtain⟨o1,o2,o3,o4,o5⟩:=h.own
 have hin:∀{m:Nat} {x:Tm m},In w.heap.size w m x->Off (MC base db bg sv pv lv) m x->In w'.heap.size w' m x:=fun hi ho=>hi.kee (hk.mono (T:=fun b=>S b/\b<w.heap.size) fun b hb q=>⟨q,hb⟩) (ho.mono fun q hq (z:S q/\q<w.heap.size)=>hS q hq.1 z.2 z.1)
 have hrow:∀{e:TypeId} {z m:Nat} {v:Value} {xs:List Value},w.ownsRow base e z v m xs->w'.ownsRow base e z v m xs:=fun{e z m v xs} hr=>aG hr hk fun q hq hz=>by
  obtain⟨cur,hcu⟩:=dz hr q hq
  refine hS q ?_ (Array.getElem?_eq_some_iff.1 hcu).1 hz
  rcases hr.2 with⟨e1,_⟩|⟨g,cap,cur',e1,hg,_⟩
  ·rw[e1]at hq
   cases hq
  ·rw[e1]at hq
   have:g=q:=Option.some.inj hq
   omega
 refine⟨(hk.block db h.lt (hS db o2 h.lt)).trans h.box,⟨o1,o2,o3,by omega,by omega⟩,h.bnd,h.tells,fun i y hy=> ?_,fun j=> ?_,hrow h.sRow,hrow h.pRow,hrow h.lRow,h.sIs,h.pIs,fun z hz=> ?_,fun z hz=> ?_,h.apart,h.few⟩
 ·obtain⟨a,b,c⟩:=h.row i y hy
  exact⟨a.kee hk o4 (hS bg o3 o4),hin b c,c⟩
 ·have hf:=h.free j
  unfold World.frozen? at hf ⊢
  rw[hk.block bg o4 (hS bg o3 o4)]
  exact hf
 ·obtain⟨a,b,c⟩:=h.sIn z hz
  exact⟨a,hin b c,c⟩
 ·obtain⟨a,b,c⟩:=h.pIn z hz
  exact⟨a,hin b c,c⟩
theorem DoAt.low (h:DoAt base db self n D k nx d w l bg bc sd sp sv pv lv):∀q,jQ db bg sv pv lv q->q<w.heap.size:=by
 have hrow:∀{e:TypeId} {z m q:Nat} {v:Value} {xs:List Value},w.ownsRow base e z v m xs->v.ownBlock=some q->q<w.heap.size:=fun{e z m q v xs} hr hq=>by
  obtain⟨cur,hcu⟩:=dz hr q hq
  exact(Array.getElem?_eq_some_iff.1 hcu).1
 intro q hq
 rcases hq with rfl|rfl|hq|hq|hq
 ·exact h.lt
 ·exact h.own.2.2.2.1
 ·exact hrow h.sRow hq
 ·exact hrow h.pRow hq
 ·exact hrow h.lRow hq
def Ql (pbase pb:Nat) (name:ByteArray) (room:Int) (s:Tc) (ms:List Tc) (nk:Nat) (M:Nat->Prop) (base db:Nat) (self:Int) (n D:Nat) (nx:Int) (c:Cl (n+1)) (b:List Tc) (S:Nat->Prop) (w:World) (f:Int) (w':World):Prop:=
 f=(dR room self nx (cn 13 s) (cn 13 s) (ms.map (cn 13)) c b).fate/\Kee (fun q=>M q∨S q) w w'/\(∃s' ws' nm' sv' vs' ma' mc' Mh',PrAt pbase pb name room 13 s' ms [] (nk+402) (fun q=>M q∨w.heap.size<=q) w' ws' nm' sv' vs' ma' mc' Mh'/\cn 13 s'=(dR room self nx (cn 13 s) (cn 13 s) (ms.map (cn 13)) c b).state)/\
  ((f=0∨f=1)->∃d' l' bg' bc' sd' sp' sv' pv' lv',DoAt base db self n D 8 nx d' w' l' bg' bc' sd' sp' sv' pv' lv'/\d'.sends=(dR room self nx (cn 13 s) (cn 13 s) (ms.map (cn 13)) c b).sends/\d'.spawns=(dR room self nx (cn 13 s) (cn 13 s) (ms.map (cn 13)) c b).spawns/\d'.links=(dR room self nx (cn 13 s) (cn 13 s) (ms.map (cn 13)) c b).links/\∀q,jQ db bg' sv' pv' lv' q->¬(M q∨w'.heap.size<=q))
theorem Pf {ms:List Tc} (h:∀y∈ms,aQ 13 y=0):((ms.map (cn 13)).map (sz 13)).sum=(ms.map (sz 13)).sum:=by
 rw[List.map_map]
 congr 1
 exact List.map_congr_left fun y hy=>FH (h y hy)
theorem D5 {pbase pb:Nat} {name:ByteArray} {room:Int} {s:Tc} {ms:List Tc} {nk:Nat} {M:Nat->Prop} {ws:List Wd} {nm:List ByteArray} {psv:Wd} {vs:List Wd} {ma:Option Addr} {mc:Nat} {Mh:Nat->Prop} {b:List Tc}
    (hp:PrAt pbase pb name room 13 s ms [] nk M w ws nm psv vs ma mc Mh) (h:DoAt base db self n D 0 nx d w l bg bc sd sp sv pv lv) (hd:d=⟨b,nx,[],[],[],false⟩) (c:Cl (n+1)) (hc:fM (n+1) base w c) (hok:Ob c) (hs:1<=self/\self<=99) (hM:∀q,M q->q<base) (hpb:pbase<=base) (hnk:nk<=48000) (h20:ms.length<=999):
    Calls Tryz.prog 58 #[.pointer (some ⟨pb,0,none⟩),.agg (dJ (n+1) c).toArray,.pointer (some ⟨db,0,none⟩)] w fun e w'=>∃f,e=.returned (.int .i64 f)/\Ql pbase pb name room s ms nk M base db self n D nx c b (jQ db bg sv pv lv) w f w':=by
 obtain⟨c1,c2,c3,c4,c5⟩:=hok
 have ho:=h.own.2.2.2.2
 have hlow:∀{W:World},Kee (jQ db bg sv pv lv) w W->Below base w W:=fun hk=>hk.below ho fun b hb q=>by
  have:=h.high b q
  omega
 have hpk:∀{W:World},Kee (jQ db bg sv pv lv) w W->PrAt pbase pb name room 13 s ms [] nk M W ws nm psv vs ma mc Mh:=fun hk=>hp.kept (N:=12) (ic hk) fun b hb _ q=>by
  have:=hM b hb
  have:=h.high b q
  omega
 have hkM:∀{W:World},Kee (jQ db bg sv pv lv) w W->Kee (fun q=>M q∨jQ db bg sv pv lv q) w W:=fun hk=>hk.mono fun q _ hq=>Or.inr hq
 have hms:∀y∈ms,aQ 13 y=0:=fun y hy=>(hp.front.2.2.1 y (List.mem_cons_of_mem _ hy)).1
 refine Ch (D+1+n) c.1.1.1.1 c.1.1.1.2.1 c.1.1.1.2.2 c.1.1.2.1.1 c.1.1.2.2.length c.1.1.2.1.2 c.1.2.1.1.1 c.1.2.1.1.2.1 c.1.2.1.1.2.2 c.1.2.1.2.1.1 c.1.2.1.2.2.length c.1.2.1.2.1.2 c.2.1.1 c.2.2.length c.2.1.2 c.1.2.2.1.1 c.1.2.2.1.2.1 c.1.2.2.1.2.2 c.1.2.2.2.1.1 c.1.2.2.2.2.length c.1.2.2.2.1.2 pb db w
  (fun W=>Kee (jQ db bg sv pv lv) w W/\∃d' l' bg' bc' sd' sp' sv' pv' lv',rG self c.2.2 d=some d'/\DoAt base db self n D 8 nx d' W l' bg' bc' sd' sp' sv' pv' lv')
  (fun t y W'=>∃W d' l' bg' bc' sd' sp' sv' pv' lv',Kee (jQ db bg sv pv lv) w W/\rG self c.2.2 d=some d'/\DoAt base db self n D 8 nx d' W l' bg' bc' sd' sp' sv' pv' lv'/\Below W.heap.size W W'/\In W'.heap.size W' (D+1+n+1) y/\Off (fun q=>W.heap.size<=q) (D+1+n+1) y/\t=(qL d'.b self (n+1) c.1.2.2).isSome/\∀tt,qL d'.b self (n+1) c.1.2.2=some tt->aQ _ y=0/\av _ y=true/\cn _ y=tt)
  (Ql pbase pb name room s ms nk M base db self n D nx c b (jQ db bg sv pv lv) w) ?_ ?_ ?_ ?_
 ·intro W hW
  refine((h.later hW).all c.2.2 c.2.1.1 c.2.1.2 ?_ c5 c4 hs).mono ?_
  ·rcases hc.2.2 with e|⟨q,o,e,hq,hcc⟩
   ·exact Or.inl e
   ·exact Or.inr ⟨q,o,e,hq,fun i a hi=>⟨fun j u hj=>(hW.cell (p:=⟨q,o+i*11+j,none⟩) (Nat.lt_of_lt_of_le hq ho)).trans ((hcc i a hi).1 j u hj),((hcc i a hi).2).later (hW.mono ho)⟩⟩
  ·rintro e w' ⟨t,rfl,H⟩
   obtain⟨r1,r2,r3⟩:=H.out
   have hk:Kee (jQ db bg sv pv lv) w w':=(aj hW _).trans r1 fun _ _ e=>e
   refine⟨t,rfl,fun q ob hq hob=>(r1.block q (Array.getElem?_eq_some_iff.1 hob).1 fun z=>by have:=h.low q z;omega).trans hob,fun htt=>⟨hk, ?_⟩,fun htf=> ?_⟩
   ·rw[htt]at r2
    obtain⟨d2,hd2⟩:=Option.isSome_iff_exists.1 r2.symm
    obtain⟨l2,bg2,bc2,sd2,sp2,sv2,pv2,lv2,k1,_⟩:=r3 d2 hd2
    exact⟨d2,l2,bg2,bc2,sd2,sp2,sv2,pv2,lv2,hd2,k1⟩
   ·rw[htf]at r2
    have hn:rG self c.2.2 d=none:=Option.isNone_iff_eq_none.1 (by rw[<-Option.not_isSome,<-r2];rfl)
    rw[hd]at hn
    have hf:dR room self nx (cn 13 s) (cn 13 s) (ms.map (cn 13)) c b=⟨cn 13 s,2,[],[],[],cn 13 s,ms.map (cn 13)⟩:=by simp[dR,hn]
    refine⟨by rw[hf],hkM hk,⟨s,ws,nm,psv,vs,ma,mc,Mh,(hpk hk).mono (N:=12) (fun q hq=>Or.inl hq) (by omega),by rw[hf]⟩,fun z=> ?_⟩
    omega
 ·rintro W ⟨hk,d',l',bg',bc',sd',sp',sv',pv',lv',hd',h'⟩
  obtain⟨t1,t2⟩:=h'.told (self:=self) c.1.2.2 c3
  refine(h'.value c.1.2.2 (hc.1.2.2.below (hlow hk)) c3 hs W (Below.refl _ _)).mono ?_
  rintro e w' ⟨y,rfl,HY⟩
  obtain⟨y1,y2,y3,y4⟩:=HY.out
  exact⟨y,_,rfl,W,d',l',bg',bc',sd',sp',sv',pv',lv',hk,hd',h',y1,y2,y3,t1,fun tt htt=>t2 y tt htt y4⟩
 ·rintro y W' W'' ⟨W,d',l',bg',bc',sd',sp',sv',pv',lv',hk,hd',h',y1,_,_,y4,_⟩ hb
  have hn:qL d'.b self (n+1) c.1.2.2=none:=Option.isNone_iff_eq_none.1 (by rw[<-Option.not_isSome,<-y4];rfl)
  rw[hd]at hd'
  have hf:dR room self nx (cn 13 s) (cn 13 s) (ms.map (cn 13)) c b=⟨cn 13 s,2,[],[],[],cn 13 s,ms.map (cn 13)⟩:=by simp[dR,hd',hn]
  have hk2:Kee (jQ db bg sv pv lv) w W'':=(hk.trans (aj y1 (fun _=>False)) fun _ _ e=>e.elim).trans (aj hb (fun _=>False)) fun _ _ e=>e.elim
  refine⟨by rw[hf],hkM hk2,⟨s,ws,nm,psv,vs,ma,mc,Mh,(hpk hk2).mono (N:=12) (fun q hq=>Or.inl hq) (by omega),by rw[hf]⟩,fun z=> ?_⟩
  omega
 ·rintro y W' W'' ⟨W,d',l',bg',bc',sd',sp',sv',pv',lv',hk,hd',h',y1,y2,y3,y4,y5⟩ hb
  obtain⟨tt,htt⟩:=Option.isSome_iff_exists.1 y4.symm
  obtain⟨y6,y7,y8⟩:=y5 tt htt
  rw[hd]at hd'
  have hsW:=hk.size
  have hs1:=y1.size
  have hs2:=hb.size
  have hk2:Kee (jQ db bg sv pv lv) w W'':=(hk.trans (aj y1 (fun _=>False)) fun _ _ e=>e.elim).trans (aj hb (fun _=>False)) fun _ _ e=>e.elim
  have hyr:ai ⟨D+1+n+1,y⟩:=ax.2 (aN.1 y6).1
  have hyd:dU (D+1+n+1) y<13:=by have:=(aN.1 y6).2.1;omega
  have hxs:=iH 13 (D+1+n+1) y hyr hyd
  have hxi:=qN 13 (D+1+n+1) y _ _ hyr hyd ((y2.below hb).mono hs2)
  have hxo:=ut 13 (D+1+n+1) y _ hyr hyd y3
  have hxl:(lift 13 (D+1+n+1) y).2.2.length=y.2.2.length:=by simp[lift]
  have hxt:cn 13 (lift 13 (D+1+n+1) y)=tt:=(fQ hxs).trans y8
  have hxz:sz 13 (lift 13 (D+1+n+1) y)=sz 13 tt:=by
   rw[jX _ _ _ _ hxs,<-y8,FH y6]
  have hbec:=(hpk hk2).become (N:=12) (lift 13 (D+1+n+1) y) hxi (hxo.mono fun q hq z=>by have:=hM q z;omega) ((aX hxs).trans y6) ((bD _ _ _ _ hxs).trans y7) (fun q z=>by have:=hM q z;omega) hnk h20 (by omega)
  rw[hxl]at hbec
  refine hbec.mono ?_
  rintro e w' ⟨t,rfl,H⟩
  obtain⟨r1,r2,s',ws',nm',sv2,vs',ma',mc',Mh',r3,r4,r5⟩:=H.out
  have hr1:t=decide (((ms.map (cn 13)).map (sz 13)).sum+sz 13 tt<=room):=by
   rw[Pf hms,<-hxz]
   exact r1
  have hkw:Kee (fun q=>M q∨jQ db bg sv pv lv q) w w':=(hkM hk2).trans (gm r2) fun q _ hq=>Or.inl hq
  have hP:PrAt pbase pb name room 13 s' ms [] (nk+402) (fun q=>M q∨w.heap.size<=q) w' ws' nm' sv2 vs' ma' mc' Mh':=r3.mono (N:=12) (fun q hq=>by
   rcases hq with hq|hq
   ·exact Or.inl hq
   ·exact Or.inr (by omega)) (Nat.le_refl _)
  have hD:DoAt base db self n D 8 nx d' w' l' bg' bc' sd' sp' sv' pv' lv':=((h'.later y1).later hb).kept (gm r2) fun q hq _ z=>by
   have:=hM q z
   omega
  refine⟨t,rfl,fun htf=> ?_,fun htt'=>⟨d'.stops,ae hD.box 6,fun hst=> ?_,fun hst=> ?_⟩⟩
  ·rw[htf]at hr1
   have hle:¬((ms.map (cn 13)).map (sz 13)).sum+sz 13 tt<=room:=of_decide_eq_false hr1.symm
   have hf:dR room self nx (cn 13 s) (cn 13 s) (ms.map (cn 13)) c b=⟨cn 13 s,3,[],[],[],cn 13 s,ms.map (cn 13)⟩:=by
    unfold dR
    simp only[hd',htt]
    rw[if_neg hle]
   refine⟨by rw[hf],hkw,⟨s',ws',nm',sv2,vs',ma',mc',Mh',hP,by rw[hf];exact fQ (r5 htf)⟩,fun z=> ?_⟩
   omega
  ·rw[htt']at hr1
   have hle:((ms.map (cn 13)).map (sz 13)).sum+sz 13 tt<=room:=of_decide_eq_true hr1.symm
   have hf:dR room self nx (cn 13 s) (cn 13 s) (ms.map (cn 13)) c b=⟨cn 13 s,1,d'.sends,d'.spawns,d'.links,tt,ms.map (cn 13)⟩:=by
    unfold dR
    simp only[hd',htt]
    rw[if_pos hle,hst]
    rfl
   refine⟨by rw[hf],hkw,⟨s',ws',nm',sv2,vs',ma',mc',Mh',hP,by rw[hf,r4 htt'];exact hxt⟩,fun _=>⟨d',l',bg',bc',sd',sp',sv',pv',lv',hD,by rw[hf],by rw[hf],by rw[hf],fun q hq z=> ?_⟩⟩
   have h1:=hD.high q hq
   have h2:=hD.low q hq
   rcases z with z|z
   ·have:=hM q z
    omega
   ·omega
  ·rw[htt']at hr1
   have hle:((ms.map (cn 13)).map (sz 13)).sum+sz 13 tt<=room:=of_decide_eq_true hr1.symm
   have hf:dR room self nx (cn 13 s) (cn 13 s) (ms.map (cn 13)) c b=⟨cn 13 s,0,d'.sends,d'.spawns,d'.links,tt,ms.map (cn 13)⟩:=by
    unfold dR
    simp only[hd',htt]
    rw[if_pos hle,hst]
    rfl
   refine⟨by rw[hf],hkw,⟨s',ws',nm',sv2,vs',ma',mc',Mh',hP,by rw[hf,r4 htt'];exact hxt⟩,fun _=>⟨d',l',bg',bc',sd',sp',sv',pv',lv',hD,by rw[hf],by rw[hf],by rw[hf],fun q hq z=> ?_⟩⟩
   have h1:=hD.high q hq
   have h2:=hD.low q hq
   rcases z with z|z
   ·have:=hM q z
    omega
   ·omega
end
end Go.Proofs.YtmbjgiaebneodaaGreat

/- What is proved here: plain facts and contracts that the claimed theorem stands on. No condition but those that each names. -/
import Derived.Test.YtmbjgiaebneodaaGreatG39
import Derived.Deep.DeepCutAuto
namespace Go.Proofs.YtmbjgiaebneodaaGreat
open Go.RowKit
set_option maxRecDepth 100000
set_option maxHeartbeats 1000000
def SyUg (M:Nat->Prop) (a:Nat) (d d':SyD) (w w':World):Prop:=Kee (fun q=>d.ow q<0) w w'/\(∀q,q<w.heap.size->¬M q->d'.ow q=d.ow q)/\(∀q,q<w.heap.size->M q->0<=d'.ow q)/\d'.k=d.k/\d'.es.length<=d.es.length+a/\d'.wn<=d.wn+a/\d'.bn<=d.bn+a
section
variable {p:SyP} {s:Sy} {d d1 d2:SyD} {w w1 w2:World} {M:Nat->Prop} {a b:Nat}
theorem SyUg.up (h:SyUg M a d d1 w w1) (k:SyUp b d1 d2 w1 w2):SyUg M (a+b) d d2 w w2:=by
 obtain⟨h1,h2,h3,h4,h5,h6,h7⟩:=h
 obtain⟨k1,k2,k3,k4,k5,k6⟩:=k
 have hs:=h1.size
 refine⟨h1.trans k1 fun q hq e=> ?_,fun q hq z=>(k2 q (by omega)).trans (h2 q hq z),fun q hq z=>by rw[k2 q (by omega)];exact h3 q hq z,k3.trans h4,by omega,by omega,by omega⟩
 by_cases z:M q
 ·have:=h3 q hq z
  omega
 ·rw[h2 q hq z]at e
  exact e
theorem SyUg.ad {M':Nat->Prop} (h:SyUg M a d d1 w w1) (k:O7 M' b d1 d2 w1 w2) (hM:∀q,M' q->M q):SyUg M (a+b) d d2 w w2:=by
 obtain⟨h1,h2,h3,h4,h5,h6,h7⟩:=h
 obtain⟨k1,k2,k3,k4,k5,k6,k7⟩:=k
 have hs:=h1.size
 refine⟨h1.trans k1 fun q hq e=> ?_,fun q hq z=>(k2 q (by omega) fun z2=>z (hM q z2)).trans (h2 q hq z),fun q hq z=> ?_,k4.trans h4,by omega,by omega,by omega⟩
 ·by_cases z:M q
  ·have:=h3 q hq z
   omega
  ·rw[h2 q hq z]at e
   exact e
 ·by_cases z2:M' q
  ·have:=k3 q z2
   omega
  ·rw[k2 q (by omega) z2]
   exact h3 q hq z
theorem SyUg.mono (h:SyUg M a d d1 w w1) (hab:a<=b):SyUg M b d d1 w w1:=by
 obtain⟨h1,h2,h3,h4,h5,h6,h7⟩:=h
 exact⟨h1,h2,h3,h4,by omega,by omega,by omega⟩
theorem Far.ug {m:Nat} {x:Tm m} (h:Far d w x) (k:SyUg M a d d1 w w1):Far d1 w1 x:=by
 have h1:=dV k.1 (D:=fun q=>0<=d.ow q/\q<w.heap.size) (fun q z z2=>by omega) ⟨h.1,In.offB h.2 h.1⟩
 refine⟨h1.1,h1.2.mono fun q z=> ?_⟩
 by_cases z2:M q
 ·exact k.2.2.1 q z.2 z2
 ·rw[k.2.1 q z.2 z2]
  exact z.1
theorem CQ (a:Int):(l:List (Int×ByteArray×Tc))->(s:Sy)->(l.foldl (fun s x=>s.add a x.2.1 x.2.2) s).ps.length=s.ps.length+l.length/\(l.foldl (fun s x=>s.add a x.2.1 x.2.2) s).last=s.last+l.length
 | [],s=>by simp
 | x::l,s=>by
  have h:=CQ a l (s.add a x.2.1 x.2.2)
  rw[List.foldl_cons,h.1,h.2]
  simp only[Sy.add,Sy.tell,List.length_append,List.length_cons,List.length_nil]
  omega
theorem SyAt.follow (h:SyAt p s d w) {a:Int} (ha:bR a) (tk:Tk) (hdg:Bf 8 tk.sends tk.spawns tk.links) (y0 y1:Int) (y2:ByteArray) (ya:Option Addr) (yl yc:Nat) {N b0 b1 c B:Nat} {sa:Option Addr} {sl sc:Nat} {pa:Option Addr} {pl pc:Nat} {ka:Option Addr} {kl kc:Nat} {va:Option Addr} {vl vc:Nat} {sd:List (Int×Tm (N+1))} {bs:List Nat} {X:Nat->Prop}
    (hsr:w.ownsRow b0 149 5 (.slice sa sl sc) sl (sd.flatMap fun z=>OE z.1 z.2)) (hkr:w.ownsRow b0 3 1 (.slice ka kl kc) kl (tk.links.map fun u=> .int .i64 u)) (hvr:w.ownsRow b1 83 1 (.slice va vl vc) vl (bs.map uE))
    (hlen:sd.length=sl/\tk.links.length=kl/\bs.length=vl/\tk.spawns.length=vl) (hsd:sd.map (fun z=>(z.1,cn _ z.2))=tk.sends) (hst:∀z∈sd,aQ _ z.2=0/\Far d w z.2) (hob:∀q,((Value.slice sa sl sc).ownBlock=some q∨(Value.slice ka kl kc).ownBlock=some q∨(Value.slice va vl vc).ownBlock=some q)->0<=d.ow q)
    (hM:Mads p.lo p.room (d.k+201) X B w tk.spawns bs c) (hB:B<=w.heap.size) (how:∀q,c<=q->q<B->d.ow q=0) (hmay:s.may vl=true) (hk:d.k<=47000) (hL:d.es.length<=97000) (hwn:d.wn<=900000) (hbn:d.bn<=900000):
    Calls Tryz.prog 38 #[.pointer (some ⟨p.b,0,none⟩),.int .i64 a,Py y0 y1 y2 ya yl yc tk.fate sa sl sc pa pl pc ka kl kc,.slice va vl vc] w fun e w'=>e=.returned (.tuple #[])/\Hid (∃d',SyAt p (s.follow a tk) d' w'/\SyUg (fun q=>c<=q/\q<B) 200 d d' w w'):=by
 obtain⟨l1,l2,l3,l4⟩:=hlen
 obtain⟨⟨g1,g2,g3⟩,g4,g5⟩:=hdg
 have hmy:=LX hmay
 have hsl:sl<=8:=by rw[<-l1];rw[<-hsd,List.length_map]at g1;exact g1
 have hge:∀{α:Type} (l:List α) (z:α) (j:Nat),j<l.length->l[j]? =some (l.getD j z):=fun l z j hj=>by
  rw[List.getD_eq_getElem?_getD,List.getElem?_eq_getElem hj]
  rfl
 obtain⟨G,hG⟩:∃G:Nat->Int×Tm (N+1),∀j,j<sl->sd[j]? =some (G j):=⟨_,fun j hj=>hge sd (0,((0,0,⟨#[]⟩),(none,0),[])) j (by omega)⟩
 obtain⟨Lk,hLk⟩:∃G:Nat->Int,∀j,j<kl->tk.links[j]? =some (G j):=⟨_,fun j hj=>hge tk.links 0 j (by omega)⟩
 obtain⟨Bs,hBs⟩:∃G:Nat->Nat,∀j,j<vl->bs[j]? =some (G j):=⟨_,fun j hj=>hge bs 0 j (by omega)⟩
 obtain⟨Sp,hSp⟩:∃G:Nat->Int×ByteArray×Tc,∀j,j<vl->tk.spawns[j]? =some (G j):=⟨_,fun j hj=>hge tk.spawns (0,⟨#[]⟩,MB) j (by omega)⟩
 have hno:∀q,((Value.slice sa sl sc).ownBlock=some q∨(Value.slice ka kl kc).ownBlock=some q∨(Value.slice va vl vc).ownBlock=some q)->¬d.ow q<0:=fun q z=>by have:=hob q z;omega
 have hS5:∀W,Kee (fun q=>d.ow q<0) w W->∀j,j<sl->∃g,sa=some ⟨g,0,none⟩/\∀(t:Nat) (u:Value),(OE (G j).1 (G j).2)[t]? =some u->W.cell? ⟨g,j*5+t,none⟩=some u:=fun W hK j hj=>by
  obtain⟨_,_,e1,_,e2⟩:=qB (aG hsr hK fun q z=>hno q (Or.inl z)) (by decide) fun z=>rfl
  injection e1 with e1
  subst e1
  obtain⟨g,q1,_,q3⟩:=e2 j _ (hG j hj)
  exact⟨g,q1,q3⟩
 have hK1:∀W,Kee (fun q=>d.ow q<0) w W->∀j,j<kl->∃g,ka=some ⟨g,0,none⟩/\W.cell? ⟨g,j,none⟩=some (.int .i64 (Lk j)):=fun W hK j hj=>by
  have hr:=aG hkr hK fun q z=>hno q (Or.inr (Or.inl z))
  rw[List.map_eq_flatMap]at hr
  obtain⟨_,_,e1,_,e2⟩:=qB hr (by decide) fun z=>rfl
  injection e1 with e1
  subst e1
  obtain⟨g,q1,_,q3⟩:=e2 j _ (hLk j hj)
  have:=q3 0 _ rfl
  simp only[Nat.mul_one,Nat.add_zero]at this
  exact⟨g,q1,this⟩
 have hV1:∀W,Kee (fun q=>d.ow q<0) w W->∀j,j<vl->∃g,va=some ⟨g,0,none⟩/\W.cell? ⟨g,j,none⟩=some (.pointer (some ⟨Bs j,0,none⟩)):=fun W hK j hj=>by
  have hr:=aG hvr hK fun q z=>hno q (Or.inr (Or.inr z))
  rw[List.map_eq_flatMap]at hr
  obtain⟨_,_,e1,_,e2⟩:=qB hr (by decide) fun z=>rfl
  injection e1 with e1
  subst e1
  obtain⟨g,q1,_,q3⟩:=e2 j _ (hBs j hj)
  have:=q3 0 _ rfl
  simp only[Nat.mul_one,Nat.add_zero]at this
  exact⟨g,q1,this⟩
 have hdr:∀{α:Type} {l:List α} {j:Nat} {z:α},l[j]? =some z->l.drop j=z::l.drop (j+1):=fun{α l j z} e=>by
  obtain⟨h1,rfl⟩:=List.getElem?_eq_some_iff.1 e
  exact List.drop_eq_getElem_cons h1
 have htk:∀{α:Type} {l:List α} {j:Nat} {z:α},l[j]? =some z->l.take (j+1)=l.take j++ [z]:=fun{α l j z} e=>by
  rw[List.take_add_one,e]
  rfl
 obtain⟨s1,hs1⟩:∃s1,s1=tk.spawns.foldl (fun s x=>s.add a x.2.1 x.2.2) s:=⟨_,rfl⟩
 obtain⟨s2,hs2⟩:∃s2,s2=tk.sends.foldl (fun s x=>s.send a x.1 x.2) s1:=⟨_,rfl⟩
 obtain⟨s3,hs3⟩:∃s3,s3=tk.links.foldl (fun s x=>s.link a x) s2:=⟨_,rfl⟩
 have hs4:s.follow a tk=if tk.fate=1 then s3.fin a 1 else s3:=by rw[hs3,hs2,hs1];rfl
 let bx:Obj:=.cells #[.int .i64 y0,.int .i64 y1,.string y2,.slice ya yl yc,.int .i64 tk.fate,.slice sa sl sc,.slice pa pl pc,.slice ka kl kc] 96
 let Mm:Nat->Prop:=fun q=>c<=q/\q<B
 let J:Sy->Nat->Nat->World->Prop:=fun st k q W=>∃d1,SyAt p st d1 W/\SyUg Mm k d d1 w W/\(w.heap.size<=q/\q<W.heap.size/\W.heap[q]? =some bx/\d1.ow q=0)
 refine Al p.b a y0 y1 y2 ya yl yc tk.fate sa sl sc pa pl pc ka kl kc va vl vc Bs (fun j=>(G j).1) (fun j=>(G j).2.1.1) (fun j=>(G j).2.1.2.1) (fun j=>(G j).2.1.2.2) (fun j=>(G j).2.2.1.1) (fun j=>(G j).2.2.2.length) (fun j=>(G j).2.2.1.2) Lk w
  (fun q j W=>∃d1,SyAt p ((tk.spawns.take j).foldl (fun s x=>s.add a x.2.1 x.2.2) s) d1 W/\SyUg Mm j d d1 w W/\(w.heap.size<=q/\q<W.heap.size/\W.heap[q]? =some bx/\d1.ow q=0)/\∃cj,c<=cj/\Mads p.lo p.room (d.k+201) X B W (tk.spawns.drop j) (bs.drop j) cj/\∀q,cj<=q->q<B->d1.ow q=0)
  (fun q j W=>J ((tk.sends.take j).foldl (fun s x=>s.send a x.1 x.2) s1) (vl+2*j) q W) (fun q j W=>J ((tk.links.take j).foldl (fun s x=>s.link a x) s2) (vl+2*sl+j) q W) (fun w'=>∃d',SyAt p (s.follow a tk) d' w'/\SyUg Mm 200 d d' w w') (by omega) (by omega) (by omega) (fun q W hW hq hbx=> ?_) (fun q W hJ=> ?_) (fun q W hJ=> ?_) (fun q j W hJ=> ?_) (fun q j W hj hJ=> ?_) (fun q j W hj hJ=> ?_) (fun q j W hj hJ=> ?_) fun q W hJ=> ?_
 ·have hql:=(Array.getElem?_eq_some_iff.1 hbx).1
  refine⟨d,h.later hW,⟨aj hW _,fun _ _ _=>rfl,fun q _ z=>by rw[how q z.1 z.2];exact Int.le_refl 0,rfl,Nat.le_refl _,Nat.le_refl _,Nat.le_refl _⟩,⟨hq,hql,hbx, ?_⟩,c,Nat.le_refl _,hM.kept (aj hW fun _=>False) (fun _ _ z=>z.elim) (fun _ _ z=>z) (Nat.le_refl _),how⟩
  by_cases z:d.ow q=0
  ·exact z
  ·have:=(h.low q z).2
   omega
 ·obtain⟨d1,k1,k2,k3,_⟩:=hJ
  rw[List.take_of_length_le (by omega),<-hs1]at k1
  exact⟨d1,k1,k2,k3⟩
 ·obtain⟨d1,k1,k2,k3⟩:=hJ
  rw[List.take_of_length_le (by rw[<-hsd,List.length_map];omega),<-hs2]at k1
  exact⟨d1,k1,k2,k3⟩
 ·rcases hJ with⟨d1,_,_,k3,_⟩|⟨d1,_,_,k3⟩|⟨d1,_,_,k3⟩
  ·exact k3.2.2.1
  ·exact k3.2.2.1
  ·exact k3.2.2.1
 ·obtain⟨d1,k1,k2,⟨q1,q2,q3,q4⟩,cj,m1,m2,m3⟩:=hJ
  refine⟨hV1 W k2.1 j hj, ?_⟩
  rw[hdr (hSp j hj),hdr (hBs j hj)]at m2
  obtain⟨c1,c2,n1,n2,_,n4⟩:=m2
  have hfa:=CQ a (tk.spawns.take j) s
  rw[List.length_take]at hfa
  have hle:=n4.le
  have hk1:=k2.2.2.2.1
  refine(k1.add a (M:=fun q=>c1<=q/\q<c2) (n2.mono (fun _ z=>z) (by omega) (P1.lie2 n2)) (fun q z=>m3 q (by omega) (by omega)) (by omega) (by omega) (by have:=k2.2.2.2.2.1;omega)).mono ?_
  rintro e w' ⟨rfl,H⟩
  obtain⟨d2,u1,u2⟩:=H.out
  have hs:=u2.1.size
  refine⟨rfl,d2, ?_,k2.ad u2 fun q z=>⟨by omega,by omega⟩,⟨q1,by omega, ?_, ?_⟩,c2,by omega,n4.kept2 (c0:=c2) u2.1 (fun q hq hq2 z=> ?_) (fun _ _ z=>z) (Nat.le_refl _) (Nat.le_refl _),fun q z1 z2=> ?_⟩
  ·rw[htk (hSp j hj),List.foldl_append]
   exact u1
  ·rw[u2.1.block q q2 (by rw[q4];decide)]
   exact q3
  ·rw[u2.2.1 q q2 fun z=>by omega]
   exact q4
  ·have:=m3 q (by omega) hq2
   omega
  ·have:=k2.1.size
   rw[u2.2.1 q (by omega) fun z=>by omega]
   exact m3 q (by omega) z2
 ·obtain⟨d1,k1,k2,q1,q2,q3,q4⟩:=hJ
  obtain⟨g,e1,e2⟩:=hS5 W k2.1 j hj
  refine⟨⟨g,e1,e2 0 _ rfl,e2 1 _ rfl,e2 2 _ rfl,e2 3 _ rfl,e2 4 _ rfl⟩,fun W2 hW2=> ?_⟩
  obtain⟨f1,f2⟩:=hst _ (List.mem_of_getElem? (hG j hj))
  have hsj:tk.sends[j]? =some ((G j).1,cn _ (G j).2):=by rw[<-hsd,List.getElem?_map,hG j hj];rfl
  refine((k1.later hW2).send ⟨ha,g4 _ (List.mem_of_getElem? hsj)⟩ (G j).2 ((f2.ug k2).up (SyUp.later d1 hW2)) f1 (by have:=k2.2.2.2.2.2.1;omega) (by have:=k2.2.2.2.2.1;omega)).mono ?_
  rintro e w' ⟨rfl,H⟩
  obtain⟨d2,u1,u2⟩:=H.out
  have u3:=(SyUp.later d1 hW2).trans u2
  have hs:=u3.1.size
  refine⟨rfl,d2, ?_,(k2.up u3).mono (by omega),q1,by omega, ?_, ?_⟩
  ·rw[htk hsj,List.foldl_append]
   exact u1
  ·rw[u3.1.block q q2 (by rw[q4];decide)]
   exact q3
  ·rw[u3.2.1 q q2]
   exact q4
 ·obtain⟨d1,k1,k2,q1,q2,q3,q4⟩:=hJ
  refine⟨hK1 W k2.1 j hj, ?_⟩
  refine(k1.link ha (g5 _ (List.mem_of_getElem? (hLk j hj))) (by have:=k2.2.2.2.2.2.2;omega)).mono ?_
  rintro e w' ⟨rfl,H⟩
  obtain⟨d2,u1,u2⟩:=H.out
  have hs:=u2.1.size
  refine⟨rfl,d2, ?_,(k2.up u2).mono (by omega),q1,by omega, ?_, ?_⟩
  ·rw[htk (hLk j hj),List.foldl_append]
   exact u1
  ·rw[u2.1.block q q2 (by rw[q4];decide)]
   exact q3
  ·rw[u2.2.1 q q2]
   exact q4
 ·obtain⟨d1,k1,k2,q1,q2,q3,q4⟩:=hJ
  rw[List.take_of_length_le (by omega),<-hs3]at k1
  rw[hs4]
  refine⟨fun e=> ?_,fun e=>⟨d1,by rw[if_neg e];exact k1,k2.mono (by omega)⟩⟩
  refine(k1.fin ha (by have:=k2.2.2.2.2.1;omega)).mono ?_
  rintro e' w' ⟨rfl,H⟩
  obtain⟨d2,u1,u2⟩:=H.out
  exact⟨rfl,d2,by rw[if_pos e];exact u1,(k2.up u2).mono (by omega)⟩
end
structure T8 where
 y0:Int
 y1:Int
 y2:ByteArray
 ya:Option Addr
 yl:Nat
 yc:Nat
 f:Int
 sa:Option Addr
 sl:Nat
 sc:Nat
 pa:Option Addr
 pl:Nat
 pc:Nat
 ka:Option Addr
 kl:Nat
 kc:Nat
theorem Qu {w:World} {q:Nat} {zs:Array Value} {T:TypeId} {fr:Nat×Nat} (h:w.heap[q]? =some (.cells zs T fr)) (hz:zs.size=8) (v0 v1 v2 v3 v4 v5 v6 v7:Value):
    ((((((((w.setCell ⟨q,0,none⟩ v0).setCell ⟨q,1,none⟩ v1).setCell ⟨q,2,none⟩ v2).setCell ⟨q,3,none⟩ v3).setCell ⟨q,4,none⟩ v4).setCell ⟨q,5,none⟩ v5).setCell ⟨q,6,none⟩ v6).setCell ⟨q,7,none⟩ v7).heap[q]? =some (.cells #[v0,v1,v2,v3,v4,v5,v6,v7] T fr)/\Kee (fun b=>b=q) w ((((((((w.setCell ⟨q,0,none⟩ v0).setCell ⟨q,1,none⟩ v1).setCell ⟨q,2,none⟩ v2).setCell ⟨q,3,none⟩ v3).setCell ⟨q,4,none⟩ v4).setCell ⟨q,5,none⟩ v5).setCell ⟨q,6,none⟩ v6).setCell ⟨q,7,none⟩ v7):=by
 refine⟨?_,(((((((aP w q 0 v0).trans (aP _ q 1 v1) fun _ _ e=>e).trans (aP _ q 2 v2) fun _ _ e=>e).trans (aP _ q 3 v3) fun _ _ e=>e).trans (aP _ q 4 v4) fun _ _ e=>e).trans (aP _ q 5 v5) fun _ _ e=>e).trans (aP _ q 6 v6) fun _ _ e=>e).trans (aP _ q 7 v7) fun _ _ e=>e⟩
 obtain⟨l⟩:=zs
 have hl:l.length=8:=by simpa using hz
 match l,hl with
 | [a0,a1,a2,a3,a4,a5,a6,a7],_=>simp[World.setCell,Array.getElem?_modify,h]
def Pp (Out:T8->Int->World->World->Prop) (w:World) (q:Nat) (t:T8) (u:Int) (wx:World):Prop:=
 ∃W w3,Below w.heap.size w W/\Out t u W w3/\(w.heap.size<=q/\(q<W.heap.size∨w3.heap.size<=q))/\wx.heap[q]? =some (.cells #[.int .i64 t.y0,.int .i64 t.y1,.string t.y2,.slice t.ya t.yl t.yc,.int .i64 t.f,.slice t.sa t.sl t.sc,.slice t.pa t.pl t.pc,.slice t.ka t.kl t.kc] 96)/\Kee (fun b=>b=q) w3 wx
theorem xP (sb:Nat) (mo:Option Nat) (a la la1:Int) (ga:Option Addr) (gl gc:Nat) (pv:Value) (al:Bool) (w:World) (Out:T8->Int->World->World->Prop) (T1:Nat->T8->World->Prop) (T2:Nat->T8->Value->Bool->World->Prop) (R:Int->World->Prop) (hla:IntKind.i64.wrap (la+1)=la1) (hsb:sb<w.heap.size)
    (HC:Hid (w.cell? ⟨sb,0,none⟩=some (.slice ga gl gc)/\w.cell? ⟨sb,2,none⟩=some (.int .i64 la)/\w.cell? ⟨sb,3,none⟩=some (.map mo)))
    (hlk:(Instr.lookup 64 (.map mo) (.int .i64 a) true).run Tryz.prog w=.ok (.tuple #[pv,.bool al]) w)
    (HN:Hid (al=false->R 4 w))
    (HS:Hid (al=true->∀W,Below w.heap.size w W->Calls Tryz.prog 34 #[pv,.slice ga gl gc,.int .i64 a,.int .i64 la1] W fun e w'=>∃(t:T8) (u:Int),e=.returned (.tuple #[.agg #[.int .i64 t.y0,.int .i64 t.y1,.string t.y2,.slice t.ya t.yl t.yc,.int .i64 t.f,.slice t.sa t.sl t.sc,.slice t.pa t.pl t.pc,.slice t.ka t.kl t.kc],.int .i64 u])/\Hid (Out t u W w'/\(∀q,w.heap.size<=q->q<W.heap.size->w'.heap[q]? =W.heap[q]?)/\W.heap.size<=w'.heap.size/\(w'.cell? ⟨sb,0,none⟩=some (.slice ga gl gc)/\w'.cell? ⟨sb,2,none⟩=some (.int .i64 la)))))
    (HB:Hid (∀q t u W,Pp Out w q t u W->u≠0->R u W))
    (HT:Hid (∀q t W,Pp Out w q t 0 W->Calls Tryz.prog 35 #[.pointer (some ⟨sb,0,none⟩),.string ⟨#[116,97,107,101]⟩,.int .i64 a,.int .i64 0,.agg #[.int .i64 t.y0,.int .i64 t.y1,.string t.y2,.slice t.ya t.yl t.yc]] W fun e w'=>e=.returned (.tuple #[])/\Hid (T1 q t w')))
    (HM:Hid (∀q t W,T1 q t W->Calls Tryz.prog 36 #[.pointer (some ⟨sb,0,none⟩),.slice t.pa t.pl t.pc] W fun e w'=>∃v b,e=.returned (.tuple #[v,.bool b])/\Hid (T2 q t v b w')))
    (HQ1:Hid (∀q t W,T1 q t W->W.heap[q]? =some (.cells #[.int .i64 t.y0,.int .i64 t.y1,.string t.y2,.slice t.ya t.yl t.yc,.int .i64 t.f,.slice t.sa t.sl t.sc,.slice t.pa t.pl t.pc,.slice t.ka t.kl t.kc] 96))) (HQ2:Hid (∀q t v b W,T2 q t v b W->W.heap[q]? =some (.cells #[.int .i64 t.y0,.int .i64 t.y1,.string t.y2,.slice t.ya t.yl t.yc,.int .i64 t.f,.slice t.sa t.sl t.sc,.slice t.pa t.pl t.pc,.slice t.ka t.kl t.kc] 96)))
    (HE:Hid (∀q t v b W,T2 q t v b W->(t.f=2∨t.f=3)->Calls Tryz.prog 37 #[.pointer (some ⟨sb,0,none⟩),.int .i64 a,.int .i64 t.f] W fun e w'=>e=.returned (.tuple #[])/\Hid (R 0 w')))
    (HF:Hid (∀q t v W,T2 q t v false W->¬(t.f=2∨t.f=3)->Calls Tryz.prog 37 #[.pointer (some ⟨sb,0,none⟩),.int .i64 a,.int .i64 2] W fun e w'=>e=.returned (.tuple #[])/\Hid (R 0 w')))
    (HG:Hid (∀q t v W,T2 q t v true W->¬(t.f=2∨t.f=3)->Calls Tryz.prog 38 #[.pointer (some ⟨sb,0,none⟩),.int .i64 a,.agg #[.int .i64 t.y0,.int .i64 t.y1,.string t.y2,.slice t.ya t.yl t.yc,.int .i64 t.f,.slice t.sa t.sl t.sc,.slice t.pa t.pl t.pc,.slice t.ka t.kl t.kc],v] W fun e w'=>e=.returned (.tuple #[])/\Hid (R 0 w'))):
    Calls Tryz.prog 17 #[.pointer (some ⟨sb,0,none⟩),.int .i64 a] w fun e w'=>∃v,e=.returned (.int .i64 v)/\Hid (R v w'):=by
 obtain⟨c0,c2,c3⟩:=HC.out
 go_enter Tryz.func17,Tryz.ntmps17
 go_upto_region 2 with fail
 cases al
 ·have HQ:=hide (HN.out rfl)
  clear HS HN HB HT HM HQ1 HQ2 HE HF HG
  go_wp2_with fail
  go_ret
  exact⟨4,rfl,HQ.out⟩
 have HSS:=hide (HS.out rfl)
 clear HS HN hlk c3
 have HD:Hid (Below w.heap.size w w.drew):=(Below.refl _ _).drew
 have HDA:Hid (∀o,Below w.heap.size w (w.drew.alloc o)):=fun o=>(Below.refl _ _).drew.alloc (Nat.le_refl _) o
 have hn1:¬(w.heap.size=sb):=by omega
 have hn2:¬(sb=w.heap.size):=by omega
 go_upto_region 4 with fail
 go_cut [7,8] (fun v7 v8 wx=>∃(q:Nat) (t:T8) (u:Int),v7=.pointer (some ⟨q,0,none⟩)/\v8=.int .i64 u/\Hid (Pp Out w q t u wx))
 case first=>
  clear HB HT HM HQ1 HQ2 HE HF HG
  go_region_with ((first
   | (go_at_call 34;refine(HSS.out _ (by first|exact HD.out|exact HDA.out _)).mono ?_;rintro e w3 ⟨t,u,rfl,H3⟩;have hs3:sb<w3.heap.size:=(by have:=H3.out.2.2.1;simp at this;omega);have hn3:¬(w3.heap.size=sb):=(by omega);have hn4:¬(sb=w3.heap.size):=(by omega);obtain⟨x0,x2⟩:=H3.out.2.2.2;(first|(have hz3:w3.heap[w.heap.size]? =some (.cells #[.int .i64 0,.int .i64 0,.string ⟨#[]⟩,.slice none 0 0,.int .i64 0,.slice none 0 0,.slice none 0 0,.slice none 0 0] 96):=((H3.out.2.1 w.heap.size (Nat.le_refl _) (by simp)).trans (heap_alloc_new w.drew _));obtain⟨z0,z1,z2,z3,z4,z5,z6,z7⟩:w3.cell? ⟨w.heap.size,0,none⟩=some (.int .i64 0)/\w3.cell? ⟨w.heap.size,1,none⟩=some (.int .i64 0)/\w3.cell? ⟨w.heap.size,2,none⟩=some (.string ⟨#[]⟩)/\w3.cell? ⟨w.heap.size,3,none⟩=some (.slice none 0 0)/\w3.cell? ⟨w.heap.size,4,none⟩=some (.int .i64 0)/\w3.cell? ⟨w.heap.size,5,none⟩=some (.slice none 0 0)/\w3.cell? ⟨w.heap.size,6,none⟩=some (.slice none 0 0)/\w3.cell? ⟨w.heap.size,7,none⟩=some (.slice none 0 0):=⟨ae hz3 0,ae hz3 1,ae hz3 2,ae hz3 3,ae hz3 4,ae hz3 5,ae hz3 6,ae hz3 7⟩;have fz0:w3.frozen? ⟨w.heap.size,0,none⟩=false:=(by simp[World.frozen?,hz3]);have fz1:w3.frozen? ⟨w.heap.size,1,none⟩=false:=(by simp[World.frozen?,hz3]);have fz2:w3.frozen? ⟨w.heap.size,2,none⟩=false:=(by simp[World.frozen?,hz3]);have fz3:w3.frozen? ⟨w.heap.size,3,none⟩=false:=(by simp[World.frozen?,hz3]);have fz4:w3.frozen? ⟨w.heap.size,4,none⟩=false:=(by simp[World.frozen?,hz3]);have fz5:w3.frozen? ⟨w.heap.size,5,none⟩=false:=(by simp[World.frozen?,hz3]);have fz6:w3.frozen? ⟨w.heap.size,6,none⟩=false:=(by simp[World.frozen?,hz3]);have fz7:w3.frozen? ⟨w.heap.size,7,none⟩=false:=(by simp[World.frozen?,hz3]);have HZ3:=hide hz3;clear hz3)|skip))))
  all_goals (go_wp2_with fail;go_meet)
  all_goals (refine⟨_,t,u,rfl,rfl, ?_⟩)
  all_goals (first
   | exact⟨_,w3,HD.out,H3.out.1,⟨by have:=H3.out.2.2.1;simpa using this,Or.inr (Nat.le_refl _)⟩,heap_alloc_new _ _,aj ((Below.refl _ _).alloc (Nat.le_refl _) _) _⟩
   | exact⟨_,w3,HDA.out _,H3.out.1,⟨Nat.le_refl _,Or.inl (by simp)⟩,Qu HZ3.out rfl _ _ _ _ _ _ _ _⟩)
 case rest=>
 obtain⟨q,t,u,rfl,rfl,HR⟩:=hcut
 clear HSS HD HDA c0 c2
 by_cases hu:u=0
 rotate_left
 ·have HQ:=hide (HB.out _ _ _ _ HR.out hu)
  have huf:(u==0)=false:=by simpa using hu
  clear HR HB HT HM HQ1 HQ2 HE HF HG
  go_wp2_with fail
  go_ret
  exact⟨u,rfl,HQ.out⟩
 subst hu
 have HTT:=hide (HT.out _ _ _ HR.out)
 obtain⟨_,_,_,_,_,hx,_⟩:=HR.out
 have d0:wc.cell? ⟨q,0,none⟩=some (.int .i64 t.y0):=ae hx 0
 have d1:wc.cell? ⟨q,1,none⟩=some (.int .i64 t.y1):=ae hx 1
 have d2:wc.cell? ⟨q,2,none⟩=some (.string t.y2):=ae hx 2
 have d3:wc.cell? ⟨q,3,none⟩=some (.slice t.ya t.yl t.yc):=ae hx 3
 clear hx HR HB HT
 go_wp2_with fail
 refine HTT.out.mono ?_
 rintro e w4 ⟨rfl,H4⟩
 have HMM:=hide (HM.out _ _ _ H4.out)
 have d6:w4.cell? ⟨q,6,none⟩=some (.slice t.pa t.pl t.pc):=ae (HQ1.out _ _ _ H4.out) 6
 clear HTT HM HQ1 H4 d0 d1 d2 d3
 go_wp2_with fail
 refine HMM.out.mono ?_
 rintro e w5 ⟨v,b,rfl,H5⟩
 have HX:=hide (HQ2.out _ _ _ _ _ H5.out)
 have f4:w5.cell? ⟨q,4,none⟩=some (.int .i64 t.f):=ae HX.out 4
 clear d6 HMM HQ2
 by_cases hf:t.f=2∨t.f=3
 ·have HEE:=hide (HE.out _ _ _ _ _ H5.out hf)
  clear HF HG HE H5 HX
  generalize t.f=f at*
  rcases hf with rfl|rfl
  ·go_wp2_with fail
   refine HEE.out.mono ?_
   rintro e w6 ⟨rfl,H6⟩
   go_wp2_with fail
   go_ret
   exact⟨0,rfl,H6.out⟩
  ·go_wp2_with fail
   refine HEE.out.mono ?_
   rintro e w6 ⟨rfl,H6⟩
   go_wp2_with fail
   go_ret
   exact⟨0,rfl,H6.out⟩
 have hf2:(t.f==2)=false:=by simpa using fun e=>hf (Or.inl e)
 have hf3:(t.f==3)=false:=by simpa using fun e=>hf (Or.inr e)
 cases b
 ·have HEE:=hide (HF.out _ _ _ _ H5.out hf)
  clear HF HG HE H5 HX
  go_wp2_with fail
  refine HEE.out.mono ?_
  rintro e w6 ⟨rfl,H6⟩
  go_wp2_with fail
  go_ret
  exact⟨0,rfl,H6.out⟩
 ·have HEE:=hide (HG.out _ _ _ _ H5.out hf)
  have g0:w5.cell? ⟨q,0,none⟩=some (.int .i64 t.y0):=ae HX.out 0
  have g1:w5.cell? ⟨q,1,none⟩=some (.int .i64 t.y1):=ae HX.out 1
  have g2:w5.cell? ⟨q,2,none⟩=some (.string t.y2):=ae HX.out 2
  have g3:w5.cell? ⟨q,3,none⟩=some (.slice t.ya t.yl t.yc):=ae HX.out 3
  have g5:w5.cell? ⟨q,5,none⟩=some (.slice t.sa t.sl t.sc):=ae HX.out 5
  have g6:w5.cell? ⟨q,6,none⟩=some (.slice t.pa t.pl t.pc):=ae HX.out 6
  have g7:w5.cell? ⟨q,7,none⟩=some (.slice t.ka t.kl t.kc):=ae HX.out 7
  clear HF HG HE H5 HX
  go_wp2_with fail
  refine HEE.out.mono ?_
  rintro e w6 ⟨rfl,H6⟩
  go_wp2_with fail
  go_ret
  exact⟨0,rfl,H6.out⟩
def RunR (tk:Tk) (t:T8) (d:SyD) (W:World):Prop:=
 ∃(N b0:Nat) (sd:List (Int×Tm (N+1))) (sp:List (Int×ByteArray×Tm (N+1))),(sd.length=t.sl/\sp.length=t.pl/\tk.links.length=t.kl)/\W.ownsRow b0 149 5 (.slice t.sa t.sl t.sc) t.sl (sd.flatMap fun z=>OE z.1 z.2)/\W.ownsRow b0 146 6 (.slice t.pa t.pl t.pc) t.pl (sp.flatMap fun z=>Po z.1 z.2.1 z.2.2)/\W.ownsRow b0 3 1 (.slice t.ka t.kl t.kc) t.kl (tk.links.map fun u=> .int .i64 u)/\
  sd.map (fun z=>(z.1,cn _ z.2))=tk.sends/\sp.map (fun z=>(z.1,z.2.1,cn _ z.2.2))=tk.spawns/\(∀z∈sd,aQ _ z.2=0/\Far d W z.2)/\(∀z∈sp,aQ _ z.2.2=0/\Far d W z.2.2)/\∀q,((Value.slice t.sa t.sl t.sc).ownBlock=some q∨(Value.slice t.pa t.pl t.pc).ownBlock=some q∨(Value.slice t.ka t.kl t.kc).ownBlock=some q)->q<W.heap.size/\0<=d.ow q
theorem RunR.kee {tk:Tk} {t:T8} {d d':SyD} {W W':World} (h:RunR tk t d W) (hk:Kee (fun q=>d.ow q<0) W W') (hd:∀q,q<W.heap.size->d'.ow q=d.ow q):RunR tk t d' W':=by
 obtain⟨N,b0,sd,sp,h1,h2,h3,h4,h5,h6,h7,h8,h9⟩:=h
 have hF:∀{m:Nat} {x:Tm m},Far d W x->Far d' W' x:=fun hx=>by
  have h1:=dV hk (D:=fun q=>0<=d.ow q/\q<W.heap.size) (fun q z z2=>by omega) ⟨hx.1,In.offB hx.2 hx.1⟩
  exact⟨h1.1,h1.2.mono fun q z=>by rw[hd q z.2];exact z.1⟩
 have hn:∀q,((Value.slice t.sa t.sl t.sc).ownBlock=some q∨(Value.slice t.pa t.pl t.pc).ownBlock=some q∨(Value.slice t.ka t.kl t.kc).ownBlock=some q)->¬d.ow q<0:=fun q z=>by have:=(h9 q z).2;omega
 exact⟨N,b0,sd,sp,h1,aG h2 hk fun q z=>hn q (Or.inl z),aG h3 hk fun q z=>hn q (Or.inr (Or.inl z)),aG h4 hk fun q z=>hn q (Or.inr (Or.inr z)),h5,h6,fun z hz=>⟨(h7 z hz).1,hF (h7 z hz).2⟩,fun z hz=>⟨(h8 z hz).1,hF (h8 z hz).2⟩,fun q z=>⟨Nat.lt_of_lt_of_le (h9 q z).1 hk.size,by rw[hd q (h9 q z).1];exact(h9 q z).2⟩⟩
def Rb (t:T8):Obj:=.cells #[.int .i64 t.y0,.int .i64 t.y1,.string t.y2,.slice t.ya t.yl t.yc,.int .i64 t.f,.slice t.sa t.sl t.sc,.slice t.pa t.pl t.pc,.slice t.ka t.kl t.kc] 96
section
variable {p:SyP} {s:Sy} {d:SyD} {w:World}
theorem SyUn.ug {M:Nat->Prop} {k b c:Nat} {d1 d2:SyD} {w1 w2:World} (h:SyUn k c d d1 w w1) (g:SyUg M b d1 d2 w1 w2) (hM:∀q,M q->w.heap.size<=q):SyUn (k+b) c d d2 w w2:=by
 obtain⟨h1,h2,h3,h4,h5,h6⟩:=h
 obtain⟨g1,g2,_,g3,g4,g5,g6⟩:=g
 have hs:=h1.size
 exact⟨h1.trans g1 fun q hq e=>by rw[h2 q hq]at e;omega,fun q hq=>(g2 q (by omega) fun z=>by have:=hM q z;omega).trans (h2 q hq),by omega,by omega,by omega,by omega⟩
def RunT (p:SyP) (s:Sy) (d:SyD) (w:World) (tk:Tk) (q:Nat) (t:T8) (d1:SyD) (W:World):Prop:=
 SyAt p s d1 W/\SyUn 1 402 d d1 w W/\(w.heap.size<=q/\q<W.heap.size/\d1.ow q=0/\W.heap[q]? =some (Rb t))/\t.f=tk.fate/\RunR tk t d1 W
theorem SyAt.run (h:SyAt p s d w) {a:Int} (ha:bR a) (hk:d.k<=46000) (hL:d.es.length<=96000) (hwn:d.wn<=800000) (hbn:d.bn<=800000):
    Calls Tryz.prog 17 #[.pointer (some ⟨p.b,0,none⟩),.int .i64 a] w fun e w'=>∃v,e=.returned (.int .i64 v)/\Hid (v=(s.run p.n p.prog p.room a).2/\∃d',SyAt p (s.run p.n p.prog p.room a).1 d' w'/\SyUn 201 402 d d' w w'):=by
 obtain⟨hlo,hsb⟩:=h.lo
 obtain⟨c0,c1,c2,c3⟩:=h.cells
 obtain⟨_,_,_,g4,g5,_⟩:=h.keys
 have hpg:iZ (p.n+1) p.prog=true:=(iw h.pg.2.2.2.1).1
 have hla:IntKind.i64.wrap (s.last+1)=s.last+1:=by rw[IntKind.wrap];simp[IntKind.bits,IntKind.signed];omega
 have hlk:=h.look a true
 have hal:=h.alive a
 rw[if_pos rfl]at hlk
 obtain⟨r,hr⟩:∃r,r=s.run p.n p.prog p.room a:=⟨_,rfl⟩
 rw[<-hr]
 unfold Sy.run at hr
 cases hg:s.get a with
 | none=>
  rw[hg]at hr hal
  rw[hal]at hlk
  have R0:(4:Int)=r.2/\∃d',SyAt p r.1 d' w/\SyUn 201 402 d d' w w:=by
   rw[hr]
   exact⟨rfl,d,h,(SyUp.later d (Below.refl _ _)).un.mono (Nat.zero_le _) (Nat.zero_le _)⟩
  exact xP p.b d.po a s.last (s.last+1) p.pa p.prog.length p.pc _ false w (fun _ _ _ _=>False) (fun _ _ _=>False) (fun _ _ _ _ _=>False) (fun v w'=>v=r.2/\∃d',SyAt p r.1 d' w'/\SyUn 201 402 d d' w w') hla hsb ⟨c0,c2,c3⟩ hlk (fun _=>R0) ((fun z=>by cases z)) (fun _ _ _ _ ⟨_,_,_,z,_⟩=>z.elim) (fun _ _ _ ⟨_,_,_,z,_⟩=>z.elim) (fun _ _ _ z=>z.elim) (fun _ _ _ z=>z.elim) (fun _ _ _ _ _ z=>z.elim) (fun _ _ _ _ _ z=>z.elim) (fun _ _ _ _ z=>z.elim) fun _ _ _ _ z=>z.elim
 | some x=>
  obtain⟨nm,cs,cms⟩:=x
  rw[hg]at hr hal
  obtain⟨pb,hpb⟩:=Option.isSome_iff_exists.1 hal
  rw[hpb]at hlk
  obtain⟨nm',cs',cms',g1,g2,g3⟩:=h.ps a pb hpb
  rw[hg]at g1
  obtain⟨rfl,rfl,rfl⟩:nm=nm'/\cs=cs'/\cms=cms':=by
   injection g1 with g1
   injection g1 with e1 e2
   injection e2 with e2 e3
   exact⟨e1,e2,e3⟩
  have ha1:=(h.key hpb).1
  obtain⟨E,hE⟩:∃E,E=qQ p.n p.room p.prog nm a (s.last+1) cs cms:=⟨_,rfl⟩
  simp only[<-hE]at hr
  have hd0:∀q,w.heap.size<=q->d.ow q=0:=fun q hq=>by
   by_cases z:d.ow q=0
   ·exact z
   ·have:=(h.low q z).2
    omega
  refine xP p.b d.po a s.last (s.last+1) p.pa p.prog.length p.pc _ true w
   (fun t u W w'=>(u≠0/\u=E/\Below W.heap.size W w')∨(u=0/\E=0/\∃(y:Tc) (tk:Tk) (L:Nat),(y.1=(t.y0,t.y1,t.y2)/\y.2.1=(t.ya,t.yc)/\y.2.2.length=t.yl)/\mh p.room p.prog nm a (s.last+1) cs cms=some tk/\t.f=tk.fate/\cn 13 y=tk.message/\aQ 13 y=0/\In w'.heap.size w' 13 y/\Off (fun q=>W.heap.size<=q/\q<L) 13 y/\Keep (fun q=>d.ow q=a) W w'/\W.heap.size<L/\P1 p.lo pb nm p.room tk.state tk.mail (d.k+201+402) (fun b=>(d.ow b=a∨L<=b)/\b<w'.heap.size) w'/\tk.mail.length<=cms.length/\TkRows (W.heap.size+1) tk.sends tk.spawns tk.links t.sa t.sl t.sc t.pa t.pl t.pc t.ka t.kl t.kc (fun _=>True) w'))
   (fun q t W=>∃tk d1,E=0/\mh p.room p.prog nm a (s.last+1) cs cms=some tk/\RunT p ((s.put a (nm,tk.state,tk.mail)).tell jM a 0 tk.message) d w tk q t d1 W)
   (fun q t v b W=>∃tk d1,E=0/\mh p.room p.prog nm a (s.last+1) cs cms=some tk/\RunT p ((s.put a (nm,tk.state,tk.mail)).tell jM a 0 tk.message) d w tk q t d1 W/\b=Sy.made p.n p.prog p.room ((s.put a (nm,tk.state,tk.mail)).tell jM a 0 tk.message) tk.spawns/\(b=true->∃bs va vc c,v=.slice va t.pl vc/\bs.length=t.pl/\w.heap.size<=c/\(∀q,c<=q->d1.ow q=0)/\W.ownsRow c 83 1 v t.pl (bs.map uE)/\Mads p.lo p.room (d1.k+201) (fun q=>v.ownBlock=some q) W.heap.size W tk.spawns bs c))
   (fun v w'=>v=r.2/\∃d',SyAt p r.1 d' w'/\SyUn 201 402 d d' w w') hla hsb ⟨c0,c2,c3⟩ (by rw[hlk];rfl) ((fun z=>by cases z)) (fun _ W hW=> ?_) (fun q t u W hC hu=> ?_) (fun q t W hC=> ?_) (fun q t W hT=> ?_) (fun q t W hT=> ?_) (fun q t v b W hT=> ?_) (fun q t v b W hT hf=> ?_) (fun q t v W hT hf=> ?_) fun q t v W hT hf=> ?_
  ·have hW1:=h.later hW
   have L:=bi (dw (p.n+1)) 2 (nK (p.n+1)) p.pa
   refine((g2.later hW).step p.prog p.pa p.pc W.heap.size hW1.pg.1.1 (Nat.le_refl _) h.pg.2.1 h.pg.2.2.1 (fun _=>h.pg.2.2.2.2) (fun W' hK=>L.2.2.1 _ _ _ W' _ (fun b q=>hK.block b q.2 fun z=>by have:=q.1;rw[z]at this;omega) (L.2.1 _ _ _ _ hW1.pg.1.2 hW1.pg.1.1) hW1.pg.1.1) (Nat.le_trans hlo hW.size) (by omega) (by omega) a (s.last+1)).mono ?_
   rintro e w' (⟨u,rfl,H⟩|⟨y,f,sa,sl,sc,pa,pl,pc,ka,kl,kc,rfl,H⟩)
   ·obtain⟨k1,k2,k3⟩:=H.out
    have hc:=(hW1.later k3).cells
    exact⟨⟨0,0,⟨#[]⟩,none,0,0,0,none,0,0,none,0,0,none,0,0⟩,u,rfl,Or.inl ⟨k1,k2.trans hE.symm,k3⟩,fun q _ hq=>k3.block q hq,k3.size,hc.1,hc.2.2.1⟩
   ·obtain⟨tk,L,k1,k2,k3,k4,k5,k6,k7,k8,k9,k10⟩:=H.out
    have hbx:w'.heap[p.b]? =some (.cells (cZ p s d) 72):=(k8.block p.b (Nat.lt_of_lt_of_le hsb hW.size) (by rw[h.own];omega)).trans hW1.box
    exact⟨⟨y.1.1,y.1.2.1,y.1.2.2,y.2.1.1,y.2.2.length,y.2.1.2,f,sa,sl,sc,pa,pl,pc,ka,kl,kc⟩,0,rfl,Or.inr ⟨rfl,hE.trans k1,y,tk,L,⟨rfl,rfl,rfl⟩,k2,k3,k4,k5,k6,k7,k8,k9,k10⟩,fun q h1 h2=>k8.block q h2 (by rw[hd0 q h1];omega),k8.size,ae hbx 0,ae hbx 2⟩
  ·obtain⟨W0,w3,k1,k2,k3,k4,k5⟩:=hC
   rcases k2 with⟨_,e,kb⟩|⟨e,_⟩
   ·rw[if_neg (by rw[<-e];exact hu)]at hr
    have hK:Kee (fun b=>b=q) w W:=((aj k1 fun b=>b=q).trans (aj kb fun b=>b=q) fun _ _ e=>e).trans k5 fun _ _ e=>e
    rw[hr]
    exact⟨e,d,h.kept hK fun b z=>by rw[z];exact hd0 q k3.1,hK.mono fun b hb z=>by omega,fun _ _=>rfl,by omega,by omega,by omega,by omega⟩
   ·exact absurd e hu
  ·obtain⟨W0,w3,k1,k2,k3,k4,k5⟩:=hC
   rcases k2 with⟨e,_⟩|⟨_,hE0,y,tk,L,⟨f1,f2,f3⟩,m1,m2,m3,m4,m5,m6,m7,m8,m9,m10,m11⟩
   ·exact absurd rfl e
   have hkk:Kee (fun q=>d.ow q=a) W0 w3:=⟨m7.os,m7.tape,m7.output,m7.size,m7.block⟩
   have hs1:=k1.size
   have hs2:=m7.size
   have hs3:=k5.size
   obtain⟨q1,q2⟩:=(h.later k1).turnP hpb hg hkk (j:=d.k+402) (fun q z=>by
    rcases z.1 with z|z
    ·exact Or.inl z
    ·exact Or.inr (by omega)) (by omega) (m9.mono (fun _ z=>z) (by omega) (P1.lie2 m9)) (by omega)
   generalize hd1:({d with ow:=FI d W0 w3 a,k:=d.k+402}:SyD)=d1 at q1 q2
   have ho1:∀b,d1.ow b=if W0.heap.size<=b/\b<w3.heap.size then a else d.ow b:=fun b=>by rw[<-hd1];rfl
   have hq0:d1.ow q=0:=by
    rw[ho1,if_neg (by omega)]
    exact hd0 q k3.1
   have hpos:∀b,W0.heap.size<=b->0<=d1.ow b:=fun b hb=>by
    rw[ho1]
    split
    ·omega
    ·rw[hd0 b (by omega)]
     exact Int.le_refl 0
   have h1:SyAt p (s.put a (nm,tk.state,tk.mail)) d1 W:=q1.kept k5 fun b z=>by rw[z];exact hq0
   have hu1:SyUn 0 402 d d1 w W:=by
    have e1:=((SyUp.later d k1).un.trans q2)
    obtain⟨x1,x2,x3,x4,x5,x6⟩:=e1
    exact⟨x1.trans k5 fun b hb z=>by omega,x2,by rw[<-hd1]at x3 ⊢;show d.k+402<=_;omega,x4,x5,x6⟩
   have hy:=dV k5 (D:=fun b=>W0.heap.size<=b/\b<w3.heap.size) (fun b z z2=>by omega) ⟨m5,In.offB (m6.mono fun b z=>z.1) m5⟩
   have hRR:RunR tk t d1 W:=by
    obtain⟨N,sd,sp,n1,n2,n3,n4,n5,n6,n7,n8,n9⟩:=m11.kept k5 fun b z1 _ z3 z4=>by omega
    have hfr:∀{m:Nat} {x:Tm m},In W.heap.size W m x->Off (fun b=>W0.heap.size+1<=b/\True) m x->Far d1 W x:=fun a1 a2=>⟨a1,a2.mono fun b z=>hpos b (by omega)⟩
    refine⟨N,_,sd,sp,n1,n2,n3,n4,n5,n6,fun z hz=>⟨(n7 z hz).1,hfr (n7 z hz).2.1 (n7 z hz).2.2⟩,fun z hz=>⟨(n8 z hz).1,hfr (n8 z hz).2.1 (n8 z hz).2.2⟩,fun b z=>⟨?_,hpos b (by have:=(n9 b z).1;omega)⟩⟩
    rcases z with z|z|z
    ·exact(n2.lt b z).2
    ·exact(n3.lt b z).2
    ·exact(n4.lt b z).2
   obtain⟨⟨z0,z1,z2⟩,⟨za,zc⟩,zl⟩:=y
   simp only[Prod.mk.injEq]at f1 f2
   obtain⟨rfl,rfl,rfl⟩:=f1
   obtain⟨rfl,rfl⟩:=f2
   rw[<-f3]
   have hes:d1.es=d.es:=by rw[<-hd1]
   refine(h1.tell jM a 0 _ _ _ _ _ _ _ (jm hy.1 m4) (by rw[hes];omega)).mono ?_
   rintro e w' ⟨rfl,H⟩
   obtain⟨d2,u1,u2⟩:=H.out.up h1
   have hqs:=(Array.getElem?_eq_some_iff.1 k4).1
   have hs4:=u2.1.size
   rw[m3]at u1
   refine⟨rfl,tk,d2,hE0,m1,u1,(hu1.trans u2.un).mono (by omega) (by omega),⟨k3.1,by omega,by rw[u2.2.1 q hqs];exact hq0, ?_⟩,m2,hRR.kee u2.1 u2.2.1⟩
   rw[u2.1.block q hqs (by rw[hq0];decide)]
   exact k4
  ·obtain⟨tk,d1,e1,e2,⟨n1,n2,n3,n4,n5⟩⟩:=hT
   obtain⟨N,b0,sd,sp,i1,i2,i3,i4,i5,i6,i7,i8,i9⟩:=n5
   have hst:=LA hpg e2
   have hpl:t.pl<=8:=by
    have:=hst.1.2.1
    rw[<-i6,List.length_map]at this
    omega
   refine(n1.made i3 i1.2.1 (by omega) fun z hz=>⟨(i8 z hz).1,(i8 z hz).2.1⟩).mono ?_
   rintro e w' ⟨v,b,rfl,H⟩
   obtain⟨o1,o2,o3⟩:=H.out
   rw[i6]at o2 o3
   have hn0:∀q,W.heap.size<=q->d1.ow q=0:=fun q hq=>by
    by_cases z:d1.ow q=0
    ·exact z
    ·have:=(n1.low q z).2
     omega
   refine⟨v,b,rfl,tk,d1,e1,e2,⟨n1.later o1,(n2.trans (SyUp.later d1 o1).un).mono (Nat.le_refl _) (Nat.le_refl _),⟨n3.1,Nat.lt_of_lt_of_le n3.2.1 o1.size,n3.2.2.1,eU o1 n3.2.2.2⟩,n4,RunR.kee ⟨N,b0,sd,sp,i1,i2,i3,i4,i5,i6,i7,i8,i9⟩ (aj o1 _) fun _ _=>rfl⟩,o2,fun hb=> ?_⟩
   obtain⟨bs,va,vc,r1,r2,r3,r4⟩:=o3 hb
   exact⟨bs,va,vc,W.heap.size,r1,r2,n2.1.size,hn0,r3,r4⟩
  ·obtain⟨tk,d1,e1,e2,n1,n2,n3,_⟩:=hT
   exact n3.2.2.2
  ·obtain⟨tk,d1,e1,e2,⟨n1,n2,n3,_⟩,_⟩:=hT
   exact n3.2.2.2
  ·obtain⟨tk,d1,e1,e2,⟨n1,n2,n3,n4,n5⟩,_⟩:=hT
   rw[if_pos e1,e2]at hr
   simp only at hr
   rw[n4]at hf ⊢
   rw[if_pos hf]at hr
   refine(n1.fin ha (by have:=n2.2.2.2.1;omega)).mono ?_
   rintro e w' ⟨rfl,H⟩
   obtain⟨d2,u1,u2⟩:=H.out
   rw[hr]
   exact⟨rfl,rfl,d2,u1,(n2.trans u2.un).mono (by omega) (by omega)⟩
  ·obtain⟨tk,d1,e1,e2,⟨n1,n2,n3,n4,n5⟩,n6,_⟩:=hT
   rw[if_pos e1,e2]at hr
   simp only at hr
   rw[n4]at hf
   rw[if_neg hf,if_pos n6.symm]at hr
   have hr1:=congrArg Prod.fst hr
   have hr2:=congrArg Prod.snd hr
   dsimp only at hr1 hr2
   refine(n1.fin (how:=2) ha (by have:=n2.2.2.2.1;omega)).mono ?_
   rintro e w' ⟨rfl,H⟩
   obtain⟨d2,u1,u2⟩:=H.out
   rw[<-hr1]at u1
   exact⟨rfl,hr2.symm,d2,u1,(n2.trans u2.un).mono (by omega) (by omega)⟩
  ·obtain⟨tk,d1,e1,e2,⟨n1,n2,n3,n4,n5⟩,n6,n7⟩:=hT
   rw[if_pos e1,e2]at hr
   simp only at hr
   rw[n4]at hf
   have hn6:¬Sy.made p.n p.prog p.room ((s.put a (nm,tk.state,tk.mail)).tell jM a 0 tk.message) tk.spawns=false:=fun z=>Bool.noConfusion (n6.trans z)
   rw[if_neg hf,if_neg hn6]at hr
   obtain⟨bs,va,vc,c,rfl,r2,r3,r4,r5,r6⟩:=n7 rfl
   obtain⟨N,b0,sd,sp,i1,i2,i3,i4,i5,i6,i7,i8,i9⟩:=n5
   have hst:=LA hpg e2
   have hsp:tk.spawns.length=t.pl:=by rw[<-i6,List.length_map];exact i1.2.1
   have hmy:Sy.may ((s.put a (nm,tk.state,tk.mail)).tell jM a 0 tk.message) t.pl=true:=by
    unfold Sy.made at n6
    rw[hsp]at n6
    exact(Bool.and_eq_true_iff.1 n6.symm).1
   have hF:=n1.follow (pa:=t.pa) (pl:=t.pl) (pc:=t.pc) ha tk hst t.y0 t.y1 t.y2 t.ya t.yl t.yc i2 i4 r5 ⟨i1.1,i1.2.2,r2,hsp⟩ i5 i7 (fun b z=> ?_) r6 (Nat.le_refl _) (fun q z _=>r4 q z) hmy (by have:=n2.2.2.1;omega) (by have:=n2.2.2.2.1;omega) (by have:=n2.2.2.2.2.1;omega) (by have:=n2.2.2.2.2.2;omega)
   ·rw[<-n4]at hF
    refine hF.mono ?_
    rintro e w' ⟨rfl,H⟩
    obtain⟨d2,u1,u2⟩:=H.out
    rw[hr]
    exact⟨rfl,rfl,d2,u1,n2.ug u2 fun q z=>by omega⟩
   ·rcases z with z|z|z
    ·exact(i9 b (Or.inl z)).2
    ·exact(i9 b (Or.inr (Or.inr z))).2
    ·rw[r4 b (r5.lt b z).1]
     exact Int.le_refl 0
end
theorem LZ (sb:Nat) (kd a b x0 x1:Int) (x2:ByteArray) (xa:Option Addr) (xl xc:Nat) (w:World) (R:Int->World->Prop)
    (HR:Hid (kd=1->∀W,Below w.heap.size w W->Calls Tryz.prog 17 #[.pointer (some ⟨sb,0,none⟩),.int .i64 a] W fun e w'=>∃v,e=.returned (.int .i64 v)/\Hid (R v w')))
    (HA:Hid (kd=2->∀W,Below w.heap.size w W->Calls Tryz.prog 18 #[.pointer (some ⟨sb,0,none⟩),.int .i64 a,.int .i64 b] W fun e w'=>∃v,e=.returned (.int .i64 v)/\Hid (R v w')))
    (HI:Hid (kd=3->∀W,Below w.heap.size w W->Calls Tryz.prog 19 #[.pointer (some ⟨sb,0,none⟩),.int .i64 a,.agg #[.int .i64 x0,.int .i64 x1,.string x2,.slice xa xl xc]] W fun e w'=>∃v,e=.returned (.int .i64 v)/\Hid (R v w')))
    (HE:Hid (¬(kd=1∨kd=2∨kd=3)->∀W,Below w.heap.size w W->R 1 W)):
    Calls Tryz.prog 6 #[.pointer (some ⟨sb,0,none⟩),.agg #[.int .i64 kd,.int .i64 a,.int .i64 b,.int .i64 x0,.int .i64 x1,.string x2,.slice xa xl xc]] w fun e w'=>∃v,e=.returned (.int .i64 v)/\Hid (R v w'):=by
 go_enter Tryz.func6,Tryz.ntmps6
 go_upto_region 1 with fail
 generalize hw2:w.alloc _=w2
 have HB:Hid (Below w.heap.size w w2):=by
  rw[<-hw2]
  exact(Below.refl _ _).alloc (Nat.le_refl _) _
 have hX:w2.heap[w.heap.size]? =some (.cells #[.int .i64 kd,.int .i64 a,.int .i64 b,.int .i64 x0,.int .i64 x1,.string x2,.slice xa xl xc] 32):=by
  rw[<-hw2]
  exact heap_alloc_new _ _
 generalize w.heap.size=q at*
 clear hw2
 have d0:w2.cell? ⟨q,0,none⟩=some (.int .i64 kd):=ae hX 0
 have d1:w2.cell? ⟨q,1,none⟩=some (.int .i64 a):=ae hX 1
 have d2:w2.cell? ⟨q,2,none⟩=some (.int .i64 b):=ae hX 2
 have d3:w2.cell? ⟨q,3,none⟩=some (.int .i64 x0):=ae hX 3
 have d4:w2.cell? ⟨q,4,none⟩=some (.int .i64 x1):=ae hX 4
 have d5:w2.cell? ⟨q,5,none⟩=some (.string x2):=ae hX 5
 have d6:w2.cell? ⟨q,6,none⟩=some (.slice xa xl xc):=ae hX 6
 clear hX
 by_cases h1:kd=1
 ·have HC:=hide (HR.out h1 _ HB.out)
  subst h1
  clear HR HA HI HE
  go_wp2_with fail
  refine HC.out.mono ?_
  rintro e w3 ⟨v,rfl,H3⟩
  go_wp2_with fail
  go_ret
  exact⟨v,rfl,H3.out⟩
 have e1:(kd==1)=false:=by simpa using h1
 by_cases h2:kd=2
 ·have HC:=hide (HA.out h2 _ HB.out)
  subst h2
  clear HR HA HI HE h1 e1
  go_wp2_with fail
  refine HC.out.mono ?_
  rintro e w3 ⟨v,rfl,H3⟩
  go_wp2_with fail
  go_ret
  exact⟨v,rfl,H3.out⟩
 have e2:(kd==2)=false:=by simpa using h2
 by_cases h3:kd=3
 ·have HC:=hide (HI.out h3 _ HB.out)
  subst h3
  clear HR HA HI HE h1 e1 h2 e2
  go_wp2_with fail
  refine HC.out.mono ?_
  rintro e w3 ⟨v,rfl,H3⟩
  go_wp2_with fail
  go_ret
  exact⟨v,rfl,H3.out⟩
 have e3:(kd==3)=false:=by simpa using h3
 have HQ:=hide (HE.out (by omega) _ HB.out)
 clear HR HA HI HE
 go_wp2_with fail
 go_ret
 exact⟨1,rfl,HQ.out⟩
section
variable {p:SyP} {s:Sy} {d:SyD} {w:World}
theorem SyAt.do (h:SyAt p s d w) {kd a b:Int} (hab:I2 (a,b)) {m:Nat} (x:Tm (m+1)) (hx:In w.heap.size w (m+1) x/\Off (fun q=>¬1<=d.ow q) (m+1) x) (hN:(nodes (m+1) x).length<=2097152) (hk:d.k<=46000) (hL:d.es.length<=96000) (hwn:d.wn<=800000) (hbn:d.bn<=800000):
    Calls Tryz.prog 6 #[.pointer (some ⟨p.b,0,none⟩),.agg #[.int .i64 kd,.int .i64 a,.int .i64 b,.int .i64 x.1.1,.int .i64 x.1.2.1,.string x.1.2.2,.slice x.2.1.1 x.2.2.length x.2.1.2]] w fun e w'=>∃v,e=.returned (.int .i64 v)/\Hid (v=(s.do p.n p.prog p.room kd a b (m+1) x).2/\∃d',SyAt p (s.do p.n p.prog p.room kd a b (m+1) x).1 d' w'/\SyUn 201 402 d d' w w'):=by
 obtain⟨r,hr⟩:∃r,r=s.do p.n p.prog p.room kd a b (m+1) x:=⟨_,rfl⟩
 rw[<-hr]
 unfold Sy.do at hr
 refine LZ p.b kd a b x.1.1 x.1.2.1 x.1.2.2 x.2.1.1 x.2.2.length x.2.1.2 w (fun v w'=>v=r.2/\∃d',SyAt p r.1 d' w'/\SyUn 201 402 d d' w w') (fun e W hW=> ?_) (fun e W hW=> ?_) (fun e W hW=> ?_) fun e W hW=> ?_
 ·rw[if_pos e]at hr
  refine((h.later hW).run hab.1 hk hL hwn hbn).mono ?_
  rintro e w' ⟨v,rfl,H⟩
  obtain⟨k1,d',k2,k3⟩:=H.out
  rw[hr]
  exact⟨v,rfl,k1,d',k2,((SyUp.later d hW).un.trans k3).mono (by omega) (by omega)⟩
 ·rw[if_neg (by omega),if_pos e]at hr
  refine((h.later hW).arrive hab (by omega) (by omega) (by omega)).mono ?_
  rintro e w' ⟨v,rfl,H⟩
  obtain⟨k1,d',k2,k3⟩:=H.out
  rw[hr]
  exact⟨v,rfl,k1,d',k2,((SyUp.later d hW).un.trans k3).mono (by omega) (by omega)⟩
 ·rw[if_neg (by omega),if_neg (by omega),if_pos e]at hr
  refine((h.later hW).inject hab.1 x ⟨(hx.1.below hW).mono hW.size,hx.2⟩ hN (by omega) (by omega)).mono ?_
  rintro e w' ⟨v,rfl,H⟩
  obtain⟨k1,d',k2,k3⟩:=H.out
  rw[hr]
  exact⟨v,rfl,k1,d',k2,((SyUp.later d hW).un.trans k3).mono (by omega) (by omega)⟩
 ·rw[if_neg (by omega),if_neg (by omega),if_neg (by omega)]at hr
  rw[hr]
  exact⟨rfl,d,h.later hW,(SyUp.later d hW).un.mono (by omega) (by omega)⟩
end
theorem GY (la:Option Addr) (ll lc:Nat) (room E:Int) (w:World) (Y:Int->Int->ByteArray->Option Addr->Nat->Nat->World->Prop) (F:Option Addr->Nat->Nat->World->Prop) (R:Value->Int->World->Prop)
    (HT:Hid (Calls Tryz.prog 23 #[.slice la ll lc] w fun e w'=>∃y0 y1 y2 ya yl yc,e=.returned (.tuple #[.agg #[.int .i64 y0,.int .i64 y1,.string y2,.slice ya yl yc],.int .i64 E])/\Hid (Y y0 y1 y2 ya yl yc w')))
    (HF:Hid (E=0->(0<=room/\room<=1000)->∀y0 y1 y2 ya yl yc W W',Y y0 y1 y2 ya yl yc W->Below W.heap.size W W'->Calls Tryz.prog 24 #[.agg #[.int .i64 y0,.int .i64 y1,.string y2,.slice ya yl yc]] W' fun e w'=>∃a l c u,e=.returned (.tuple #[.slice a l c,.int .i64 u])/\Hid (F a l c w')))
    (HE:Hid (∀y0 y1 y2 ya yl yc W W',Y y0 y1 y2 ya yl yc W->Below W.heap.size W W'->(E≠0->R (.pointer none) E W')/\(E=0->¬(0<=room/\room<=1000)->R (.pointer none) 1 W')))
    (HG:Hid (∀a l c W,E=0->(0<=room/\room<=1000)->F a l c W->R (.pointer (some ⟨W.heap.size,0,none⟩)) 0 (W.alloc (.cells #[.slice a l c,.int .i64 room,.int .i64 0,.map none,.map none,.map none,.slice none 0 0] 72)))):
    Calls Tryz.prog 9 #[.slice la ll lc,.int .i64 room] w fun e w'=>∃v u,e=.returned (.tuple #[v,.int .i64 u])/\Hid (R v u w'):=by
 go_enter Tryz.func9,Tryz.ntmps9
 go_wp2_with fail
 refine HT.out.mono ?_
 rintro e w1 ⟨y0,y1,y2,ya,yl,yc,rfl,H1⟩
 clear HT
 have HBA:Hid (∀o,Below w1.heap.size w1 (w1.alloc o)):=fun o=>(Below.refl _ _).alloc (Nat.le_refl _) o
 by_cases hE:E=0
 rotate_left
 ·have HQ:Hid (∀o,R (.pointer none) E (w1.alloc o)):=fun o=>(HE.out _ _ _ _ _ _ _ _ H1.out (HBA.out o)).1 hE
  have hEf:(E==0)=false:=by simpa using hE
  clear HF HE HG H1
  go_wp2_with fail
  exact bodyPost_ret (v:=.tuple #[.pointer none,.int .i64 E]) (by simp[results,Tryz.results9,go_sem]) rfl ⟨_,_,rfl,HQ.out _⟩
 subst hE
 by_cases hr:0<=room/\room<=1000
 rotate_left
 ·have HQ:Hid (∀o,R (.pointer none) 1 (w1.alloc o)):=fun o=>(HE.out _ _ _ _ _ _ _ _ H1.out (HBA.out o)).2 rfl hr
  clear HF HE HG H1
  by_cases h0:room<0
  ·go_wp2_with fail
   exact bodyPost_ret (v:=.tuple #[.pointer none,.int .i64 1]) (by simp[results,Tryz.results9,go_sem]) rfl ⟨_,_,rfl,HQ.out _⟩
  ·have h1:1000<room:=by omega
   go_wp2_with fail
   exact bodyPost_ret (v:=.tuple #[.pointer none,.int .i64 1]) (by simp[results,Tryz.results9,go_sem]) rfl ⟨_,_,rfl,HQ.out _⟩
 have HFF:=hide (fun W'=>HF.out rfl hr y0 y1 y2 ya yl yc w1 W' H1.out)
 have HGG:=hide (fun a l c W=>HG.out a l c W rfl hr)
 have h0:¬room<0:=by omega
 have h1:¬1000<room:=by omega
 clear HF HG HE H1
 go_wp2_with fail
 refine(HFF.out _ (HBA.out _)).mono ?_
 rintro e w2 ⟨a,l,c,u,rfl,H2⟩
 have HQ:=hide (HGG.out _ _ _ _ H2.out)
 clear HFF HGG H2
 go_wp2_with fail
 exact bodyPost_ret (v:=.tuple #[.pointer (some ⟨w2.heap.size,0,none⟩),.int .i64 0]) (by simp[results,Tryz.results9,go_sem]) rfl ⟨_,_,rfl,HQ.out⟩
def PM:Sy:=⟨0,[],fun _=> [],fun _=>false,[]⟩
def BR (n:Nat) (l:List (Bh (n+1))) (room:Int):Int:=if lM n l≠0 then lM n l else if 0<=room/\room<=1000 then 0 else 1
def Pj (n:Nat) (l:List (Bh (n+1))) (room:Int) (w:World) (v:Value) (u:Int) (w':World):Prop:=
 u=BR n l room/\Below w.heap.size w w'/\(u≠0->v=.pointer none)/\(u=0->∃(p:SyP) (d:SyD),v=.pointer (some ⟨p.b,0,none⟩)/\SyAt p PM d w'/\(d.k=0/\d.es=[]/\d.wn=0/\d.bn=0)/\p.room=room/\p.lo=w.heap.size/\p.n=n+5/\same (p.n+6) (bM p.n p.prog) (n+6) (bM n l)=true)
theorem Bz (n:Nat) (l:List (Bh (n+1))) (la:Option Addr) (lc:Nat) (room:Int) (w:World) (hl:PgIn (n+1) w.heap.size w la l) (hlc:l.length<=lc) (hmx:lc<=maxLen) (hN:iZ (n+1) l=true->(nodes (n+6) (bM n l)).length<=2097152):
    Calls Tryz.prog 9 #[.slice la l.length lc,.int .i64 room] w fun e w'=>∃v u,e=.returned (.tuple #[v,.int .i64 u])/\Hid (Pj n l room w v u w'):=by
 refine GY la l.length lc room (lM n l) w (fun y0 y1 y2 ya yl yc W=>Below w.heap.size w W/\∃y:Tm (n+6),(y.1=(y0,y1,y2)/\y.2.1=(ya,yc)/\y.2.2.length=yl)/\In W.heap.size W (n+6) y/\same (n+6) y (n+6) (KZ n l)=true)
  (fun a L c W=>∃q:List (Bh (n+6)),q.length=L/\(∃W0,Below w.heap.size w W0/\Below W0.heap.size W0 W)/\(L<=c/\c<=maxLen)/\PgIn (n+6) W.heap.size W a q/\tF (iU (n+6) fun b=>w.heap.size<=b) (fun b=>w.heap.size<=b) a q/\lM (n+5) q=0/\same (n+11) (bM (n+5) q) (n+6) (bM n l)=true) (Pj n l room w) ?_ (fun hE hr y0 y1 y2 ya yl yc W W' hY hW=> ?_) (fun y0 y1 y2 ya yl yc W W' hY hW=>⟨fun hE=> ?_,fun hE hr=> ?_⟩) fun a L c W hE hr hF=> ?_
 ·refine(Mg n l la lc hlc hmx w.heap.size w hl (Nat.le_refl _) hN).mono ?_
  rintro e w' ⟨y,rfl,H⟩
  obtain⟨h1,h2,h3,h4⟩:=H.out
  exact⟨y.1.1,y.1.2.1,y.1.2.2,y.2.1.1,y.2.2.length,y.2.1.2,rfl,h1,y,⟨rfl,rfl,rfl⟩,h2,h4⟩
 ·obtain⟨hb,y,⟨f1,f2,f3⟩,hy,hs⟩:=hY
  obtain⟨⟨z0,z1,z2⟩,⟨za,zc⟩,zl⟩:=y
  simp only[Prod.mk.injEq]at f1 f2
  obtain⟨rfl,rfl,rfl⟩:=f1
  obtain⟨rfl,rfl⟩:=f2
  subst f3
  obtain⟨t1,t2,t3⟩:=IK hE hs
  refine(La (n+5) (n+6) (Nat.le_refl _) _ W'.heap.size W' ((hy.below hW).mono hW.size) (dS t1) (Nat.le_refl _)).mono ?_
  rintro e w' ⟨q,a,c,rfl,H⟩
  obtain⟨k1,k2,k3,k4,k5,k6⟩:=H.out
  obtain⟨z,hz1,hz2⟩:=k6 t2
  obtain⟨o1,o2,o3,o4,o5⟩:=t3 z q hz1 hz2
  have hb2:=hb.trans (hW.mono hb.size)
  have hs2:=hb2.size
  have L:=bi (dw (n+6)) 2 (nK (n+6)) a
  rw[(iw o2).2.2,(iw hE).2.2]at o3
  exact⟨a,q.length,c,_,rfl,q,rfl,⟨W',hb2,k1⟩,k2,k3,L.1 _ _ _ (fun b z=>by omega) k4,o2,o3⟩
 ·have hb:=hY.1.trans (hW.mono hY.1.size)
  exact⟨by unfold BR;rw[if_pos hE],hb,fun _=>rfl,fun z=>absurd z hE⟩
 ·have hb:=hY.1.trans (hW.mono hY.1.size)
  exact⟨by unfold BR;rw[if_neg (by rw[hE];decide),if_neg hr],hb,fun _=>rfl,(fun z=>by cases z)⟩
 ·obtain⟨q,rfl,⟨W0,b1,b2⟩,hc,hp,ho,hq,hs⟩:=hF
  have hb:=b1.trans (b2.mono b1.size)
  have hsz:=hb.size
  have hbA:Below W.heap.size W (W.alloc (.cells #[.slice a q.length c,.int .i64 room,.int .i64 0,.map none,.map none,.map none,.slice none 0 0] 72)):=(Below.refl _ _).alloc (Nat.le_refl _) _
  generalize hW1:W.alloc (.cells #[.slice a q.length c,.int .i64 room,.int .i64 0,.map none,.map none,.map none,.slice none 0 0] 72)=W1 at hbA
  have hbx:W1.heap[W.heap.size]? =some (.cells #[.slice a q.length c,.int .i64 room,.int .i64 0,.map none,.map none,.map none,.slice none 0 0] 72):=by
   rw[<-hW1]
   exact heap_alloc_new _ _
  have hlt:=(Array.getElem?_eq_some_iff.1 hbx).1
  refine⟨by unfold BR;rw[if_neg (by rw[hE];decide),if_pos hr],hb.trans (hbA.mono hb.size),fun z=>absurd rfl z,fun _=>⟨⟨w.heap.size,W.heap.size,room,n+5,q,a,c⟩,⟨fun b=>if b=W.heap.size then -5 else if w.heap.size<=b/\b<W.heap.size then -4 else 0,none,[],none,0,fun _=> [],fun _=>kL,none,0,.slice none 0 0,[],0⟩,rfl, ?_,⟨rfl,rfl,rfl,rfl⟩,rfl,rfl,rfl,hs⟩⟩
  have L:=bi (dw (n+6)) 2 (nK (n+6)) a
  refine⟨fun b z=> ?_,hbx,if_pos rfl,⟨⟨?_, ?_⟩,hc.1,hc.2,hq, ?_⟩,Or.inl ⟨rfl,rfl⟩,⟨rfl,List.nodup_nil,by simp[PM],by decide,by decide,by simp[PM]⟩, ?_,⟨⟨hsz,(oW hbx).1,Or.inl ⟨rfl,rfl,rfl⟩⟩, ?_,fun _=>rfl,fun _=>Nat.zero_le _, ?_⟩,⟨⟨hsz,(oW hbx).2,Or.inl ⟨rfl,rfl⟩⟩, ?_,(fun b z=>by cases z)⟩,⟨World.ownsRow_nil _ _ _ _,(fun b z=>by cases z)⟩,rfl,(fun e he=>by cases he)⟩
  ·have z:(if b=W.heap.size then (-5:Int)else if w.heap.size<=b/\b<W.heap.size then -4 else 0)≠0:=z
   show w.heap.size<=b/\b<W1.heap.size
   split at z
   ·omega
   ·split at z
    ·omega
    ·exact absurd rfl z
  ·exact L.2.2.2.1 _ _ _ _ hbA.size (L.2.2.1 _ _ _ W1 _ (fun b z=>hbA.block b z.2) (L.2.1 _ _ _ _ ho hp) hp)
  ·refine L.1 _ _ _ (fun b z=> ?_) (L.2.1 _ _ _ _ ho hp)
   exact(if_neg (by omega)).trans (if_pos ⟨z.1,z.2⟩)
  ·rw[jf _ _ _ _ hs]
   exact hN (iw hE).1
  ·intro k b z
   cases z
  ·intro b z
   rcases z with z|z|⟨k,_,z⟩
   ·exact Or.inl z
   ·cases z
   ·cases z
  ·intro k y hy
   cases hy
  ·intro k hk
   cases hk
end Go.Proofs.YtmbjgiaebneodaaGreat
